"""Columns led by "xor" deeds to columns of one bit each."""


def lining(columns):
    """Deeds that lead the columns, none of which is a sum of others, to 1, 2, 4 and so on."""
    deeds = []
    for place in range(len(columns)):
        column = xored(columns[place], deeds)
        deeds = deeds + _to_one_bit(column, place)
    return deeds


def xored(column, deeds):
    """The column to which the "xor" deeds lead this one."""
    for _, to, by in deeds:
        column = column ^ ((column >> by & 1) << to)
    return column


def _to_one_bit(column, place):
    """Deeds that lead the column to its bit at the place alone, and leave those of lower bits alone."""
    deeds = []
    if not column >> place & 1:
        # It has some bit above, as it is no sum of lower bits.
        deeds.append(("xor", place, column.bit_length() - 1))
    for bit in range(column.bit_length()):
        if column >> bit & 1 and bit != place:
            deeds.append(("xor", bit, place))
    return deeds
