"""Examples as the document writes them, run row by row."""


def run_examples(case, text, names):
    """Run the examples of the text; names keeps what they set."""
    rows = [row for row in text.splitlines() if row.strip()]
    at = 0
    while at < len(rows):
        case.assertTrue(rows[at].startswith(">>> "), rows[at])
        source = rows[at][4:]
        at += 1
        if at == len(rows) or rows[at].startswith(">>> "):
            exec(source, names)
            continue
        check_answer(case, source, rows[at], names)
        at += 1


def check_answer(case, source, answer, names):
    if not answer.startswith("raises "):
        case.assertEqual(repr(eval(source, names)), answer, source)
        return
    word, _, field = answer[len("raises "):].partition("(")
    with case.assertRaises(ValueError, msg=source) as caught:
        eval(source, names)
    case.assertEqual(caught.exception.__class__.__name__, word, source)
    if field not in ("", ")"):
        case.assertEqual(list(vars(caught.exception).values()), [eval(field[:-1], names)], source)
