"""The numbers within which callers stay."""

MAX_WORDS = 8
MAX_WIDTH = 64
MAX_BITS = 8
MAX_TERMS = 1000
MAX_ROW = 400
MAX_DEEP = 12
MAX_TIMES = 10 ** 30
MAX_STEPS = 5000
# 10 ** 300, as a product: no exponent here is above 64.
MAX_LENGTH = 10 ** 60 * 10 ** 60 * 10 ** 60 * 10 ** 60 * 10 ** 60
MAX_PAIRS = 300
