"""Characters, and the signs that rules are told by."""

LINE_FEED = 10
BLANK = 32
AND = 38
QUOTE = 39
SLASH = 47
ZERO = 48
NINE = 57
LESS = 60
EQUAL = 61
TILDE = 126

BLANKS = (32, 9, 10)
SIGNS = (38, 60, 61, 126, 47)


def is_character(number):
    return 0 <= number <= 1114111 and not 55296 <= number <= 57343


def is_text(row):
    return all([is_character(number) for number in row])


def is_blank(number):
    return number in BLANKS


def ends_string(number):
    return number in BLANKS or number in SIGNS


def is_digit(number):
    return ZERO <= number <= NINE
