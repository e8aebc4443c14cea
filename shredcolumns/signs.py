"""The bytes that schemas, rows and literals are written with, by name."""

QUOTE = 34
COMMA = 44
MINUS = 45
DIGIT_ZERO = 48
DIGIT_ONE = 49
DIGIT_NINE = 57
COLON = 58
SEMICOLON = 59
CHOICE_START = 60
EQUALS = 61
CHOICE_END = 62
BACKSLASH = 92
UNDERLINE = 95
LETTER_A = 97
LETTER_B = 98
LETTER_F = 102
LETTER_I = 105
LETTER_T = 116
LETTER_Z = 122
RECORD_START = 123
RECORD_END = 125

FIRST_PLAIN = 32
LAST_PLAIN = 126


def is_digit(sign):
    return DIGIT_ZERO <= sign <= DIGIT_NINE


def is_letter(sign):
    return LETTER_A <= sign <= LETTER_Z


def is_plain(byte):
    # Only these bytes stand as themselves in a literal; all others are told by two digits of base sixteen.
    return FIRST_PLAIN <= byte <= LAST_PLAIN and byte != QUOTE and byte != BACKSLASH
