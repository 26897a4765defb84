"""The bytes that the grammar speaks of, by name, and the sorts of bytes in it."""

LINE_END = 10
BLANK = 32
QUOTE = 34
PLUS = 43
COMMA = 44
MINUS = 45
POINT = 46
SLASH = 47
NOUGHT = 48
NINE = 57
COLON = 58
BIG_E = 69
ROW_BEGIN = 91
BACKSLASH = 92
ROW_END = 93
SMALL_E = 101
SMALL_U = 117
FIELDS_BEGIN = 123
FIELDS_END = 125
TILDE = 126

WHITE = (9, 10, 13, 32)

# null, true and false: what stands behind each one's first byte.
WORDS = {110: (117, 108, 108), 116: (114, 117, 101), 102: (97, 108, 115, 101)}

# The byte behind a backslash, and the character that both together write.
SHORT_ESCAPES = {34: 34, 92: 92, 47: 47, 98: 8, 102: 12, 110: 10, 114: 13, 116: 9}


def is_white(byte):
    return byte in WHITE


def is_figure(byte):
    return NOUGHT <= byte <= NINE


# What a hexadecimal figure of either size is worth; None of other bytes.
def hex_worth(byte):
    if is_figure(byte):
        return byte - NOUGHT
    if 65 <= byte <= 70:
        return byte - 55
    if 97 <= byte <= 102:
        return byte - 87
    return None


# The bytes to come behind the first byte of null, true or false; None of other bytes.
def word_rest(byte):
    return WORDS.get(byte)


# The character that this byte writes behind a backslash; None where it writes none by itself.
def short_escape(byte):
    return SHORT_ESCAPES.get(byte)
