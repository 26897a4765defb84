"""Characters as bytes, and bytes as characters: UTF-8, as [1.1] tells it."""

from plainglass.errors import Fault, NoPoint

LAST_POINT = 1114111
# From here to there the numbers are kept for pairs of escapes, and are no character's.
FIRST_PAIRED = 55296
LAST_PAIRED = 57343

# What the first byte holds beside the number's own bits, by how many bytes stand behind it.
MARKS = (0, 192, 224, 240)
# Each byte behind the first one is this and six bits of the number.
TAIL_MARK = 128
TAIL = (128, 191)


def is_point(point):
    return 0 <= point < FIRST_PAIRED or LAST_PAIRED < point <= LAST_POINT


def eight(point):
    # The number stays out of the error's words: Python writes out no number of too many figures.
    if not is_point(point):
        raise NoPoint("a number that is no character's")
    if point < 128:
        return [point]
    if point < 2048:
        return [MARKS[1] + point // 64, tail(point)]
    if point < 65536:
        return [MARKS[2] + point // 4096, tail(point // 64), tail(point)]
    return [MARKS[3] + point // 262144, tail(point // 4096), tail(point // 64), tail(point)]


def tail(bits):
    return TAIL_MARK + bits % 64


def eights(numbers):
    row = []
    for point in numbers:
        row.extend(eight(point))
    return row


def points(row):
    found = []
    at = 0
    while at < len(row):
        end = character_end(row, at)
        found.append(character(row, at, end))
        at = end
    return found


# The place behind the character that begins at a place.
def character_end(row, at):
    spans = tails(row[at])
    if spans is None:
        raise Fault(at)
    end = at + 1
    for span in spans:
        if end == len(row) or not span[0] <= row[end] <= span[1]:
            raise Fault(end)
        end += 1
    return end


# The spans, each from least to greatest, in which the bytes behind a character's first byte lie one by one;
# None where no character begins with the byte.
def tails(byte):
    if 0 <= byte < 128:
        return []
    if 194 <= byte < 224:
        return [TAIL]
    if 224 <= byte < 240:
        return [second_of_three(byte), TAIL]
    if 240 <= byte < 245:
        return [second_of_four(byte), TAIL, TAIL]
    return None


# Below 160 behind 224 a longer form would stand, above 159 behind 237 a number kept for pairs.
def second_of_three(byte):
    if byte == 224:
        return (160, 191)
    if byte == 237:
        return (128, 159)
    return TAIL


# Below 144 behind 240 a longer form would stand, above 143 behind 244 a number beyond the last.
def second_of_four(byte):
    if byte == 240:
        return (144, 191)
    if byte == 244:
        return (128, 143)
    return TAIL


# The number of the character whose bytes go from at to ahead of end.
def character(row, at, end):
    number = row[at] - MARKS[end - at - 1]
    for byte in row[at + 1:end]:
        number = number * 64 + byte - TAIL_MARK
    return number
