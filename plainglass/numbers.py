"""What numbers are worth, exactly: [3.4].

Figures are read and written here one by one: Python's own int and str take only so many at once.
"""

from plainglass.errors import NoNode, NotWhole
from plainglass.signs import BIG_E, MINUS, NOUGHT, PLUS, POINT, SMALL_E

# A whole number that is divisible by ten more often is refused: it could be too long to be had.
MOST_NOUGHTS = 1000


def exact(row, tree, i):
    node = tree[i]
    if node[0] != "number":
        raise NoNode("a node that is no number")
    return worth(row[node[1]:node[2]])


# The pair that the bytes of a number write.
def worth(signs):
    base_end = first_of(signs, (SMALL_E, BIG_E))
    base = signs[:base_end]
    point = first_of(base, (POINT,))
    fraction = base[point + 1:]
    return lowered(signed(base[:point] + fraction), signed(signs[base_end + 1:]) - len(fraction))


# The place of the first byte that is one of these; behind the last byte where there is none.
def first_of(signs, sought):
    at = 0
    while at < len(signs) and signs[at] not in sought:
        at += 1
    return at


# The whole number that figures write, with a sign ahead of them or none; nought where there are no figures.
def signed(signs):
    if signs and signs[0] == MINUS:
        return -counted(signs[1:])
    if signs and signs[0] == PLUS:
        return counted(signs[1:])
    return counted(signs)


# The whole number that figures write.
def counted(figures):
    number = 0
    for figure in figures:
        number = 10 * number + figure - NOUGHT
    return number


# The pair of the same worth whose number is not divisible by ten, or nought.
def lowered(number, power):
    if number == 0:
        return (0, 0)
    while number % 10 == 0:
        number = number // 10
        power += 1
    return (number, power)


def whole(number, power):
    pair = lowered(number, power)
    if not 0 <= pair[1] <= MOST_NOUGHTS:
        raise NotWhole("no whole number, or one with too many noughts")
    raised = pair[0]
    for turn in range(pair[1]):
        raised = 10 * raised
    return raised


def told_number(number, power):
    pair = lowered(number, power)
    if pair[1] == 0:
        return figures_of(pair[0])
    return figures_of(pair[0]) + [SMALL_E] + figures_of(pair[1])


# The figures of a whole number, with a minus ahead below nought.
def figures_of(number):
    rest = abs(number)
    # The last figure first.
    found = [NOUGHT + rest % 10]
    rest = rest // 10
    while rest > 0:
        found.append(NOUGHT + rest % 10)
        rest = rest // 10
    if number < 0:
        found.append(MINUS)
    return found[::-1]
