"""The line and the column of a place: [8.2]."""

from plainglass.signs import LINE_END


def line(row, at):
    number = 1
    begin = 0
    for place, byte in enumerate(row[:at]):
        if byte == LINE_END:
            number += 1
            begin = place + 1
    return (number, 1 + at - begin)
