"""Runs of JSON texts that come in pieces: [8.1]."""

from plainglass.errors import Fault
from plainglass.signs import LINE_END, is_white
from plainglass.values import value
from plainglass.walking import Walk


# A feed takes a run in pieces; found holds the values found so far.
class Feed:
    def __init__(self):
        self.found = []
        # How many bytes were taken, in all pieces.
        self.taken = 0
        # The walk over the text that is begun, and its bytes so far; None where none is begun.
        self.walk = None
        self.text = []
        # Whether a text may begin: no value stands ahead, or a line end stands behind it.
        self.parted = True

    def take(self, piece):
        for byte in piece:
            self.take_byte(byte)
            self.taken += 1

    def take_byte(self, byte):
        if self.walk is not None:
            self.go_on(byte)
        elif is_white(byte):
            self.parted = self.parted or byte == LINE_END
        elif self.parted:
            self.walk = Walk()
            self.text = []
            self.go_on(byte)
        else:
            raise Fault(self.taken)

    # Takes a byte of the text that is begun, or, where that is a number, the white byte behind it.
    def go_on(self, byte):
        if not self.walk.goes_on(byte):
            raise Fault(self.taken)
        self.text.append(byte)
        if self.walk.is_ended():
            self.end_text()
            self.parted = byte == LINE_END

    def end_text(self):
        self.found.append(value(self.text))
        self.walk = None

    def finish(self):
        if self.walk is None:
            return
        if not self.walk.is_whole():
            raise Fault(self.taken)
        self.end_text()
