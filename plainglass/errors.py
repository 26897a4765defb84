"""The refusals of the program, one class for each."""


# Any refusal.
class GlassError(ValueError):
    pass


# Bytes that are not what they are taken for; at is the place of the first byte at which they could not go on.
class Fault(GlassError):
    def __init__(self, at):
        self.at = at


# A deed that does not fit; place is how many deeds stand ahead of it.
class NoDeed(GlassError):
    def __init__(self, place):
        self.place = place


# A number that is no character's.
class NoPoint(GlassError):
    pass


# A node that is not there, or is of another kind than asked for.
class NoNode(GlassError):
    pass


# A worth that is no whole number, or too long a one.
class NotWhole(GlassError):
    pass


# Characters that are no pointer.
class NoPointer(GlassError):
    pass


# Parts that lead to nothing.
class NotThere(GlassError):
    pass


# More brackets begun and not ended than a text may have.
class TooDeep(GlassError):
    pass


# Two values that no merge leads between.
class NoMerge(GlassError):
    pass
