"""The fault that a text can have."""


class Fault(Exception):
    """Raised where a text can't be read: the fault's kind, 1 to 4, and its place in the text."""

    def __init__(self, kind, place):
        Exception.__init__(self, kind, place)
        self.kind = kind
        self.place = place
