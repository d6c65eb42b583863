"""Forms are read here, number by number from front to back."""

from wholeamounts.refusals import Fault

WRONG_MARK = 1
OUT_OF_BOUNDS = 2
NOT_BEHIND = 3
WRONG_HAND = 4
ENDS_EARLY = 5
WRONG_SIDE = 6
LEFT_OVER = 7

MOST_ELEMENT = 118
MOST_ISOTOPE = 500


class Reader:
    """A form's bytes, and the place up to which they have been read."""

    def __init__(self, form):
        self.form = form
        self.place = 0

    def expect_mark(self, mark):
        """Read the mark, byte by byte: a wrong byte is told even where the next one is missing."""
        for byte in mark:
            if self.place == len(self.form):
                raise Fault(ENDS_EARLY, self.place)
            if self.form[self.place] != byte:
                raise Fault(WRONG_MARK, self.place)
            self.place += 1

    def take(self, size):
        """Read that many bytes as they are."""
        end = self.place + size
        if end > len(self.form):
            raise Fault(ENDS_EARLY, len(self.form))
        taken = self.form[self.place:end]
        self.place = end
        return taken

    def number(self, size, least, most):
        """Read a number of that many bytes, the lowest first, and judge it when all of them are there."""
        start = self.place
        value = 0
        for byte in reversed(self.take(size)):
            value = value * 256 + byte
        if value < least or value > most:
            raise Fault(OUT_OF_BOUNDS, start)
        return value

    def finish(self):
        """Nothing may be left behind what has been read."""
        if self.place < len(self.form):
            raise Fault(LEFT_OVER, self.place)
