"""Going through a text of bytes from place to place, and the fault that ends it."""

# What stands where the text is over; no byte is below 0.
END = -1

NEW_LINE = 10
BLANK = 32
POINT = 46


class Fault(Exception):
    """A text that is not of its form, and the place where it's at fault."""

    def __init__(self, place):
        self.place = place


class Cursor:
    """A place in a text that is read up to end. The text itself is only looked at."""

    def __init__(self, text, place, end):
        self.text = text
        self.place = place
        self.end = end

    def byte(self):
        """The byte that stands here, or END."""
        if self.place == self.end:
            return END
        return self.text[self.place]

    def advance(self):
        """Go on behind the byte that stands here."""
        self.place += 1

    def take(self, wanted):
        """Go on behind the byte wanted; no other can stand here."""
        if self.byte() != wanted:
            raise Fault(self.place)
        self.advance()

    def take_word(self, word):
        """Go on behind the word; nothing else can stand here."""
        for sign in word:
            self.take(ord(sign))
