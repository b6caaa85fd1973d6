"""A text that is read from the front, and the fault that stops it."""

from makeups.characters import position

END = -1
MOST_DIGITS = 7


class Fault(Exception):
    """The text is no formula; place tells where it is at fault."""

    def __init__(self, place):
        self.place = place


def check(right, place):
    """Stops the reading with a fault at the place, if something isn't right."""
    if not right:
        raise Fault(place)


class Reader:
    """A text and the place of the character that is read next."""

    def __init__(self, text):
        self.text = text
        self.place = 0

    def peek(self):
        """The character that is read next, or END."""
        if self.place < len(self.text):
            return self.text[self.place]
        return END

    def advance(self):
        """Goes on behind the character that is read next."""
        self.place = self.place + 1

    def expect(self, character):
        """Reads this one character; no other can stand here."""
        check(self.peek() == character, self.place)
        self.advance()

    def read_number(self, digits):
        """Reads a number in these ten digits, up to where none of them follows."""
        value = position(digits, self.peek())
        check(value >= 0, self.place)
        self.advance()
        count = 1
        digit = position(digits, self.peek())
        while digit >= 0:
            check(value > 0 and count < MOST_DIGITS, self.place)
            value = 10 * value + digit
            self.advance()
            count = count + 1
            digit = position(digits, self.peek())
        return value
