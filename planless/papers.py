"""Papers: answers, and what shows them."""


def fixed(value):
    """Return the value with tuples in the place of lists, all the way in."""
    if isinstance(value, (list, tuple)):
        return tuple([fixed(item) for item in value])
    return value


class Paper:
    """An answer and what shows it; it is true."""

    def __init__(self, word, *parts):
        self.word = word
        self.parts = fixed(parts)

    def __eq__(self, other):
        # isinstance alone would let a paper be equal to one of a class below its own.
        if not isinstance(other, Paper) or self.__class__.__name__ != other.__class__.__name__:
            return False
        return (self.word, self.parts) == (other.word, other.parts)


class Denial(Paper):
    """A paper that says no; it is false."""

    def __bool__(self):
        return False
