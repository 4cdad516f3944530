"""Papers, which tell an answer and what shows it, and denials, which say no."""


def fixed(value):
    """The value with tuples in the place of lists, all the way in; other values stay."""
    if isinstance(value, (list, tuple)):
        return tuple([fixed(item) for item in value])
    return value


def _are_equal(one, other):
    """Whether a paper equals any value: of the same class, with equal words and parts."""
    return (isinstance(other, Paper) and one.__class__.__name__ == other.__class__.__name__
            and one.word == other.word and one.parts == other.parts)


class Paper:
    """An answer and what shows it; true."""

    def __init__(self, word, *parts):
        self.word = fixed(word)
        self.parts = fixed(parts)

    def __eq__(self, other):
        return _are_equal(self, other)

    def __bool__(self):
        return True


class Denial(Paper):
    """A paper that says no; false."""

    def __init__(self, word, *parts):
        Paper.__init__(self, word, *parts)

    def __eq__(self, other):
        return _are_equal(self, other)

    def __bool__(self):
        return False
