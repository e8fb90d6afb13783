"""Papers, which tell an answer and what shows it."""


def fixed(value):
    """The value with tuples in the place of lists, all the way in; other values stay."""
    if isinstance(value, (list, tuple)):
        return tuple([fixed(item) for item in value])
    return value


def told_by(paper):
    """All that two papers must have in common to be equal."""
    # No two classes of papers have one name: so the name stands for the class.
    return (paper.__class__.__name__, paper.word, paper.parts)


class Paper:
    """A word and parts; true."""

    def __init__(self, word, *parts):
        self.word = fixed(word)
        self.parts = fixed(parts)

    def __eq__(self, other):
        return isinstance(other, Paper) and told_by(self) == told_by(other)

    def __bool__(self):
        return True


class Denial(Paper):
    """A paper that says no; false."""

    def __init__(self, word, *parts):
        self.word = fixed(word)
        self.parts = fixed(parts)

    def __eq__(self, other):
        return isinstance(other, Denial) and told_by(self) == told_by(other)

    def __bool__(self):
        return False
