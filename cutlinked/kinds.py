"""Of what kind a thing is, asked of things that may be anything (DOC.md 0.2, 0.3)."""


def is_integer(thing):
    """Whether a thing is an integer; a flag is none."""
    return isinstance(thing, int) and not isinstance(thing, bool)


def is_house(many, thing):
    """Whether a thing is a house where there are so many houses."""
    return is_integer(thing) and 0 <= thing < many
