"""Of what kind a thing is, asked of things that may be anything (DOC.md 0.2, 0.3)."""

MOST_HOUSES = 64


def is_integer(thing):
    """Whether a thing is an integer; a flag is none."""
    return isinstance(thing, int) and not isinstance(thing, bool)


def is_between(least, most, thing):
    """Whether a thing is an integer from the least to the most one."""
    return is_integer(thing) and least <= thing <= most


def is_number(thing):
    """Whether a thing is an integer from 0 on."""
    return is_integer(thing) and thing >= 0


def is_house(many, thing):
    """Whether a thing is a house where there are so many houses."""
    return is_between(0, many - 1, thing)


def is_many(thing):
    """Whether a thing is how many houses a forest or a shape may have."""
    return is_between(1, MOST_HOUSES, thing)


def word_of(thing):
    """The string that a tuple begins with, None of anything else."""
    if not isinstance(thing, tuple) or len(thing) == 0 or not isinstance(thing[0], str):
        return None
    return thing[0]


def fit(many, parts, form):
    """Whether the parts are of the kinds that the form names, where there are so many houses."""
    if len(parts) != len(form):
        return False
    return all([_is_of(many, part, kind) for part, kind in zip(parts, form)])


def _is_of(many, part, kind):
    """Whether a part is of the kind of this name."""
    if kind == "house":
        return is_house(many, part)
    if kind == "number":
        return is_number(part)
    if kind == "integer":
        return is_integer(part)
    return isinstance(part, str) and part in ("least", "greatest")
