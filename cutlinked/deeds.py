"""Deeds: what they are, whether they can be done, and the forest behind them (DOC.md 1.2)."""

from cutlinked.errors import BadDeeds, NoDeed
from cutlinked.forests import Forest, many, root, way
from cutlinked.kinds import fit, word_of

# What stands behind the word of each deed.
FORMS = {
    "link": ("house", "house"),
    "cut": ("house",),
    "turn": ("house",),
    "put": ("house", "integer"),
    "add": ("house", "house", "integer"),
}


def is_deed(forest, thing):
    """Whether a thing is a deed that can be done in the forest."""
    return is_deed_form(many(forest), thing) and _can_be_done(forest, thing)


def behind(forest, deed):
    """The forest behind a deed."""
    if not is_deed(forest, deed):
        raise NoDeed()
    return _done(forest, deed)


def led(forest, deeds):
    """The forest behind a list or tuple of deeds, one behind the other."""
    if not isinstance(deeds, (list, tuple)):
        raise BadDeeds(-1)
    standing = forest
    for index, deed in enumerate(deeds):
        if not is_deed(standing, deed):
            raise BadDeeds(index)
        standing = _done(standing, deed)
    return standing


def is_deed_form(houses, thing):
    """Whether a thing has the form of a deed where there are so many houses."""
    word = word_of(thing)
    return word in FORMS and fit(houses, thing[1:], FORMS[word])


def _can_be_done(forest, deed):
    """Whether what has the form of a deed can be done in the forest."""
    word = deed[0]
    house = deed[1]
    if word == "link":
        return forest.parents[house] is None and root(forest, deed[2]) != house
    if word == "cut":
        return forest.parents[house] is not None
    if word == "add":
        return root(forest, house) == root(forest, deed[2])
    return True


def _done(forest, deed):
    """The forest behind a deed that can be done."""
    word = deed[0]
    house = deed[1]
    if word == "link":
        return Forest(_with_item(forest.parents, house, deed[2]), forest.worths)
    if word == "cut":
        return Forest(_with_item(forest.parents, house, None), forest.worths)
    if word == "turn":
        return Forest(_turned_parents(forest, house), forest.worths)
    if word == "put":
        return Forest(forest.parents, _with_item(forest.worths, house, deed[2]))
    return Forest(forest.parents, _raised_worths(forest, way(forest, house, deed[2]), deed[3]))


def _with_item(row, at, item):
    """The tuple with another item at this place."""
    return row[:at] + (item,) + row[at + 1:]


def _turned_parents(forest, house):
    """The parents when a house becomes the root of its tree, the ties as they were."""
    # Only the ties on the way to the old root look the other way from now on.
    line = way(forest, house, root(forest, house))
    parents = list(forest.parents)
    parents[house] = None
    for lower, upper in zip(line, line[1:]):
        parents[upper] = lower
    return tuple(parents)


def _raised_worths(forest, houses, number):
    """The worths when a number is added to those of some houses."""
    worths = list(forest.worths)
    for house in houses:
        worths[house] += number
    return tuple(worths)
