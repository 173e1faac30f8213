"""Plain forests, walked from house to house (DOC.md 1.1)."""

from cutlinked.errors import BadForest, NoHouse
from cutlinked.kinds import is_house, is_integer, is_many


class Forest:
    """Houses in trees: for each its parent, None for a root, and its value."""

    def __init__(self, parents, worths):
        if not _are_parents(parents):
            raise BadForest("parents")
        if not _are_worths(worths, len(parents)):
            raise BadForest("worths")
        self.parents = parents
        self.worths = worths

    def __eq__(self, other):
        return isinstance(other, Forest) and self.parents == other.parents and self.worths == other.worths


def _are_parents(thing):
    """Whether a thing can be the parents of a forest."""
    if not isinstance(thing, tuple) or not is_many(len(thing)):
        return False
    if not all([parent is None or is_house(len(thing), parent) for parent in thing]):
        return False
    return come_to_roots(thing)


def come_to_roots(parents):
    """Whether going up from each house comes to a root."""
    sure = [parent is None for parent in parents]
    for house in range(len(parents)):
        line = []
        at = house
        while not sure[at]:
            # A way up that is longer than there are houses goes round in a ring.
            if len(line) == len(parents):
                return False
            line.append(at)
            at = parents[at]
        for passed in line:
            sure[passed] = True
    return True


def _are_worths(thing, houses):
    """Whether a thing can be the worths of a forest of so many houses."""
    if not isinstance(thing, tuple) or len(thing) != houses:
        return False
    return all([is_integer(worth) for worth in thing])


def many(forest):
    """How many houses a forest has."""
    return len(forest.parents)


def root(forest, house):
    """The root of a house."""
    return _way_up(forest, house)[-1]


def depth(forest, house):
    """How many ties lead from a house to its root."""
    return len(_way_up(forest, house)) - 1


def below(forest, house):
    """The lot of the houses on whose way to the root a house is, itself too."""
    _need_house(forest, house)
    return tuple([start for start in range(many(forest)) if house in _way_up(forest, start)])


def way(forest, one, other):
    """The houses on the way from one to other by ties, None if they are not joined."""
    meeting = common(forest, one, other)
    if meeting is None:
        return None
    rise = _way_up(forest, one)
    fall = _way_up(forest, other)
    rise = rise[:rise.index(meeting)]
    fall = fall[:fall.index(meeting)]
    return tuple(rise + [meeting] + fall[::-1])


def common(forest, one, other):
    """The deepest house on the ways of both to the root, None if they are not joined."""
    rise = _way_up(forest, one)
    for house in _way_up(forest, other):
        if house in rise:
            return house
    return None


def _way_up(forest, house):
    """The list of the houses from a house to its root."""
    _need_house(forest, house)
    line = [house]
    while forest.parents[line[-1]] is not None:
        line.append(forest.parents[line[-1]])
    return line


def _need_house(forest, thing):
    """Raise NoHouse for what is no house of the forest."""
    if not is_house(many(forest), thing):
        raise NoHouse()
