"""Shapes: rows of houses, each a tree that can be turned, and what they tell (DOC.md 2)."""

from cutlinked.errors import NoHouse, NoNumber, NoShape, NoTurn
from cutlinked.forests import Forest, come_to_roots
from cutlinked.kinds import is_house, is_integer, is_many


class Stand:
    """What a shape has of one house, to be changed in its place.

    Functions that change a shape work on the list of the stands of its houses.
    """

    def __init__(self, part):
        self.up, self.left, self.right, self.turned, self.added, self.value = part


def is_shape(thing):
    """Whether a thing is a shape."""
    if not isinstance(thing, tuple) or not is_many(len(thing)):
        return False
    if not all([_is_part(len(thing), part) for part in thing]):
        return False
    if not all([_has_its_sons(thing, house) for house in range(len(thing))]):
        return False
    return come_to_roots(tuple([part[0] for part in thing]))


def _is_part(many, thing):
    """Whether a thing can be by its form what a shape of so many houses has of one."""
    if not isinstance(thing, tuple) or len(thing) != 6:
        return False
    if not all([near is None or is_house(many, near) for near in thing[:3]]):
        return False
    return isinstance(thing[3], bool) and is_integer(thing[4]) and is_integer(thing[5])


def _has_its_sons(parts, house):
    """Whether the left and the right of a house are two houses, and it is the up of both."""
    sons = [son for son in parts[house][1:3] if son is not None]
    if len(sons) == 2 and sons[0] == sons[1]:
        return False
    return all([parts[son][0] == house for son in sons])


def rows(shape):
    """All rows, by tops, each the tuple of its houses in order."""
    stands = stands_of(shape)
    return tuple([row_in_order(stands, house) for house in range(len(stands)) if is_top(stands, house)])


def told_forest(shape):
    """The forest that a shape tells."""
    return forest_of(stands_of(shape))


def resting(forest):
    """The shape in which each house is a row by itself and hangs at its parent."""
    return tuple([(parent, None, None, False, 0, worth) for parent, worth in zip(forest.parents, forest.worths)])


def rank(number):
    """The greatest r for which 2 ** r is not above the number."""
    if not is_integer(number) or number < 1:
        raise NoNumber()
    return number.bit_length() - 1


def weights(shape):
    """For each house how many come to it by going up, itself too."""
    return _weights_of(stands_of(shape))


def potential(shape):
    """The sum of the ranks of all weights."""
    return potential_of(stands_of(shape))


def handed_on(shape, house):
    """The shape behind handing on at a house."""
    stands = stands_of(shape)
    need_house(stands, house)
    hand_on(stands, house)
    return shape_of(stands)


def turned_up(shape, house):
    """The shape behind turning up a house that is a son."""
    stands = stands_of(shape)
    need_house(stands, house)
    if is_top(stands, house):
        raise NoTurn()
    turn_up(stands, house)
    return shape_of(stands)


def stands_of(shape):
    """The list of the stands of all houses of a shape."""
    if not is_shape(shape):
        raise NoShape()
    return [Stand(part) for part in shape]


def shape_of(stands):
    """The shape that has these stands."""
    return tuple([(at.up, at.left, at.right, at.turned, at.added, at.value) for at in stands])


def need_house(stands, thing):
    """Raise NoHouse for what is no house of the shape."""
    if not is_house(len(stands), thing):
        raise NoHouse()


def is_top(stands, house):
    """Whether a house is no son."""
    up = stands[house].up
    return up is None or house not in (stands[up].left, stands[up].right)


def row_in_order(stands, top):
    """The tuple of the houses of a row in order."""
    return tuple(_part_in_order(stands, top, False))


def _part_in_order(stands, house, backwards):
    """The list of the houses of a house's part of a row in order, or backwards."""
    if house is None:
        return []
    stand = stands[house]
    # Turned within turned is as it was.
    backwards = backwards != stand.turned
    lefts = _part_in_order(stands, stand.left, backwards)
    rights = _part_in_order(stands, stand.right, backwards)
    if backwards:
        return rights + [house] + lefts
    return lefts + [house] + rights


def forest_of(stands):
    """The forest that is told."""
    parents = [None] * len(stands)
    for top in range(len(stands)):
        if is_top(stands, top):
            ahead = stands[top].up
            for house in row_in_order(stands, top):
                parents[house] = ahead
                ahead = house
    return Forest(tuple(parents), told_worths(stands))


def told_worths(stands):
    """The tuple of the values of all houses that are told."""
    return tuple([_told_worth(stands, house) for house in range(len(stands))])


def _told_worth(stands, house):
    """The value of a house, and what was added to all that it is a part of."""
    worth = stands[house].value
    while not is_top(stands, house):
        house = stands[house].up
        worth += stands[house].added
    return worth


def line_up(stands, house):
    """The list of the houses that one comes to by going up, the house itself first."""
    line = [house]
    while stands[line[-1]].up is not None:
        line.append(stands[line[-1]].up)
    return line


def _weights_of(stands):
    """The tuple of all weights."""
    found = [0] * len(stands)
    for house in range(len(stands)):
        for at in line_up(stands, house):
            found[at] += 1
    return tuple(found)


def potential_of(stands):
    """The sum of the ranks of all weights."""
    return sum([rank(weight) for weight in _weights_of(stands)])


def hand_on(stands, house):
    """Hand what waits at a house to its sons."""
    stand = stands[house]
    sons = [stands[son] for son in (stand.left, stand.right) if son is not None]
    if stand.turned:
        stand.left, stand.right = stand.right, stand.left
        stand.turned = False
        for son in sons:
            son.turned = not son.turned
    for son in sons:
        son.value += stand.added
        son.added += stand.added
    stand.added = 0


def turn_up(stands, house):
    """Turn up a house that is a son: it takes the place of its up, which becomes its son."""
    lower = stands[house]
    ahead = lower.up
    upper = stands[ahead]
    hand_on(stands, ahead)
    hand_on(stands, house)
    _take_place(stands, house, ahead)
    if upper.right == house:
        between = lower.left
        upper.right = between
        lower.left = ahead
    else:
        between = lower.right
        upper.left = between
        lower.right = ahead
    upper.up = house
    if between is not None:
        inner = stands[between]
        inner.up = ahead


def _take_place(stands, house, ahead):
    """Put a house where the one ahead is a son, hangs, or stands without up."""
    stand = stands[house]
    stand.up = stands[ahead].up
    if stand.up is None:
        return
    above = stands[stand.up]
    if above.left == ahead:
        above.left = house
    elif above.right == ahead:
        above.right = house
