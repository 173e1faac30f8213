"""Shapes to try, and an own reading of them that follows the words of the document (DOC.md 2, 3).

A shape is worked on here as a list of lists: up, left, right, turned, added, value.
"""

import random

UP, LEFT, RIGHT, TURNED, ADDED, VALUE = range(6)


def opened(shape):
    """A shape as a list of lists."""
    return [list(part) for part in shape]


def closed(parts):
    """A list of lists as a shape."""
    return tuple(tuple(part) for part in parts)


def judged(thing):
    """Whether a thing is a shape, asked one word of the point behind the other."""
    if type(thing) is not tuple or len(thing) not in range(1, 65):
        return False
    places = list(range(len(thing)))
    for part in thing:
        if type(part) is not tuple or len(part) != 6:
            return False
        for near in part[:3]:
            if near is not None and (type(near) is not int or near not in places):
                return False
        if [type(item) for item in part[3:]] != [bool, int, int]:
            return False
    for place in places:
        left, right = thing[place][LEFT], thing[place][RIGHT]
        if left is not None and left == right:
            return False
        for son in (left, right):
            if son is not None and thing[son][UP] != place:
                return False
    for place in places:
        seen = []
        while place is not None:
            if place in seen:
                return False
            seen.append(place)
            place = thing[place][UP]
    return True


def sons(parts, house):
    """The sons of a house."""
    return [son for son in parts[house][LEFT:RIGHT + 1] if son is not None]


def tops(parts):
    """The houses that are no sons, ascending."""
    taken = [son for house in range(len(parts)) for son in sons(parts, house)]
    return [house for house in range(len(parts)) if house not in taken]


def part_order(parts, house):
    """The houses of a house's part of a row, in order."""
    if house is None:
        return []
    found = part_order(parts, parts[house][LEFT]) + [house] + part_order(parts, parts[house][RIGHT])
    return found[::-1] if parts[house][TURNED] else found


def own_rows(parts):
    """The rows, by tops, each in order."""
    return tuple(tuple(part_order(parts, top)) for top in tops(parts))


def own_told(parts):
    """The parents and the worths that a shape tells."""
    parents, worths = {}, {}
    for top in tops(parts):
        row = part_order(parts, top)
        for at, house in enumerate(row):
            parents[house] = row[at - 1] if at else parts[top][UP]
        waiting = [(top, 0)]
        for house, more in waiting:
            worths[house] = parts[house][VALUE] + more
            waiting.extend((son, more + parts[house][ADDED]) for son in sons(parts, house))
    places = range(len(parts))
    return tuple(parents[place] for place in places), tuple(worths[place] for place in places)


def line_up(parts, house):
    """The houses that one comes to from a house by going up, itself first."""
    line = []
    while house is not None:
        line.append(house)
        house = parts[house][UP]
    return line


def own_weights(parts):
    """How many houses come to each by going up."""
    lines = [line_up(parts, house) for house in range(len(parts))]
    return tuple(sum(house in line for line in lines) for house in range(len(parts)))


def own_rank(number):
    """The greatest r for which 2 ** r is not above the number."""
    found = 0
    while 2 ** (found + 1) <= number:
        found += 1
    return found


def own_potential(parts):
    """The sum of the ranks of all weights."""
    return sum(own_rank(weight) for weight in own_weights(parts))


def own_hand_on(parts, house):
    """What waits at a house is handed to its sons."""
    up, left, right, turned, added, value = parts[house]
    for son in sons(parts, house):
        parts[son][TURNED] = parts[son][TURNED] != turned
        parts[son][VALUE] += added
        parts[son][ADDED] += added
    parts[house] = [up, right if turned else left, left if turned else right, False, 0, value]


def own_turn_up(parts, house):
    """A house takes the place of its up."""
    ahead = parts[house][UP]
    own_hand_on(parts, ahead)
    own_hand_on(parts, house)
    above = parts[ahead][UP]
    if above is not None:
        for side in (LEFT, RIGHT):
            if parts[above][side] == ahead:
                parts[above][side] = house
    side = RIGHT if parts[ahead][RIGHT] == house else LEFT
    across = LEFT + RIGHT - side
    inner = parts[house][across]
    parts[house][UP] = above
    parts[house][across] = ahead
    parts[ahead][UP] = house
    parts[ahead][side] = inner
    if inner is not None:
        parts[inner][UP] = ahead


def own_steps(parts, house):
    """Steps until a house is a top: how many."""
    count = 0
    while house not in tops(parts):
        count += 1
        ahead = parts[house][UP]
        if ahead in tops(parts):
            turns = [house]
        elif parts[parts[ahead][UP]].index(ahead, LEFT, TURNED) == parts[ahead].index(house, LEFT, TURNED):
            turns = [ahead, house]
        else:
            turns = [house, house]
        for turned in turns:
            own_turn_up(parts, turned)
    return count


def own_reach(parts, house):
    """Reach a house: the paper, and the met ones."""
    before = own_potential(parts)
    first, met, at = 0, [], house
    while at is not None:
        line = line_up(parts, at)
        above = [place for place in line if place in tops(parts)][0]
        for place in reversed(line[:line.index(above) + 1]):
            own_hand_on(parts, place)
        first += own_steps(parts, at)
        met.append(at)
        at = parts[at][UP]
    for place, at in enumerate(met):
        parts[at][RIGHT] = met[place - 1] if place else None
    last = own_steps(parts, house)
    return (first, len(met), last, own_potential(parts) - before), met


def own_reached(shape, house):
    """The pair (shape, paper) behind reaching a house."""
    parts = opened(shape)
    paper, _ = own_reach(parts, house)
    return closed(parts), paper


def drawn_shape(chance, many, free=0.1, hangs=0.3, waits=0.5):
    """A shape by chance: houses stand free or hang with these odds, are sons else; waits: of flags, added."""
    order = list(range(many))
    chance.shuffle(order)
    parts = [[None, None, None, chance.random() < waits,
              chance.randrange(-50, 50) if chance.random() < waits else 0, chance.randrange(-99, 100)]
             for _ in range(many)]
    for place in range(1, many):
        house, odds = order[place], chance.random()
        if odds < free:
            continue
        above = order[chance.randrange(place)]
        parts[house][UP] = above
        side = chance.choice((LEFT, RIGHT))
        if odds >= free + hangs and parts[above][side] is None:
            parts[above][side] = house
    return closed(parts)


def row_shape(many, side, turned=(), added=()):
    """One deep row: the top is 0, each house has the next one for its son on the side, by turns if given two."""
    parts = [[None, None, None, place in turned, 0, place] for place in range(many)]
    for place in range(1, many):
        parts[place][UP] = place - 1
        parts[place - 1][side[place % len(side)]] = place
    for place in added:
        parts[place][ADDED] = 10 ** (place % 20)
    return closed(parts)


def hanging_shape(sizes):
    """Rows of these sizes, each but the first hanging at the deepest house of the one ahead."""
    parts = []
    for size in sizes:
        for place in range(size):
            house = len(parts)
            parts.append([house - 1 if house else None, None, None, house % 3 == 1, house % 5 - 2, 7 * house])
            if place:
                parts[house - 1][LEFT + house % 2] = house
    return closed(parts)


def some_shapes():
    """Shapes of many sorts, always the same."""
    chance = random.Random(23)
    found = [((None, None, None, False, 0, 0),), ((None, None, None, True, -7, 10 ** 20 - 1),)]
    for side in ((LEFT,), (RIGHT,), (LEFT, RIGHT), (LEFT, LEFT, RIGHT)):
        for many in (2, 3, 8, 64):
            found.append(row_shape(many, side))
            found.append(row_shape(many, side, range(0, many, 3), range(1, many, 2)))
            found.append(row_shape(many, side, range(many), range(many)))
    for sizes in ((1, 1), (1,) * 64, (2,) * 32, (1, 2, 3, 4), (9, 1, 1, 9), (16,) * 4, (63, 1), (1, 63)):
        found.append(hanging_shape(sizes))
    for many in (1, 2, 3, 4, 5, 7, 12, 31, 40, 64):
        for free, hangs, waits in ((0.1, 0.3, 0.5), (0, 0, 0.5), (0, 0.1, 0.9), (0.5, 0.2, 0.3), (0, 1, 0.5), (0, 0.3, 0)):
            found.append(drawn_shape(chance, many, free, hangs, waits))
    return found
