"""Kept forests: deeds and asks are done by reachings, each with its paper (DOC.md 4.1 to 4.3)."""

from cutlinked.asks import is_ask, sum_of, told_of_way
from cutlinked.deeds import is_deed
from cutlinked.errors import NoAsk, NoDeed
from cutlinked.reaching import most_for_reaching, reach
from cutlinked.shapes import (
    forest_of, hand_on, line_up, potential_of, rank, resting, row_in_order, shape_of, stands_of, told_worths,
)


class Kept:
    """A forest that is kept as a shape, with the papers of all reachings until now."""

    def __init__(self, forest):
        self._begin(stands_of(resting(forest)))

    def _begin(self, stands):
        """Begin with these stands, nothing being done until now."""
        self._stands = stands
        self._papers = []
        self._links = 0
        self._first_potential = potential_of(stands)

    def deed(self, thing):
        """Do a deed."""
        if not is_deed(self.forest(), thing):
            raise NoDeed()
        if thing[0] == "link":
            self._link(thing[1], thing[2])
        elif thing[0] == "cut":
            self._cut(thing[1])
        elif thing[0] == "turn":
            self._turn(thing[1])
        elif thing[0] == "put":
            self._put(thing[1], thing[2])
        else:
            self._add(thing[1], thing[2], thing[3])

    def ask(self, thing):
        """The answer to an ask."""
        if not is_ask(len(self._stands), thing):
            raise NoAsk()
        if len(thing) == 2:
            return self._answer_of_house(thing[0], thing[1])
        if thing[0] == "joined":
            return self._roots_if_alike(thing[1], thing[2]) is not None
        if thing[0] == "common":
            return self._common(thing[1], thing[2])
        return self._answer_of_way(thing)

    def shape(self):
        """The shape that stands."""
        return shape_of(self._stands)

    def forest(self):
        """The forest that the shape tells."""
        return forest_of(self._stands)

    def papers(self):
        """The list of the papers of all reachings until now."""
        return list(self._papers)

    def links(self):
        """How many links were done."""
        return self._links

    def spent(self):
        """The sum of the first, the met and the last of all papers."""
        return sum([first + met + last for first, met, last, _ in self._papers])

    def bound(self):
        """How much spent is at most."""
        many = len(self._stands)
        of_reachings = most_for_reaching(many) * len(self._papers)
        return of_reachings + 5 * rank(many) * self._links + 5 * self._first_potential

    def copy(self):
        """A Kept like this one, which goes on apart."""
        other = kept_of(self.shape())
        other._papers = self.papers()
        other._links = self._links
        other._first_potential = self._first_potential
        return other

    def _reach(self, house):
        """Reach a house, and note the paper: the list of the met ones."""
        paper, met = reach(self._stands, house)
        self._papers.append(paper)
        return met

    def _find_root(self, house):
        """Find the root of a house."""
        self._reach(house)
        at = house
        while self._stands[at].left is not None:
            at = self._stands[at].left
            # Only behind this it is sure which of its sons is the left one.
            hand_on(self._stands, at)
        self._reach(at)
        return at

    def _roots_if_alike(self, one, other):
        """Find the roots of two houses: the one root that they have, None if they are not joined."""
        top = self._find_root(one)
        return top if self._find_root(other) == top else None

    def _turn(self, house):
        """Reach a house and turn it: it becomes the root of its tree."""
        self._reach(house)
        stand = self._stands[house]
        stand.turned = not stand.turned

    def _open_way(self, one, other):
        """Open the way from one to other, joined ones: the row of other is the way."""
        self._turn(one)
        self._reach(other)

    def _link(self, house, other):
        """Let a root hang at another house."""
        self._find_root(house)
        self._find_root(other)
        self._reach(house)
        self._reach(other)
        stand = self._stands[house]
        stand.up = other
        self._links += 1

    def _cut(self, house):
        """Let go of all that is ahead of a house on its way from the root."""
        self._find_root(house)
        self._reach(house)
        stand = self._stands[house]
        ahead = self._stands[stand.left]
        ahead.up = None
        stand.left = None

    def _put(self, house, value):
        """Give a house this value."""
        self._reach(house)
        stand = self._stands[house]
        stand.value = value

    def _add(self, one, other, number):
        """Add a number to the values of all houses on a way."""
        top = self._find_root(one)
        self._find_root(other)
        self._open_way(one, other)
        stand = self._stands[other]
        stand.value += number
        stand.added += number
        # The way is closed by turning to the root that was.
        self._turn(top)

    def _answer_of_house(self, word, house):
        """The answer to an ask about a house alone."""
        if word == "root":
            return self._find_root(house)
        if word == "whole":
            return self._sum_below(self._find_root(house))
        self._reach(house)
        if word == "depth":
            return len(row_in_order(self._stands, house)) - 1
        return self._sum_below(house)

    def _sum_below(self, house):
        """How many houses are below one that was reached, and the sum of their values."""
        ahead = self._stands[house].left
        lines = [line_up(self._stands, start) for start in range(len(self._stands))]
        # What comes to it by way of its left son is not below it, but beside it or above.
        houses = [line[0] for line in lines if house in line and ahead not in line]
        return sum_of(houses, told_worths(self._stands))

    def _common(self, one, other):
        """The deepest house on the ways of both to the root, None if they are not joined."""
        if self._roots_if_alike(one, other) is None:
            return None
        self._reach(one)
        return self._reach(other)[-1]

    def _answer_of_way(self, ask):
        """The answer to an ask about the houses on a way."""
        one = ask[1]
        other = ask[2]
        top = self._roots_if_alike(one, other)
        if top is None:
            return None
        self._open_way(one, other)
        told = told_of_way(ask, row_in_order(self._stands, other), told_worths(self._stands))
        if ask[0] != "way" and told is not None:
            self._reach(told)
        self._turn(top)
        return told


def kept_of(shape):
    """A Kept that begins with a shape."""
    stands = stands_of(shape)
    kept = Kept(forest_of(stands))
    kept._begin(stands)
    return kept
