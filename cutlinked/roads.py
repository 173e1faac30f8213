"""Roads: the least forest while ties come (DOC.md 5.1).

A Kept has a house for each house, and behind these one for each tie that has room, which lies on
the way between its two ends while the tie is kept. So the heaviest tie on a way is a house there.
"""

from cutlinked.errors import Full, NoHouse, NoNumber, NoWeight
from cutlinked.forests import Forest
from cutlinked.kepts import Kept
from cutlinked.kinds import MOST_HOUSES, is_between, is_house, is_integer, is_number
from cutlinked.reaching import most_for_reaching
from cutlinked.shapes import rank

MOST_ENDS = 32


class Roads:
    """Houses, the ties that came between them, and those of them that are kept: never a ring."""

    def __init__(self, many, most):
        if not is_between(1, MOST_ENDS, many):
            raise NoNumber()
        if not is_number(most) or many + most > MOST_HOUSES:
            raise NoNumber()
        self._many = many
        self._most = most
        self._ties = []
        self._numbers = []
        self._asks = 0
        # Below all weights, which have at most 30 digits: a house is never the heaviest on a way.
        self._forest = Kept(Forest((None,) * (many + most), (-(10 ** 60),) * (many + most)))

    def come(self, one, other, weight):
        """A tie comes: the number of the one that is left out from now on, None if none is."""
        self._need_houses(one, other)
        if one == other:
            raise NoHouse()
        if not is_integer(weight):
            raise NoWeight()
        if len(self._ties) == self._most:
            raise Full()
        heaviest = self._heaviest_on_way(one, other)
        number = len(self._ties)
        self._ties.append((one, other, weight))
        # Of two ties of one weight the one that came later has the greater rank.
        if heaviest is not None and self._ties[heaviest][2] <= weight:
            return number
        if heaviest is not None:
            self._let_go(heaviest)
        self._keep(number)
        return heaviest

    def ties(self):
        """The list of all ties that came."""
        return list(self._ties)

    def kept(self):
        """The lot of the numbers of the ties that are kept."""
        return tuple(self._numbers)

    def whole(self):
        """The sum of the weights of the ties that are kept."""
        return sum([self._ties[number][2] for number in self._numbers])

    def joined(self, one, other):
        """Whether kept ties lead from one house to the other."""
        self._need_houses(one, other)
        self._asks += 1
        return self._forest.ask(("joined", one, other))

    def heaviest(self, one, other):
        """The number of the heaviest tie on the way by kept ties, None without such a way."""
        self._need_houses(one, other)
        self._asks += 1
        if one == other:
            return None
        return self._heaviest_on_way(one, other)

    def spent(self):
        """What its reachings cost until now."""
        return self._forest.spent()

    def bound(self):
        """How much spent is at most."""
        size = self._many + self._most
        comes = len(self._ties)
        return 40 * most_for_reaching(size) * (comes + self._asks) + 10 * rank(size) * comes

    def copy(self):
        """Roads like these, which go on apart."""
        other = Roads(self._many, self._most)
        other._ties = self.ties()
        other._numbers = list(self._numbers)
        other._asks = self._asks
        other._forest = self._forest.copy()
        return other

    def _need_houses(self, one, other):
        """Raise NoHouse if one of both is no house."""
        if not is_house(self._many, one) or not is_house(self._many, other):
            raise NoHouse()

    def _heaviest_on_way(self, one, other):
        """The number of the heaviest tie on the way between two unlike houses, None if they are not joined."""
        found = self._forest.ask(("where", one, other, "greatest"))
        return None if found is None else found - self._many

    def _keep(self, number):
        """Put a tie between its ends, which are not joined."""
        one, other, weight = self._ties[number]
        between = self._many + number
        # The order of these values is that of weight and number, as there are fewer ties than that.
        self._forest.deed(("put", between, weight * MOST_HOUSES + number))
        self._forest.deed(("turn", one))
        self._forest.deed(("link", one, between))
        self._forest.deed(("link", between, other))
        self._numbers.append(number)

    def _let_go(self, number):
        """Take a tie away from between its ends."""
        one, other, _ = self._ties[number]
        self._forest.deed(("turn", self._many + number))
        self._forest.deed(("cut", one))
        self._forest.deed(("cut", other))
        self._numbers.remove(number)
