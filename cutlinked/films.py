"""Reels: a row of deeds, to be seen behind any number of them (DOC.md 7.3)."""

from cutlinked.deeds import led
from cutlinked.errors import NoMoment, NoNumber
from cutlinked.kepts import Kept
from cutlinked.kinds import is_between

MOST_EVERY = 500


class Reel:
    """Deeds, and the Kept behind so many of them; some more Kepts make it short to come to others."""

    def __init__(self, forest, deeds, every):
        # For its errors alone: the deeds are done when they are come to.
        led(forest, deeds)
        if not is_between(1, MOST_EVERY, every):
            raise NoNumber()
        self._forest = forest
        self._deeds = tuple(deeds)
        self._every = every
        self._now = Kept(forest)
        self._at = 0
        self._kepts = {0: Kept(forest)}
        self._done = 0

    def stands(self):
        """Behind how many deeds it stands."""
        return self._at

    def forest_now(self):
        """The forest there."""
        return self._now.forest()

    def shape_now(self):
        """The shape there."""
        return self._now.shape()

    def spent_now(self):
        """What was spent there."""
        return self._now.spent()

    def seek(self, at):
        """Stand behind so many deeds."""
        if not is_between(0, len(self._deeds), at):
            raise NoMoment()
        start = max([number for number in self._kepts if number <= at])
        if start <= self._at <= at:
            start = self._at
        else:
            # What is kept stays as it is.
            self._now = self._kepts[start].copy()
        for number in range(start, at):
            self._do(number)
        self._at = at
        self._done = at - start

    def _do(self, number):
        """Do the deed of this number, standing ahead of it, and keep the Kept behind it if that is due."""
        self._now.deed(self._deeds[number])
        if (number + 1) % self._every == 0:
            self._kepts[number + 1] = self._now.copy()

    def kept(self):
        """The numbers of deeds behind which Kepts are kept, ascending."""
        return tuple(sorted([number for number in self._kepts]))

    def worked(self):
        """How many deeds were done by the last seek."""
        return self._done

    def copy(self):
        """A Reel like this one, which goes on apart."""
        other = Reel(self._forest, self._deeds, self._every)
        other._now = self._now.copy()
        other._at = self._at
        # The Kepts themselves are never changed.
        other._kepts = dict(self._kepts)
        other._done = self._done
        return other
