"""Deeds [1.2], and the general rules [0.2] to [0.4] for them."""

import itertools
import random
import unittest

from cutlinked.deeds import behind, is_deed, led
from cutlinked.errors import BadDeeds, ForestError, NoDeed
from cutlinked.forests import Forest
from tests.helper import (
    all_forests, frozen, large_forests, no_houses, root_among, strange_things, walked,
)

A = Forest((None, 0, 1, 1), (5, 7, 2, 9))
TWO = Forest((None, 0, None, 2), (1, 2, 3, 4))


def well_formed(many):
    """All deeds by their form for so many houses."""
    houses = range(many)
    for house in houses:
        yield ("cut", house)
        yield ("turn", house)
        yield ("put", house, -4)
    for one, other in itertools.product(houses, repeat=2):
        yield ("link", one, other)
        yield ("add", one, other, 100)


def ties(parents):
    """The ties, each as the two houses in their order."""
    return sorted(tuple(sorted((house, near))) for house, near in enumerate(parents) if near is not None)


def rooted(many, tied, roots):
    """The parents in the forest of these ties that has these roots."""
    parents = [None] * many
    seen = list(roots)
    for house in seen:
        for pair in tied:
            if house in pair:
                near = pair[0] + pair[1] - house
                if near not in seen:
                    parents[near] = house
                    seen.append(near)
    return tuple(parents)


def expected(forest, deed):
    """The parts of the forest behind a deed of good form, told by ties and roots; None if it can't be."""
    word, house = deed[0], deed[1]
    size = len(forest.parents)
    roots = [k for k in range(size) if forest.parents[k] is None]
    tied = ties(forest.parents)
    near = walked(forest, house)
    worths = list(forest.worths)
    if word == "link":
        if house not in roots or deed[2] in near:
            return None
        roots.remove(house)
        tied = tied + [(house, deed[2])]
    elif word == "cut":
        if house in roots:
            return None
        tied = [pair for pair in tied if pair != tuple(sorted((house, forest.parents[house])))]
        roots.append(house)
    elif word == "turn":
        roots.remove(root_among(forest, near))
        roots.append(house)
    elif word == "put":
        worths[house] = deed[2]
    elif word == "add":
        if deed[2] not in near:
            return None
        for passed in near[deed[2]]:
            worths[passed] += deed[3]
    return rooted(size, tied, roots), tuple(worths)


class DeedCase(unittest.TestCase):
    def assert_no_deed(self, forest, thing):
        held = frozen((forest, thing))
        self.assertIs(is_deed(forest, thing), False)
        with self.assertRaises(NoDeed) as caught:
            behind(forest, thing)
        self.assertIs(caught.exception.__class__, NoDeed)
        for row in ([thing], (thing,)):
            with self.assertRaises(BadDeeds) as caught:
                led(forest, row)
            self.assertEqual(caught.exception.index, 0)
        self.assertEqual(frozen((forest, thing)), held)

    def assert_leads(self, forest, deed, parents, worths):
        held = frozen((forest, deed))
        self.assertIs(is_deed(forest, deed), True)
        made = behind(forest, deed)
        self.assertIs(made.__class__, Forest)
        self.assertEqual((made.parents, made.worths), (parents, worths))
        self.assertEqual(behind(forest, deed), made)
        self.assertEqual(led(forest, [deed]), made)
        self.assertEqual(frozen((forest, deed)), held)


class TestFiveDeeds(DeedCase):
    def test_examples(self):
        self.assertEqual(behind(A, ("turn", 2)).parents, (1, 2, None, 1))
        self.assertEqual(behind(A, ("add", 2, 3, 10)).worths, (5, 17, 12, 19))

    def test_link(self):
        self.assert_leads(TWO, ("link", 2, 1), (None, 0, 1, 2), TWO.worths)
        self.assert_leads(TWO, ("link", 0, 3), (3, 0, None, 2), TWO.worths)
        self.assert_leads(TWO, ("link", 0, 2), (2, 0, None, 2), TWO.worths)

    def test_link_that_cannot_be(self):
        self.assert_no_deed(TWO, ("link", 1, 2))
        self.assert_no_deed(TWO, ("link", 3, 0))
        self.assert_no_deed(TWO, ("link", 0, 1))
        self.assert_no_deed(TWO, ("link", 0, 0))
        self.assert_no_deed(TWO, ("link", 1, 0))
        self.assert_no_deed(A, ("link", 0, 2))

    def test_cut(self):
        self.assert_leads(A, ("cut", 1), (None, None, 1, 1), A.worths)
        self.assert_leads(A, ("cut", 3), (None, 0, 1, None), A.worths)

    def test_cut_that_cannot_be(self):
        self.assert_no_deed(A, ("cut", 0))
        self.assert_no_deed(TWO, ("cut", 2))

    def test_turn(self):
        self.assert_leads(A, ("turn", 3), (1, 3, 1, None), A.worths)
        self.assert_leads(A, ("turn", 1), (1, None, 1, 1), A.worths)
        self.assert_leads(A, ("turn", 0), A.parents, A.worths)
        self.assert_leads(TWO, ("turn", 3), (None, 0, 3, None), TWO.worths)

    def test_put(self):
        self.assert_leads(A, ("put", 0, -3), A.parents, (-3, 7, 2, 9))
        self.assert_leads(A, ("put", 3, 0), A.parents, (5, 7, 2, 0))
        self.assert_leads(A, ("put", 1, 7), A.parents, A.worths)
        self.assert_leads(A, ("put", 2, 10 ** 20 - 1), A.parents, (5, 7, 10 ** 20 - 1, 9))

    def test_add(self):
        self.assert_leads(A, ("add", 0, 3, -1), A.parents, (4, 6, 2, 8))
        self.assert_leads(A, ("add", 3, 0, -1), A.parents, (4, 6, 2, 8))
        self.assert_leads(A, ("add", 2, 2, 5), A.parents, (5, 7, 7, 9))
        self.assert_leads(A, ("add", 2, 3, 0), A.parents, A.worths)
        self.assert_leads(TWO, ("add", 2, 3, 10 ** 19), TWO.parents, (1, 2, 3 + 10 ** 19, 4 + 10 ** 19))

    def test_add_that_cannot_be(self):
        self.assert_no_deed(TWO, ("add", 0, 2, 1))
        self.assert_no_deed(TWO, ("add", 1, 3, 1))
        self.assert_no_deed(TWO, ("add", 3, 1, 0))

    def check_all_deeds(self, forest, deeds):
        for deed in deeds:
            due = expected(forest, deed)
            if due is None:
                self.assert_no_deed(forest, deed)
            else:
                self.assert_leads(forest, deed, due[0], due[1])

    def test_all_deeds_of_small_forests(self):
        for size in (1, 2, 3, 4):
            for forest in all_forests(size):
                self.check_all_deeds(forest, well_formed(size))

    def test_some_deeds_of_large_forests(self):
        chance = random.Random(3)
        for forest in large_forests():
            deeds = list(well_formed(len(forest.parents)))
            self.check_all_deeds(forest, chance.sample(deeds, min(20, len(deeds))))

    def test_a_long_line_is_turned(self):
        line = Forest((None,) + tuple(range(63)), tuple(range(64)))
        self.assert_leads(line, ("turn", 63), tuple(range(1, 64)) + (None,), line.worths)
        self.assert_leads(line, ("add", 0, 63, 1), line.parents, tuple(range(1, 65)))


class TestWhatIsNoDeed(DeedCase):
    good = [("link", 2, 1), ("cut", 3), ("turn", 1), ("put", 0, 5), ("add", 0, 1, 5)]

    def test_the_good_ones(self):
        for deed in self.good:
            self.assertIs(is_deed(TWO, deed), True)

    def test_strange_things(self):
        for thing in strange_things() + [0, 1, -1]:
            self.assert_no_deed(TWO, thing)

    def test_strange_words(self):
        words = ["", "Link", "link ", "linked", "unlink", "root", "depth", "ask", "did"]
        for deed in self.good:
            for word in strange_things() + words + [0, b"cut", 1, ("cut",), ["cut"]]:
                if word != deed[0]:
                    self.assert_no_deed(TWO, (word,) + deed[1:])

    def test_strange_houses(self):
        for thing in no_houses(4):
            for deed in [("link", thing, 1), ("link", 2, thing), ("cut", thing), ("turn", thing),
                         ("put", thing, 5), ("add", thing, 0, 5), ("add", 0, thing, 5), ("link", thing, thing)]:
                self.assert_no_deed(TWO, deed)

    def test_strange_values(self):
        for thing in strange_things():
            self.assert_no_deed(TWO, ("put", 0, thing))
            self.assert_no_deed(TWO, ("add", 0, 1, thing))

    def test_flags_are_no_integers(self):
        pair = Forest((None, None), (0, 0))
        for deed in [("link", False, 1), ("link", 0, True), ("turn", True), ("put", False, 1), ("put", 0, True),
                     ("add", 0, 0, False), ("add", False, 0, 1), ("add", 0, False, 1), ("turn", False)]:
            self.assert_no_deed(pair, deed)
        self.assert_no_deed(Forest((None, 0), (0, 0)), ("cut", True))

    def test_lengths(self):
        for deed in self.good:
            for thing in [deed[:1], deed[:-1], deed + (0,), deed + (1,), deed + (None,), deed + deed, (deed,)]:
                self.assert_no_deed(TWO, thing)
        self.assert_no_deed(TWO, ())

    def test_no_tuple(self):
        for deed in self.good:
            for thing in [list(deed), dict(enumerate(deed)), [deed], str(deed), deed[0]]:
                self.assert_no_deed(TWO, thing)
            self.assert_no_deed(TWO, deed[:1] + (list(deed[1:]),))

    def test_other_words_with_good_parts(self):
        self.assert_no_deed(TWO, ("cut", 1, 0))
        self.assert_no_deed(TWO, ("turn", 1, 0))
        self.assert_no_deed(TWO, ("put", 1))
        self.assert_no_deed(TWO, ("link", 2))
        self.assert_no_deed(TWO, ("add", 0, 1))


class TestLed(DeedCase):
    def assert_bad(self, index, forest, deeds):
        held = frozen((forest, deeds))
        with self.assertRaises(BadDeeds) as caught:
            led(forest, deeds)
        self.assertIs(caught.exception.__class__, BadDeeds)
        self.assertEqual(caught.exception.index, index)
        self.assertEqual(frozen((forest, deeds)), held)

    def test_none(self):
        self.assertEqual(led(A, []), A)
        self.assertEqual(led(A, ()), A)

    def test_several(self):
        deeds = [("turn", 2), ("cut", 1), ("link", 2, 0), ("put", 2, 0), ("add", 2, 0, 1), ("cut", 3), ("link", 3, 2)]
        due = Forest((1, None, 0, 2), (6, 7, 1, 9))
        held = frozen((A, deeds))
        self.assertEqual(led(A, deeds), due)
        self.assertEqual(led(A, tuple(deeds)), due)
        self.assertEqual(frozen((A, deeds)), held)

    def test_the_first_that_cannot_be_done_then(self):
        self.assert_bad(0, A, [("cut", 0), ("cut", 1)])
        self.assert_bad(1, A, [("cut", 1), ("cut", 1)])
        self.assert_bad(2, A, [("cut", 1), ("link", 1, 0), ("link", 1, 0), ("cut", 0)])
        self.assert_bad(1, A, (("turn", 2), ("cut", 2), None))
        self.assert_bad(2, A, [("turn", 2), ("cut", 1), ["cut", 0], ("cut", 2)])
        self.assert_bad(3, A, (("put", 0, 1),) * 3 + (("put", 0, True),))
        # What can be done only behind the ones ahead.
        self.assertEqual(led(A, [("turn", 2), ("cut", 0)]).parents, (None, 2, None, 1))
        self.assert_bad(0, A, [("cut", 0), ("turn", 2)])

    def test_strange_things_among_them(self):
        for thing in strange_things():
            self.assert_bad(1, A, [("turn", 2), thing, ("cut", 2)])
            self.assert_bad(1, A, (("turn", 2), thing))

    def test_no_list_or_tuple(self):
        for thing in strange_things() + [0, 1, {("cut", 1): None}, "cut", iter([("cut", 1)])]:
            if not isinstance(thing, (list, tuple)):
                self.assert_bad(-1, A, thing)

    def test_a_deed_alone_is_no_row_of_deeds(self):
        self.assert_bad(0, A, ("cut", 1))
        self.assert_bad(0, A, ["cut", 1])

    def test_like_one_behind_the_other(self):
        chance = random.Random(11)
        for forest in large_forests():
            standing = forest
            done = []
            choices = list(well_formed(len(forest.parents)))
            for deed in chance.choices(choices, k=60):
                due = expected(standing, deed)
                if due is None:
                    self.assert_bad(len(done), forest, done + [deed])
                    continue
                done.append(deed)
                standing = behind(standing, deed)
                self.assertEqual((standing.parents, standing.worths), due)
            self.assertEqual(led(forest, done), standing)
            self.assertEqual(led(forest, tuple(done)), standing)

    def test_caught_as_forest_error(self):
        for call in (lambda: led(A, None), lambda: led(A, [()]), lambda: behind(A, ())):
            with self.assertRaises(ForestError):
                call()


if __name__ == "__main__":
    unittest.main()
