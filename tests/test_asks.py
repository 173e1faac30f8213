"""Asks and their answers [1.3], and the general rules [0.2] to [0.4] for them."""

import itertools
import random
import unittest

from cutlinked.asks import answer, is_ask
from cutlinked.errors import ForestError, NoAsk, NoNumber
from cutlinked.forests import Forest
from tests.helper import (
    all_forests, frozen, large_forests, no_houses, no_manys, root_among, strange_things, walked,
)

A = Forest((None, 0, 1, 1), (5, 7, 2, 9))
TWO = Forest((None, 0, None, 2), (1, 2, 3, 4))
OF_ONE = ["root", "depth", "below", "whole"]
OF_TWO = ["joined", "common", "way"]


def some_asks(forest):
    """Asks of all sorts by their form, of all houses and pairs of houses."""
    houses = range(len(forest.parents))
    worths = sorted(set(forest.worths))
    bounds = [worths[0] - 1, worths[0], worths[len(worths) // 2], worths[-1]]
    for house in houses:
        for word in OF_ONE:
            yield (word, house)
    for one, other in itertools.product(houses, repeat=2):
        for word in OF_TWO:
            yield (word, one, other)
        for word in ("least", "greatest"):
            yield ("where", one, other, word)
        for k in (0, 1, 2, len(houses) - 1, len(houses), 10 ** 20 - 1):
            yield ("at", one, other, k)
        for bound in bounds:
            yield ("reach", one, other, bound)


def of_house(forest, word, house):
    """The answer to an ask about a house, told by walking from house to house."""
    near = walked(forest, house)
    top = root_among(forest, near)
    if word == "root":
        return top
    if word == "depth":
        return len(near[top]) - 1
    met = list(near)
    if word == "below":
        met = [start for start in near if house in walked(forest, start)[top]]
    return (len(met), sum(forest.worths[place] for place in met))


def due(forest, ask):
    """The answer, told by walking from house to house."""
    word, one = ask[0], ask[1]
    if word in OF_ONE:
        return of_house(forest, word, one)
    houses = walked(forest, one).get(ask[2])
    if word == "joined":
        return houses is not None
    if houses is None:
        return None
    if word == "common":
        return min(houses, key=lambda house: of_house(forest, "depth", house))
    values = [forest.worths[house] for house in houses]
    if word == "way":
        return (len(houses), sum(values), min(values), max(values))
    if word == "at":
        return dict(enumerate(houses)).get(ask[3])
    if word == "where":
        best = sorted(values)[0 if ask[3] == "least" else -1]
        return [house for house in houses if forest.worths[house] == best][0]
    return ([house for house in houses if forest.worths[house] <= ask[3]] + [None])[0]


class AskCase(unittest.TestCase):
    def assert_answer(self, forest, ask, told):
        held = frozen((forest, ask))
        self.assertIs(is_ask(len(forest.parents), ask), True)
        for _ in range(2):
            self.assertEqual(frozen(answer(forest, ask)), frozen(told))
        self.assertEqual(frozen((forest, ask)), held)

    def assert_no_ask(self, forest, thing):
        held = frozen((forest, thing))
        self.assertIs(is_ask(len(forest.parents), thing), False)
        with self.assertRaises(NoAsk) as caught:
            answer(forest, thing)
        self.assertIs(caught.exception.__class__, NoAsk)
        self.assertEqual(frozen((forest, thing)), held)


class TestAnswers(AskCase):
    def test_example(self):
        self.assertEqual(answer(A, ("way", 0, 3)), (3, 21, 5, 9))

    def test_of_one_house(self):
        self.assert_answer(A, ("root", 3), 0)
        self.assert_answer(A, ("depth", 3), 2)
        self.assert_answer(A, ("depth", 0), 0)
        self.assert_answer(A, ("below", 1), (3, 18))
        self.assert_answer(A, ("below", 3), (1, 9))
        self.assert_answer(A, ("whole", 3), (4, 23))
        self.assert_answer(TWO, ("whole", 3), (2, 7))
        self.assert_answer(TWO, ("root", 3), 2)

    def test_of_two_houses(self):
        self.assert_answer(A, ("joined", 2, 3), True)
        self.assert_answer(A, ("common", 2, 3), 1)
        self.assert_answer(A, ("way", 2, 3), (3, 18, 2, 9))
        self.assert_answer(A, ("where", 2, 3, "least"), 2)
        self.assert_answer(A, ("where", 2, 3, "greatest"), 3)
        self.assert_answer(A, ("at", 2, 3, 1), 1)
        self.assert_answer(A, ("reach", 0, 2, 4), 2)
        self.assert_answer(A, ("reach", 2, 0, 7), 2)

    def test_not_joined(self):
        self.assert_answer(TWO, ("joined", 1, 3), False)
        for ask in [("common", 1, 3), ("way", 0, 2), ("where", 0, 2, "least"), ("where", 3, 1, "greatest"),
                    ("at", 0, 2, 0), ("reach", 1, 3, 100)]:
            self.assert_answer(TWO, ask, None)

    def test_way_of_one_house(self):
        for word in ("least", "greatest"):
            self.assert_answer(A, ("where", 3, 3, word), 3)
        self.assert_answer(A, ("joined", 2, 2), True)
        self.assert_answer(A, ("common", 2, 2), 2)
        self.assert_answer(A, ("way", 3, 3), (1, 9, 9, 9))
        self.assert_answer(A, ("at", 3, 3, 0), 3)
        self.assert_answer(A, ("at", 3, 3, 1), None)
        self.assert_answer(A, ("reach", 3, 3, 9), 3)
        self.assert_answer(A, ("reach", 3, 3, 8), None)

    def test_the_first_of_worths_that_are_alike(self):
        line = Forest((None, 0, 1, 2, 3, 4), (4, 1, 6, 1, 6, 4))
        self.assert_answer(line, ("where", 0, 5, "least"), 1)
        self.assert_answer(line, ("where", 5, 0, "least"), 3)
        self.assert_answer(line, ("where", 0, 5, "greatest"), 2)
        self.assert_answer(line, ("where", 5, 0, "greatest"), 4)
        self.assert_answer(line, ("reach", 0, 5, 1), 1)
        self.assert_answer(line, ("reach", 5, 0, 1), 3)
        self.assert_answer(line, ("reach", 5, 0, 4), 5)
        flat = Forest((1, None, 1), (8, 8, 8))
        for word in ("least", "greatest"):
            self.assert_answer(flat, ("where", 0, 2, word), 0)
            self.assert_answer(flat, ("where", 2, 0, word), 2)

    def test_numbers_on_the_way(self):
        for k, house in enumerate([2, 1, 0, None, None]):
            self.assert_answer(A, ("at", 2, 0, k), house)
        self.assert_answer(A, ("at", 0, 2, 2), 2)
        self.assert_answer(A, ("at", 0, 2, 10 ** 20 - 1), None)

    def test_bounds(self):
        self.assert_answer(A, ("reach", 3, 2, 2), 2)
        self.assert_answer(A, ("reach", 3, 2, 1), None)
        self.assert_answer(A, ("reach", 3, 2, 7), 1)
        self.assert_answer(A, ("reach", 3, 2, 6), 2)
        self.assert_answer(A, ("reach", 3, 2, 10 ** 20 - 1), 3)
        self.assert_answer(A, ("reach", 3, 2, -10 ** 20 + 1), None)
        self.assert_answer(Forest((None, 0), (-3, -5)), ("reach", 0, 1, -4), 1)

    def test_all_asks_of_small_forests(self):
        for size in (1, 2, 3):
            for forest in all_forests(size):
                for worths in (forest.worths, (5,) * size, tuple(k % 2 for k in range(size))):
                    other = Forest(forest.parents, worths)
                    for ask in some_asks(other):
                        self.assert_answer(other, ask, due(other, ask))

    def test_some_asks_of_larger_forests(self):
        chance = random.Random(5)
        for forest in large_forests() + all_forests(4):
            small = Forest(forest.parents, tuple(chance.randrange(3) for _ in forest.parents))
            for other in (forest, small):
                asks = list(some_asks(other))
                for ask in chance.sample(asks, min(25, len(asks))):
                    self.assert_answer(other, ask, due(other, ask))


class TestWhatIsNoAsk(AskCase):
    good = [("root", 3), ("depth", 3), ("joined", 0, 3), ("common", 1, 2), ("below", 2), ("whole", 1), ("way", 2, 3),
            ("where", 0, 1, "least"), ("where", 0, 1, "greatest"), ("at", 0, 1, 0), ("reach", 0, 1, -1)]

    def test_the_good_ones(self):
        for ask in self.good:
            for many in (4, 5, 64):
                self.assertIs(is_ask(many, ask), True)

    def test_just_the_form_counts(self):
        self.assertIs(is_ask(64, ("way", 0, 63)), True)
        self.assertIs(is_ask(63, ("way", 0, 63)), False)
        self.assertIs(is_ask(1, ("way", 0, 0)), True)
        self.assertIs(is_ask(1, ("way", 0, 1)), False)
        self.assertIs(is_ask(1, ("way", 1, 0)), False)

    def test_strange_things(self):
        for thing in strange_things() + [0, 1, -1]:
            self.assert_no_ask(A, thing)

    def test_strange_words(self):
        words = ["", "Root", "root ", "roots", "link", "cut", "turn", "put", "add", "least", "ask", "told"]
        for ask in self.good:
            for word in strange_things() + words + [0, b"root", ("root",), ["root"]]:
                if not isinstance(word, str) or word not in [good[0] for good in self.good]:
                    self.assert_no_ask(A, (word,) + ask[1:])

    def test_strange_houses(self):
        for thing in no_houses(4):
            for word in OF_ONE:
                self.assert_no_ask(A, (word, thing))
            for rest in [("joined",), ("common",), ("way",), ("where", "least"), ("at", 0), ("reach", 0)]:
                for one, other in [(thing, 0), (0, thing), (thing, thing)]:
                    self.assert_no_ask(A, (rest[0], one, other) + rest[1:])

    def test_flags_are_no_numbers(self):
        for flag in (True, False):
            for ask in self.good:
                for place in range(1, len(ask)):
                    self.assert_no_ask(A, ask[:place] + (flag,) + ask[place + 1:])

    def test_last_parts(self):
        for thing in strange_things():
            self.assert_no_ask(A, ("at", 0, 1, thing))
            self.assert_no_ask(A, ("reach", 0, 1, thing))
            self.assert_no_ask(A, ("where", 0, 1, thing))
        for thing in (-1, -2, -10 ** 20 + 1, "0", "least"):
            self.assert_no_ask(A, ("at", 0, 1, thing))
        for thing in ("Least", "", "leastgreatest", "least ", "most", "lea", b"least", 0, ("least",), ["least"], "at"):
            self.assert_no_ask(A, ("where", 0, 1, thing))
        self.assert_no_ask(A, ("reach", 0, 1, "0"))

    def test_lengths(self):
        for ask in self.good:
            for thing in [ask[:1], ask[:-1], ask + (0,), ask + (None,), ask + ("least",), ask + ask, (ask,)]:
                self.assert_no_ask(A, thing)
        self.assert_no_ask(A, ())

    def test_no_tuple(self):
        for ask in self.good:
            for thing in [list(ask), dict(enumerate(ask)), [ask], str(ask), ask[0], ask[:1] + (list(ask[1:]),)]:
                self.assert_no_ask(A, thing)

    def test_parts_of_other_asks(self):
        for first, second in itertools.permutations(self.good, 2):
            if len(first) != len(second):
                self.assert_no_ask(A, first[:1] + second[1:])
        self.assert_no_ask(A, ("at", 0, 1, "least"))
        self.assert_no_ask(A, ("reach", 0, 1, "least"))
        self.assert_no_ask(A, ("where", 0, 1, 0))


class TestManyOfAsks(AskCase):
    def test_from_1_to_64(self):
        for many in range(1, 65):
            self.assertIs(is_ask(many, ("root", many - 1)), True)
            self.assertIs(is_ask(many, ("root", many)), False)
            self.assertIs(is_ask(many, None), False)

    def test_no_number_ahead_of_judging(self):
        for thing in no_manys():
            for ask in [("root", 0), ("root",), None, [], 0]:
                held = frozen((thing, ask))
                with self.assertRaises(NoNumber) as caught:
                    is_ask(thing, ask)
                self.assertIs(caught.exception.__class__, NoNumber)
                self.assertEqual(frozen((thing, ask)), held)

    def test_caught_as_forest_error(self):
        for call in (lambda: is_ask(0, None), lambda: answer(A, None)):
            with self.assertRaises(ForestError):
                call()


if __name__ == "__main__":
    unittest.main()
