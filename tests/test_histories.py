"""Histories [5.2], and the general rules [0.2] to [0.4] for them."""

import random
import unittest

from cutlinked.errors import BadHistory, ForestError, NoHouse, NoMoment, NoNumber
from cutlinked.histories import History, answers_of, joined_till, kept_then, lives, parts_of
from tests.helper import frozen, no_houses, no_integers, strange_things

PLAIN = (
    ("come", 0, 1), ("ask", 0, 2), ("come", 1, 2), ("ask", 0, 2), ("come", 0, 2), ("go", 0), ("ask", 1, 0),
    ("go", 2), ("ask", 0, 1), ("ask", 3, 3), ("come", 0, 1),
)


def own_lives(deeds):
    """For each tie its two ends, the index of its come and of its go."""
    comes = [index for index, deed in enumerate(deeds) if deed[0] == "come"]
    goes = {deed[1]: index for index, deed in enumerate(deeds) if deed[0] == "go"}
    return [(deeds[index][1], deeds[index][2], index, goes.get(tie)) for tie, index in enumerate(comes)]


def there_at(deeds, at):
    """The numbers of the ties that are there behind the first at deeds."""
    return [tie for tie, (_, _, come, go) in enumerate(own_lives(deeds)) if come < at and (go is None or go >= at)]


def led_to(deeds, ties, start):
    """For each house that these ties lead to from start, the ties on one way there."""
    spans = own_lives(deeds)
    found, front = {start: []}, [start]
    for house in front:
        for tie in ties:
            pair = spans[tie][:2]
            if house in pair:
                near = pair[0] + pair[1] - house
                if near not in found:
                    found[near] = found[house] + [tie]
                    front.append(near)
    return found


def stays_longer(deeds, tie, other):
    """Whether the first one of two ties stays longer."""
    goes, other_goes = own_lives(deeds)[tie][3], own_lives(deeds)[other][3]
    if goes is None and other_goes is None:
        return tie < other
    if goes is None or other_goes is None:
        return goes is None
    return goes > other_goes


def own_kept(deeds, at):
    """The ties that are there between whose ends no way of such that stay longer leads."""
    there = there_at(deeds, at)
    found = []
    for tie in there:
        longer = [other for other in there if stays_longer(deeds, other, tie)]
        one, other = own_lives(deeds)[tie][:2]
        if other not in led_to(deeds, longer, one):
            found.append(tie)
    return tuple(found)


def own_till(deeds, at, one, other):
    """Try it: let the goes behind at be, one behind the other, and look when the houses are apart."""
    there = there_at(deeds, at)
    if other not in led_to(deeds, there, one):
        return -1
    for index in range(at, len(deeds)):
        if deeds[index][0] == "go" and deeds[index][1] in there:
            there.remove(deeds[index][1])
            if other not in led_to(deeds, there, one):
                return index
    return None


def drawn_deeds(chance, many, length, goes=0.3):
    """Deeds by chance, as a history may have them."""
    deeds, came, there = [], 0, []
    while len(deeds) < length:
        odds = chance.random()
        if odds < goes and there:
            deeds.append(("go", there.pop(chance.randrange(len(there)))))
        elif odds < 0.75 and came < 32 and many > 1:
            deeds.append(("come",) + tuple(chance.sample(range(many), 2)))
            there.append(came)
            came += 1
        else:
            deeds.append(("ask", chance.randrange(many), chance.randrange(many)))
    return tuple(deeds)


def some_histories():
    """Histories of many sorts, always the same."""
    chance = random.Random(83)
    found = [(4, PLAIN), (1, ()), (24, ()), (1, (("ask", 0, 0),) * 60)]
    for many in (1, 2, 3, 4, 5, 8, 15, 24):
        for length, goes in ((20, 0.3), (60, 0.35), (60, 0.1)):
            found.append((many, drawn_deeds(chance, many, length, goes)))
    return found


class HistoryCase(unittest.TestCase):
    def assert_bad(self, index, many, deeds):
        held = frozen((many, deeds))
        with self.assertRaises(BadHistory) as caught:
            History(many, deeds)
        self.assertIs(caught.exception.__class__, BadHistory)
        self.assertEqual(caught.exception.index, index)
        self.assertEqual(frozen((many, deeds)), held)

    def assert_raises(self, error, function, *passed):
        held = frozen(passed)
        with self.assertRaises(error) as caught:
            function(*passed)
        self.assertIs(caught.exception.__class__, error)
        self.assertEqual(frozen(passed), held)


class TestHistory(HistoryCase):
    def test_keeps_its_parts(self):
        for many, deeds in some_histories():
            history = History(many, deeds)
            self.assertEqual(frozen((history.many, history.deeds)), frozen((many, deeds)))
            self.assertEqual(sorted(vars(history)), ["deeds", "many"])

    def test_no_number(self):
        for thing in no_integers() + [0, -1, 25, 26, 64, 10 ** 19]:
            for deeds in ((), PLAIN, None, [("go", 0)]):
                self.assert_raises(NoNumber, History, thing, deeds)
        for many in range(1, 25):
            self.assertEqual(History(many, (("ask", 0, many - 1),)).many, many)
            self.assert_bad(0, many, (("ask", 0, many),))

    def test_no_tuple_of_so_many(self):
        for thing in strange_things() + [0, list(PLAIN), [], "come", {("ask", 0, 0): 1}]:
            if not isinstance(thing, tuple):
                self.assert_bad(-1, 4, thing)
        ask = ("ask", 0, 0)
        self.assertEqual(len(History(4, (ask,) * 60).deeds), 60)
        self.assert_bad(-1, 4, (ask,) * 61)
        self.assert_bad(-1, 4, (None,) * 61)
        self.assert_bad(0, 4, (None,) * 60)
        self.assert_bad(59, 4, (ask,) * 59 + (None,))

    def test_the_first_that_is_none(self):
        bad = strange_things() + [
            0, "come", ["come", 0, 1], ("come", 0), ("come", 0, 1, 2), ("come",), ("Come", 0, 1), (b"come", 0, 1),
            ("come", 1, 1), ("come", 0, 4), ("come", -1, 0), ("come", True, 0), ("come", 0, False), ("come", None, 0),
            ("come", (0, 1)), ("go",), ("go", 1), ("go", -1), ("go", 0, 0), ("go", False), ("go", None), ("go", "0"),
            ("go", True), ("ask", 0), ("ask", 0, 4), ("ask", 0, 1, 2), ("ask", True, 0), ("ask", 0, None), ("ask",),
            ("link", 0, 1), ("cut", 0), ("root", 0), (("come",), 0, 1), {"go": 0}, ("went", 0),
        ]
        for thing in bad:
            self.assert_bad(1, 4, (("come", 0, 1), thing, None))
            self.assert_bad(1, 4, (("come", 0, 1), thing, ("go", 0)))
        self.assert_bad(0, 4, (("go", 0), ("come", 0, 1)))
        for thing in strange_things():
            self.assert_bad(1, 4, (("come", 0, 1), ("go", thing)))
            self.assert_bad(1, 4, (("come", 0, 1), (thing, 0, 1)))
        for thing in no_houses(4):
            for word in ("come", "ask"):
                self.assert_bad(0, 4, ((word, thing, 0),))
                self.assert_bad(0, 4, ((word, 0, thing),))
                self.assert_bad(0, 4, ((word, thing, thing),))

    def test_going_of_what_is_not_there(self):
        self.assert_bad(2, 2, (("come", 0, 1), ("go", 0), ("go", 0)))
        self.assert_bad(1, 2, (("come", 0, 1), ("go", 1), ("come", 0, 1)))
        self.assert_bad(3, 2, (("come", 0, 1), ("go", 0), ("come", 0, 1), ("go", 0)))
        self.assertEqual(len(History(2, (("come", 0, 1), ("go", 0), ("come", 0, 1), ("go", 1))).deeds), 4)

    def test_at_most_32_ties(self):
        tie = ("come", 0, 1)
        self.assertEqual(len(lives(History(2, (tie,) * 32))), 32)
        self.assert_bad(32, 2, (tie,) * 33)
        gone = sum(((tie, ("go", number)) for number in range(20)), ())
        self.assertEqual(len(History(2, gone).deeds), 40)
        self.assertEqual(len(lives(History(2, gone + (tie,) * 12))), 32)
        self.assert_bad(52, 2, gone + (tie,) * 13)

    def test_equal_by_both_parts(self):
        self.assertTrue(History(4, PLAIN) == History(4, tuple(list(PLAIN))))
        self.assertFalse(History(4, PLAIN) != History(4, PLAIN))
        self.assertFalse(History(4, PLAIN) == History(5, PLAIN))
        self.assertFalse(History(4, PLAIN) == History(4, PLAIN[:-1]))
        self.assertTrue(History(4, PLAIN) != History(4, PLAIN[:-1]))

    def test_equal_to_nothing_of_another_kind(self):
        history = History(4, PLAIN)

        class Other:
            many, deeds = 4, PLAIN

        for thing in strange_things() + [4, PLAIN, (4, PLAIN), [4, PLAIN], Other()]:
            self.assertIs(history == thing, False)
            self.assertIs(thing == history, False)
            self.assertIs(history != thing, True)

    def test_caught_as_forest_error(self):
        history = History(4, PLAIN)
        for call in (lambda: History(0, ()), lambda: History(1, 0), lambda: kept_then(history, -1),
                     lambda: joined_till(history, 0, 0, 4)):
            with self.assertRaises(ForestError):
                call()


class TestByHand(HistoryCase):
    def test_plain(self):
        history = History(4, PLAIN)
        self.assertEqual(lives(history), ((0, 5), (2, None), (4, 7), (10, None)))
        self.assertEqual(answers_of(history), [False, True, True, False, True])
        self.assertEqual(parts_of(history), [3, 3, 2, 2, 2, 2, 2, 3, 3, 3, 2])

    def test_kept_then(self):
        history = History(4, PLAIN)
        due = [(), (0,), (0,), (0, 1), (0, 1), (1, 2), (1, 2), (1, 2), (1,), (1,), (1,), (1, 3)]
        self.assertEqual([kept_then(history, at) for at in range(12)], due)

    def test_joined_till(self):
        history = History(4, PLAIN)
        self.assertEqual([joined_till(history, at, 0, 2) for at in range(12)],
                         [-1, -1, -1, 5, 5, 7, 7, 7, -1, -1, -1, None])
        self.assertEqual([joined_till(history, at, 1, 2) for at in range(12)], [-1] * 3 + [None] * 9)
        self.assertEqual([joined_till(history, at, 3, 3) for at in range(12)], [None] * 12)
        self.assertEqual([joined_till(history, at, 3, 0) for at in range(12)], [-1] * 12)

    def test_of_two_that_never_go_the_lesser_number_stays_longer(self):
        history = History(3, (("come", 0, 1), ("come", 0, 1), ("come", 1, 2), ("come", 2, 0)))
        self.assertEqual([kept_then(history, at) for at in range(5)], [(), (0,), (0,), (0, 2), (0, 2)])

    def test_of_two_that_go_the_later_one_stays_longer(self):
        history = History(2, (("come", 0, 1), ("come", 1, 0), ("go", 0), ("go", 1)))
        self.assertEqual([kept_then(history, at) for at in range(5)], [(), (0,), (1,), (1,), ()])
        self.assertEqual([joined_till(history, at, 0, 1) for at in range(5)], [-1, 2, 3, 3, -1])

    def test_ties_that_come_later_are_not_known(self):
        history = History(2, (("come", 0, 1), ("go", 0), ("come", 0, 1)))
        self.assertEqual([joined_till(history, at, 0, 1) for at in range(4)], [-1, 1, -1, None])

    def test_kinds(self):
        history = History(4, PLAIN)
        for told, kind in [(lives(history), tuple), (lives(history)[0], tuple), (kept_then(history, 3), tuple),
                           (answers_of(history), list), (parts_of(history), list), (answers_of(history)[0], bool),
                           (parts_of(history)[0], int), (joined_till(history, 3, 0, 2), int)]:
            self.assertIs(type(told), kind)
        self.assertIsNot(answers_of(history), answers_of(history))
        self.assertIsNot(parts_of(history), parts_of(history))
        self.assertEqual((lives(History(3, ())), answers_of(History(3, ())), parts_of(History(3, ()))), ((), [], []))


class TestDrawn(HistoryCase):
    def test_like_an_own_look(self):
        for many, deeds in some_histories():
            history = History(many, deeds)
            held = frozen(history)
            self.assertEqual(frozen(lives(history)), frozen(tuple(span[2:] for span in own_lives(deeds))))
            asked = [index for index, deed in enumerate(deeds) if deed[0] == "ask"]
            self.assertEqual(answers_of(history), [
                deeds[at][2] in led_to(deeds, there_at(deeds, at), deeds[at][1]) for at in asked])
            self.assertEqual(parts_of(history), [
                len({min(led_to(deeds, there_at(deeds, at), house)) for house in range(many)})
                for at in range(1, len(deeds) + 1)])
            self.assertEqual(frozen(history), held)

    def test_moments(self):
        chance = random.Random(89)
        for many, deeds in some_histories():
            history = History(many, deeds)
            held = frozen(history)
            for at in range(0, len(deeds) + 1, 1 + len(deeds) // 20):
                kept = kept_then(history, at)
                self.assertEqual(frozen(kept), frozen(own_kept(deeds, at)))
                self.check_fact(history, at, kept, chance)
            self.assertEqual(frozen(history), held)

    def check_fact(self, history, at, kept, chance):
        """The fact of lives: joined by those that are there as by those of kept_then, and till when."""
        for _ in range(6):
            one, other = chance.randrange(history.many), chance.randrange(history.many)
            line = led_to(history.deeds, kept, one).get(other)
            self.assertEqual(line is not None, other in led_to(history.deeds, there_at(history.deeds, at), one))
            till = joined_till(history, at, one, other)
            self.assertEqual(frozen(till), frozen(own_till(history.deeds, at, one, other)))
            if line is not None:
                goes = [lives(history)[tie][1] for tie in line if lives(history)[tie][1] is not None]
                self.assertEqual(till, min(goes, default=None))


class TestMomentErrors(HistoryCase):
    def test_no_moment(self):
        for history in (History(4, PLAIN), History(1, ())):
            last = len(history.deeds)
            for thing in no_integers() + [-1, -2, last + 1, last + 2, 10 ** 19]:
                self.assert_raises(NoMoment, kept_then, history, thing)
                for house in (0, None, 4, True, "0"):
                    self.assert_raises(NoMoment, joined_till, history, thing, house, 0)
                    self.assert_raises(NoMoment, joined_till, history, thing, 0, house)
            self.assertEqual(joined_till(history, last, 0, 0), None)

    def test_no_house(self):
        history = History(4, PLAIN)
        for thing in no_houses(4):
            for at in (0, 11):
                self.assert_raises(NoHouse, joined_till, history, at, thing, 0)
                self.assert_raises(NoHouse, joined_till, history, at, 0, thing)
                self.assert_raises(NoHouse, joined_till, history, at, thing, thing)


if __name__ == "__main__":
    unittest.main()
