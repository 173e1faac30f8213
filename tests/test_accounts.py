"""Accounts of strangers [4.4], and the general rules [0.2] to [0.4] for them."""

import random
import unittest

from cutlinked.accounts import Account, cost_of, first_wrong, standing_at
from cutlinked.asks import answer
from cutlinked.deeds import behind, is_deed, led
from cutlinked.errors import BadAccount, ForestError, NoMoment
from cutlinked.forests import Forest
from cutlinked.kepts import Kept
from tests.helper import frozen, large_forests, no_integers, some_ask, some_deed, strange_things

A = Forest((None, 0, 1, 1), (5, 7, 2, 9))
TWO = Forest((None, 0, None, 2), (1, 2, 3, 4))
RIGHT = (
    ("told", ("root", 3), 0), ("did", ("cut", 1)), ("told", ("joined", 0, 3), False), ("did", ("put", 3, -1)),
    ("told", ("way", 2, 3), (3, 8, -1, 7)), ("told", ("common", 0, 1), None), ("did", ("link", 1, 0)),
    ("told", ("joined", 0, 3), True), ("told", ("whole", 2), (4, 13)), ("told", ("reach", 0, 3, -2), None),
)


class AccountCase(unittest.TestCase):
    def assert_bad(self, index, begun, events):
        held = frozen((begun, events))
        with self.assertRaises(BadAccount) as caught:
            Account(begun, events)
        self.assertIs(caught.exception.__class__, BadAccount)
        self.assertEqual(caught.exception.index, index)
        self.assertEqual(frozen((begun, events)), held)

    def assert_wrong(self, due, begun, events):
        account = Account(begun, events)
        held = frozen(account)
        for _ in range(2):
            self.assertEqual(frozen(first_wrong(account)), frozen(due))
        self.assertEqual(frozen(account), held)

    def assert_no_moment(self, account, at):
        held = frozen((account, at))
        with self.assertRaises(NoMoment) as caught:
            standing_at(account, at)
        self.assertIs(caught.exception.__class__, NoMoment)
        self.assertEqual(frozen((account, at)), held)


class TestAccount(AccountCase):
    def test_keeps_its_parts(self):
        account = Account(A, RIGHT)
        self.assertEqual((account.begun, account.events), (A, RIGHT))
        self.assertEqual(sorted(vars(account)), ["begun", "events"])
        self.assertEqual(Account(A, ()).events, ())

    def test_events_of_any_things(self):
        for thing in strange_things() + [0, -1, ("cut", 0), 10 ** 20 - 1]:
            held = frozen(thing)
            events = (("did", thing), ("told", ("root", 0), thing))
            self.assertEqual(frozen(Account(A, events).events), frozen(events))
            self.assertEqual(frozen(thing), held)

    def test_no_tuple_of_so_many(self):
        for thing in strange_things() + [0, list(RIGHT), [], "did", {("did", 0): 1}]:
            if not isinstance(thing, tuple):
                self.assert_bad(-1, A, thing)
        event = ("told", ("root", 0), 0)
        for many in (1999, 2000):
            self.assertEqual(len(Account(A, (event,) * many).events), many)
        self.assert_bad(-1, A, (event,) * 2001)
        self.assert_bad(-1, A, (None,) * 2001)
        self.assert_bad(0, A, (None,) * 2000)
        self.assert_bad(1999, A, (event,) * 1999 + (None,))

    def test_the_first_that_is_none(self):
        good = ("did", None)
        bad = strange_things() + [
            0, "did", ["did", 0], ("did",), ("did", 0, 0), ("told", 0), ("told", ("root", 0)), ("Did", 0), (b"did", 0),
            ("told", ("root", 0), 0, 0), ("told", 0, ("root", 0)), ("told", ["root", 0], 0), ("did", ("root", 0), 0),
            ("told", ("root", 4), 0), ("told", ("root", True), 0), ("told", ("cut", 1), None), ("ask", ("root", 0), 0),
            ("told", ("at", 0, 1, -1), None), ("told", (), ()), (("did",), 0), {"did": 0}, ("told", ("did", 0), 0),
        ]
        for thing in bad:
            self.assert_bad(0, A, (thing, None))
            self.assert_bad(2, A, (good, good, thing, good, thing))
        for thing in strange_things():
            self.assert_bad(1, A, (good, ("told", thing, 0)))
            self.assert_bad(1, A, (good, (thing, ("root", 0), 0)))
            self.assert_bad(1, A, (good, (thing, ("cut", 1))))

    def test_asks_by_their_form_for_the_first_forest(self):
        self.assertEqual(len(Account(TWO, (("told", ("way", 0, 3), None),)).events), 1)
        self.assert_bad(0, Forest((None,), (0,)), (("told", ("way", 0, 3), None),))
        self.assertEqual(len(Account(Forest((None,), (0,)), (("did", ("turn", 5)),)).events), 1)

    def test_equal_by_both_parts(self):
        self.assertTrue(Account(A, RIGHT) == Account(Forest(A.parents, A.worths), tuple(list(RIGHT))))
        self.assertFalse(Account(A, RIGHT) != Account(A, RIGHT))
        self.assertFalse(Account(A, RIGHT) == Account(TWO, RIGHT))
        self.assertFalse(Account(A, RIGHT) == Account(A, RIGHT[:-1]))
        self.assertTrue(Account(A, RIGHT) != Account(A, RIGHT[:-1]))
        self.assertTrue(Account(A, (("did", [1]),)) == Account(A, (("did", [1]),)))
        self.assertFalse(Account(A, (("did", [1]),)) == Account(A, (("did", [2]),)))

    def test_equal_to_nothing_of_another_kind(self):
        account = Account(A, RIGHT)
        for thing in strange_things() + [0, (A, RIGHT), [A, RIGHT]]:
            self.assertIs(account == thing, False)
            self.assertIs(thing == account, False)
            self.assertIs(account != thing, True)

        class Other:
            begun, events = A, RIGHT

        self.assertFalse(account == Other())

    def test_keeps_copies(self):
        rows, table = [1, [2]], {"a": [3]}
        account = Account(A, (("did", (rows, table)), ("told", ("root", 0), rows)))
        held = frozen(account)
        rows[1].append(9)
        rows.append(9)
        table["a"].append(9)
        table["b"] = 0
        self.assertEqual(frozen(account), held)

    def test_caught_as_forest_error(self):
        for call in (lambda: Account(A, 0), lambda: standing_at(Account(A, ()), 1)):
            with self.assertRaises(ForestError):
                call()


class TestFirstWrong(AccountCase):
    def test_none(self):
        self.assert_wrong(None, A, ())
        self.assert_wrong(None, A, RIGHT)
        self.assert_wrong(None, A, (("did", ("turn", 3)),) * 3)

    def test_deeds(self):
        self.assert_wrong((0, "deed"), A, (("did", ("cut", 0)),))
        self.assert_wrong((1, "deed"), A, (("did", ("cut", 1)), ("did", ("cut", 1))))
        self.assert_wrong((2, "deed"), A, RIGHT[:2] + (("did", ("add", 0, 1, 1)), ("told", ("root", 0), 1)))
        self.assert_wrong((1, "deed"), A, (("did", ("cut", 1)), ("did", ["cut", 2])))
        for thing in strange_things() + [("root", 0), ("cut", 4), 0, "cut"]:
            self.assert_wrong((1, "deed"), A, (("did", ("turn", 0)), ("did", thing), ("did", thing)))

    def test_answers(self):
        for at, event in enumerate(RIGHT):
            if event[0] == "told":
                for thing in strange_things() + [17, -1, (3, 8, -1), (3, 8, -1, 7, 0)]:
                    if frozen(thing) != frozen(event[2]):
                        self.assert_wrong((at, "answer"), A, RIGHT[:at] + (event[:2] + (thing,),) + RIGHT[at + 1:])
        self.assert_wrong((0, "answer"), A, (("told", ("root", 3), 1), ("did", ("cut", 0))))

    def test_answers_of_another_kind(self):
        line = Forest((None, 0), (1, 0))
        for ask, good, bad in [
                (("depth", 1), 1, [True, (1,), [1], "1", b"1", None]), (("depth", 0), 0, [False, None, (), "", "0"]),
                (("joined", 0, 1), True, [1, (True,), None, "True"]), (("root", 1), 0, [False, None]),
                (("below", 0), (2, 1), [[2, 1], (2, True), (True, 1), (2, [1]), (2,), (2, 1, 1), ((2, 1),), (2, None)]),
                (("below", 1), (1, 0), [(True, 0), (1, False), [1, 0], (True, False), (1, None), {1: 0}]),
                (("way", 0, 1), (2, 1, 0, 1), [(2, True, False, True), [2, 1, 0, 1], (2, 1, 0, True), (2, 1, False, 1)]),
                (("at", 0, 1, 1), 1, [True]), (("at", 0, 1, 2), None, [False, 0, (), (None,), 2]),
                (("where", 0, 1, "least"), 1, [True, 0]), (("reach", 0, 1, -1), None, [False, 0]),
                (("common", 1, 1), 1, [True])]:
            self.assert_wrong(None, line, (("told", ask, good),))
            for thing in bad:
                self.assert_wrong((0, "answer"), line, (("told", ask, thing),))
        apart = Forest((None, None), (1, 1))
        self.assert_wrong(None, apart, (("told", ("joined", 0, 1), False),))
        for thing in (0, None, True, "", ()):
            self.assert_wrong((0, "answer"), apart, (("told", ("joined", 0, 1), thing),))

    def test_drawn_accounts(self):
        chance = random.Random(71)
        for forest in large_forests():
            standing, events = forest, []
            for _ in range(40):
                ask, deed = some_ask(chance, standing), some_deed(chance, standing)
                events.append(("told", ask, answer(standing, ask)))
                if is_deed(standing, deed):
                    events.append(("did", deed))
                    standing = behind(standing, deed)
            events = tuple(events)
            self.assert_wrong(None, forest, events)
            self.assertEqual(frozen(standing_at(Account(forest, events), len(events))), frozen(standing))
            at = chance.randrange(len(events))
            self.assert_wrong((at, "deed"), forest, events[:at] + (("did", ("cut", 64)),) + events[at:])
            self.assert_wrong((at, "answer"), forest, events[:at] + (("told", ("root", 0), 64),) + events[at:])


class TestMoments(AccountCase):
    def test_standing_at(self):
        account = Account(A, RIGHT)
        deeds = []
        for at in range(len(RIGHT) + 1):
            self.assertEqual(frozen(standing_at(account, at)), frozen(led(A, deeds)))
            if at < len(RIGHT) and RIGHT[at][0] == "did":
                deeds.append(RIGHT[at][1])
        self.assert_no_moment(account, len(RIGHT) + 1)

    def test_up_to_the_first_that_is_wrong_by_deed(self):
        events = (("told", ("root", 0), 3), ("did", ("cut", 1)), ("told", ("root", 0), None), ("did", ("cut", 1)),
                  ("did", ("turn", 3)), ("told", ("root", 3), 3))
        account = Account(A, events)
        self.assertEqual(first_wrong(account), (0, "answer"))
        for at, parents in enumerate([A.parents, A.parents, (None, None, 1, 1), (None, None, 1, 1)]):
            self.assertEqual(standing_at(account, at).parents, parents)
        for at in (4, 5, 6, 7, 10 ** 19):
            self.assert_no_moment(account, at)
        worse = Account(A, (("did", None),) + events)
        self.assertEqual(standing_at(worse, 0), A)
        self.assert_no_moment(worse, 1)

    def test_no_numbers(self):
        for account in (Account(A, RIGHT), Account(A, ()), Account(A, (("did", None),))):
            for thing in no_integers() + [-1, -2, -10 ** 19]:
                self.assert_no_moment(account, thing)
        self.assertEqual(standing_at(Account(A, ()), 0), A)
        self.assert_no_moment(Account(A, ()), 1)


class TestCost(AccountCase):
    def due(self, begun, events):
        kept = Kept(begun)
        for event in events:
            if event[0] == "did":
                kept.deed(event[1])
            else:
                kept.ask(event[1])
        return kept.papers()

    def test_of_all(self):
        for many in range(len(RIGHT) + 1):
            account = Account(A, RIGHT[:many])
            held = frozen(account)
            self.assertEqual(frozen(cost_of(account)), frozen(self.due(A, RIGHT[:many])))
            self.assertIsNot(cost_of(account), cost_of(account))
            self.assertEqual(frozen(account), held)
        self.assertEqual(cost_of(Account(A, ())), [])

    def test_up_to_the_first_that_is_wrong_by_deed(self):
        wrong = (("told", ("root", 0), "wrong"), ("told", ("way", 2, 3), None))
        for at in range(len(RIGHT) + 1):
            events = RIGHT[:at] + wrong + (("did", ("cut", 0)),) + RIGHT[at:]
            self.assertEqual(cost_of(Account(A, events)), self.due(A, RIGHT[:at] + wrong))
        self.assertEqual(cost_of(Account(A, (("did", []),) + RIGHT)), [])


if __name__ == "__main__":
    unittest.main()
