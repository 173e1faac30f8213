"""What is written and read [7.1], texts [7.2], and the general rules [0.2] to [0.4] for them."""

import random
import unittest

from cutlinked.accounts import Account
from cutlinked.errors import BadAccount, BadForest, BadText, BadThing, ForestError, NoThing
from cutlinked.forests import Forest
from cutlinked.texts import (
    account_text, deeds_text, forest_text, read_account, read_deeds, read_forest, read_thing, written,
)
from tests.helper import all_forests, frozen, large_forests, nested, some_ask, some_deed, strange_things
from tests.wording import (
    begins_something, is_deed_line, is_written, own_account, own_forest, own_lines, own_thing, own_written, place_of,
)

A = Forest((None, 0, 1, 1), (5, 7, 2, 9))
A_TEXT = "house - 5\nhouse 0 7\nhouse 1 2\nhouse 1 9\n"
EVENTS = (("did", ("cut", 1)), ("told", ("root", 1), 1), ("told", ("joined", 0, 1), False), ("did", None),
          ("told", ("where", 0, 1, "least"), None), ("told", ("reach", 0, 1, -5), (True, (), ((1,), "some"))))
EVENTS_TEXT = ("did (cut,1)\ntold (root,1) 1\ntold (joined,0,1) no\ndid -\ntold (where,0,1,least) -\n"
               "told (reach,0,1,-5) (yes,(),((1),some))\n")
DEEDS = (("link", 0, 12), ("cut", 3), ("turn", 0), ("put", 4, -10 ** 20 + 1), ("add", 1, 10 ** 20 - 1, 0))
DEEDS_TEXT = "link 0 12\ncut 3\nturn 0\nput 4 -99999999999999999999\nadd 1 99999999999999999999 0\n"


def nest(thing, deep):
    """The thing within so many tuples."""
    for _ in range(deep):
        thing = (thing,)
    return thing


def good_things():
    """Things that can be written."""
    chance = random.Random(109)
    flat = [0, 1, 9, 10, -1, -9, -10, 100, 10 ** 20 - 1, -10 ** 20 + 1, 10 ** 19, True, False, None, "a", "z", "none",
            "ye", "yess", "yesno", "n", "noo", "x" * 20, "abcdefghijklmnopqrst", "uvwxyz", "least", "house"]
    rows = [(), ((),), ((), ()), (1,), (None,), ("a",), (True, 1, False, 0, None), tuple(flat), (-1, -2), ("a", "b"),
            nest((), 19), nest(0, 20), nest("a", 20), nested(lambda inner: (inner, 1), 20), (nest((), 18), nest(-1, 19)),
            (0,) * 2000, ("way", 0, 1), ((3, 21), (None, "x"))]
    for _ in range(80):
        rows.append(drawn(chance, flat, 4))
    return flat + rows


def drawn(chance, flat, deep):
    """A thing by chance."""
    if deep and chance.random() < 0.6:
        return tuple(drawn(chance, flat, deep - 1) for _ in range(chance.randrange(4)))
    return chance.choice(flat)


def can_be_written(thing):
    """Whether a strange thing can be written."""
    if type(thing) is tuple:
        return deep_of(thing) <= 20 and all(can_be_written(part) for part in thing)
    if type(thing) is str:
        return thing not in ("yes", "no") and 1 <= len(thing) <= 20 and all("a" <= sign <= "z" for sign in thing)
    return thing is None or type(thing) in (bool, int)


def deep_of(thing):
    """How deep a thing of tuples is nested."""
    return 1 + max([0] + [deep_of(part) for part in thing]) if type(thing) is tuple else 0


def no_things():
    """What can't be written."""
    return [thing for thing in strange_things() if not can_be_written(thing)] + [
        "yes", "no", "", "x" * 21, "A", "aB", "a b", " ", "a1", "1", "-", "a\n", "\n", "(", "()", "a,b", "\xe9", "`", "{",
        [], [1], {}, {"a": 1}, nest((), 20), nest(0, 21), nest(0, 40), (1, []), ((), ("yes",)), b"a", range(3)]


class TextCase(unittest.TestCase):
    def assert_raises(self, error, call, *args):
        held = frozen(args)
        with self.assertRaises(error) as caught:
            call(*args)
        self.assertIs(caught.exception.__class__, error)
        self.assertEqual(frozen(args), held)
        return caught.exception


class TestWritten(TextCase):
    def test_by_hand(self):
        for thing, text in [
                (0, "0"), (-1, "-1"), (10 ** 20 - 1, "9" * 20), (-10 ** 20 + 1, "-" + "9" * 20), (None, "-"),
                (True, "yes"), (False, "no"), ("a", "a"), ("least", "least"), ((), "()"), ((1,), "(1)"),
                ((1, None), "(1,-)"), (((), (True, ("x", -3))), "((),(yes,(x,-3)))")]:
            self.assertEqual(frozen(written(thing)), frozen(text))
            self.assertEqual(frozen(read_thing(text)), frozen(thing))

    def test_there_and_back(self):
        for thing in good_things():
            text = written(thing)
            self.assertEqual(frozen(text), frozen(own_written(thing)))
            self.assertEqual(frozen(read_thing(text)), frozen(thing))
            self.assertEqual(frozen(own_thing(text)), frozen(thing))
            self.assertTrue(is_written(text))

    def test_of_any_size(self):
        for thing in (10 ** 20, -10 ** 20, 10 ** 300, -10 ** 3999, (10 ** 20, (10 ** 30,))):
            self.assertEqual(written(thing), own_written(thing))

    def test_no_things(self):
        for thing in no_things():
            for whole in (thing, (thing,), (1, (thing, 2))):
                self.assert_raises(NoThing, written, whole)
        for thing in strange_things():
            if can_be_written(thing):
                self.assertEqual(written(thing), own_written(thing))

    def test_caught_as_forest_error(self):
        for call in (lambda: written([]), lambda: read_thing(""), lambda: read_forest(""), lambda: read_deeds(0)):
            with self.assertRaises(ForestError):
                call()


class TestReadThing(TextCase):
    def assert_bad(self, place, text):
        self.assertEqual(self.assert_raises(BadThing, read_thing, text).place, place, text)

    def check(self, text):
        """Compare with the own look; returns whether something is read."""
        if is_written(text):
            thing = read_thing(text)
            self.assertEqual(frozen(thing), frozen(own_thing(text)))
            self.assertEqual(written(thing), text)
            return True
        self.assert_bad(place_of(text), text)
        return False

    def test_no_string(self):
        for thing in strange_things() + [0, 1, -1, ["a"], ("a",), b"a", b"", b"(1)"]:
            if type(thing) is not str:
                self.assert_bad(-1, thing)

    def test_by_hand(self):
        for place, text in [
                (0, ""), (0, " "), (0, "\n"), (0, ")"), (0, ","), (0, "+1"), (0, "A"), (0, "_"), (0, "{"), (0, "`"),
                (1, "-0"), (1, "--"), (1, "-a"), (1, "00"), (1, "01"), (1, "0a"), (2, "-1a"), (2, "12 "), (3, "-12-"),
                (20, "1" * 21), (21, "-" + "1" * 21), (20, "x" * 21), (20, "1" * 30), (20, "x" * 20000), (1, "a1"),
                (1, "a "), (1, "1 "), (1, "1\n"), (3, "yes "), (3, "yes1"), (2, "no)"), (2, "()()"), (2, "() "),
                (1, "("), (2, "(1"), (3, "(1,"), (3, "(1,)"), (1, "(,"), (1, "( 1)"), (2, "(1 )"), (3, "(1, 2)"),
                (2, "(1(2))"), (4, "(1,("), (3, "(1))"), (2, "(-"), (2, "(-0)"), (2, "(00)"), (0, "Yes"), (2, "yeS"),
                (20, "(" * 20), (20, "(" * 21), (20, "(" * 3000), (21, "(" * 20 + ")"), (22, "(" * 20 + "1)"),
                (22, "(" * 20 + "1)("), (21, "(" * 20 + "1("), (22, "(" * 20 + "1,("), (23, "(" * 19 + "(),("),
                (23, "(" * 19 + "(),(("), (1, "nO"), (21, "(" + "1" * 21 + ")"), (21, "(" + "x" * 21 + ")"), (1, "(A)"),
                (2, "(a\n)"), (5, "least "), (3, "abc,")]:
            self.assert_bad(place, text)
            self.assertEqual(place_of(text), place)
        for text, thing in [("-", None), ("0", 0), ("-5", -5), ("yes", True), ("no", False), ("yess", "yess"), ("n", "n"),
                            ("noo", "noo"), ("(yes,no,yesno)", (True, False, "yesno")), ("(-,-1,-)", (None, -1, None)),
                            ("1" * 20, int("1" * 20)), ("(" * 20 + ")" * 20, nest((), 19))]:
            self.assertEqual(frozen(read_thing(text)), frozen(thing))

    def test_texts_with_signs_changed(self):
        good = 0
        for text in ["0", "-", "-12", "100", "yes", "no", "least", "(a,-,(1,-20,()),no)", "()", "((),x)"]:
            for place in range(len(text) + 1):
                for sign in "()-,0159aynz \nA|%+_":
                    good += self.check(text[:place] + sign + text[place + 1:])
                    good += self.check(text[:place] + sign + text[place:])
                good += self.check(text[:place] + text[place + 1:])
                good += self.check(text[:place])
        self.assertGreater(good, 300)

    def test_all_small_texts(self):
        texts = [""]
        for _ in range(4):
            texts = [text + sign for text in texts for sign in "()-,01a "]
            self.assertTrue(any([self.check(text) for text in texts]))

    def test_texts_changed_by_chance(self):
        chance = random.Random(113)
        texts = [written(thing) for thing in good_things() if len(written(thing)) < 100]
        texts += ["(" * 19 + "1" * 20 + ",a)" + ")" * 18, "(" * 20 + "-)" + ")" * 19, "(" + "x" * 20 + "," + "9" * 20 + ")"]
        for _ in range(3000):
            text = chance.choice(texts)
            for _ in range(chance.randint(1, 2)):
                place = chance.randrange(len(text) + 1)
                text = text[:place] + chance.choice(["", *"(),-019ax "]) + text[place + chance.randrange(2):]
            self.check(text)

    def test_each_beginning(self):
        for thing in good_things():
            text = written(thing)
            for end in range(0, len(text), 1 if len(text) < 200 else 97):
                self.assertTrue(begins_something(text[:end]))
                if not is_written(text[:end]):
                    self.assert_bad(end, text[:end])


class TestTextsOfForests(TextCase):
    def test_lines(self):
        self.assertEqual(forest_text(A), A_TEXT)
        self.assertEqual(forest_text(Forest((None,), (-10 ** 25,))), "house - -1" + "0" * 25 + "\n")

    def test_there_and_back(self):
        for forest in [A] + all_forests(3) + large_forests():
            held = frozen(forest)
            text = forest_text(forest)
            due = "".join(f"house {'-' if p is None else p} {w}\n" for p, w in zip(forest.parents, forest.worths))
            self.assertEqual(frozen(text), frozen(due))
            self.assertEqual(frozen(read_forest(text)), held)
            self.assertEqual(forest_text(read_forest(text)), text)
            self.assertEqual(frozen(forest), held)

    def check(self, text):
        """Compare with the own look; returns whether a forest is read."""
        due = own_forest(text)
        if due[0] == "good":
            forest = read_forest(text)
            self.assertIs(type(forest), Forest)
            self.assertEqual(frozen((forest.parents, forest.worths)), frozen(due[1:]))
            self.assertEqual(forest_text(forest), text)
        elif due[0] == "text":
            self.assertEqual(self.assert_raises(BadText, read_forest, text).line, due[1], text)
        else:
            self.assertEqual(self.assert_raises(BadForest, read_forest, text).part, due[1], text)
        return due[0] == "good"

    def test_by_hand(self):
        for line, text in [
                (1, ""), (1, "\n"), (1, "house - 5"), (2, "house - 5\nhouse"), (2, "house - 5\n "), (1, " house - 5\n"),
                (1, "house - 5 \n"), (1, "house  - 5\n"), (1, "house -  5\n"), (1, "house - 5 0\n"), (1, "house -\n"),
                (1, "House - 5\n"), (1, "house - 05\n"), (1, "house - -0\n"), (1, "house - +5\n"), (1, "house - a\n"),
                (1, "house - -\n"), (1, "house -1 5\n"), (1, "house no 5\n"), (1, "house - yes\n"), (1, "house () 5\n"),
                (1, "house - " + "1" * 21 + "\n"), (1, "house " + "1" * 21 + " 0\n"), (2, "house - 5\n\n"),
                (2, "house - 5\n\nhouse 0 5\n"), (2, A_TEXT.replace("0 7", "x 7")), (2, "house - 5\ndid (cut,1)\n"),
                (5, A_TEXT + "house 0"), (3, "house - 5\nhouse 9 9\nhouses 0 0\n"), (1, "houses - 5\nhouse"), (1, "house\n"),
                (1, "house - 5\r\n"), (1, "house - 5\thouse\n"), (1, "house 1 00\nhouse 1 0\n"), (1, "x")]:
            self.assertEqual(self.assert_raises(BadText, read_forest, text).line, line, text)
            self.check(text)
        for text in ["house 0 5\n", "house 1 5\n", "house " + "9" * 20 + " 5\n", "house 1 0\nhouse 0 0\n",
                     "house - 0\n" * 65, "house - 5\nhouse 2 5\n"]:
            self.assertEqual(self.assert_raises(BadForest, read_forest, text).part, "parents")
            self.check(text)
        self.assertTrue(self.check("house - 0\n" * 64))
        self.assertTrue(self.check("house - " + "9" * 20 + "\nhouse 0 -" + "9" * 20 + "\n"))

    def test_no_string(self):
        for read in (read_forest, read_deeds, read_account):
            for thing in strange_things() + [0, ["house - 5\n"], b"house - 5\n", b""]:
                if type(thing) is not str:
                    self.assertEqual(self.assert_raises(BadText, read, thing).line, 0)

    def test_texts_changed(self):
        chance = random.Random(127)
        for text in changed_texts(chance, [A_TEXT, forest_text(large_forests()[-1])[:300], "house - -12\n"], 1500):
            self.check(text)


def changed_texts(chance, texts, many):
    """Texts of which lines are left out, doubled or exchanged, or signs changed."""
    for _ in range(many):
        lines = chance.choice(texts).split("\n")
        for _ in range(chance.randrange(3)):
            at, other = chance.randrange(len(lines)), chance.randrange(len(lines))
            lines[at:at + 1] = chance.choice([[], [lines[at]] * 2, [lines[other]], [" ".join(lines[at].split(" ")[1:])]])
            lines = lines or [""]
        text = "\n".join(lines)
        for _ in range(chance.randrange(2)):
            place = chance.randrange(len(text) + 1)
            more = chance.choice(["", *"01-()a \n", "  ", "0" * 20, "1" * 20])
            text = text[:place] + more + text[place + chance.randrange(2):]
        yield text


class TestTextsOfDeeds(TextCase):
    def test_lines(self):
        self.assertEqual(deeds_text(DEEDS), DEEDS_TEXT)
        self.assertEqual(deeds_text(list(DEEDS)), DEEDS_TEXT)
        self.assertEqual((deeds_text(()), deeds_text([])), ("", ""))
        self.assertEqual(frozen(read_deeds(DEEDS_TEXT)), frozen(DEEDS))
        self.assertEqual(frozen(read_deeds("")), frozen(()))
        self.assertEqual(deeds_text([("put", 70, 10 ** 30)]), "put 70 1" + "0" * 30 + "\n")

    def check(self, text):
        bad = own_lines(text, is_deed_line)
        if bad is not None:
            self.assertEqual(self.assert_raises(BadText, read_deeds, text).line, bad, text)
        else:
            due = tuple((line.split(" ")[0], *map(int, line.split(" ")[1:])) for line in text.split("\n")[:-1])
            self.assertEqual(frozen(read_deeds(text)), frozen(due))
            self.assertEqual(deeds_text(due), text)

    def test_by_hand(self):
        for line, text in [
                (1, "\n"), (1, "cut 1"), (1, "cut\n"), (1, "cut 1 1\n"), (1, "cut -1\n"), (1, "cut -\n"), (1, "cut yes\n"),
                (1, "cut 01\n"), (1, "cut (1)\n"), (1, "Cut 1\n"), (1, "root 1\n"), (1, "link 0\n"), (1, "link 0 1 2\n"),
                (1, "link 0 -1\n"), (1, "put 0\n"), (1, "put 0 -\n"), (1, "put 0 -0\n"), (1, "put -1 0\n"), (1, "put 0 a\n"),
                (1, "add 0 1\n"), (1, "add 0 1 no\n"), (1, "add 0 -1 1\n"), (1, " cut 1\n"), (1, "cut 1 \n"), (1, "cut  1\n"),
                (2, "cut 1\n\n"), (2, "cut 1\nturn"), (3, "cut 1\nturn 1\ncut x\nturn y\n"), (1, "cut " + "1" * 21 + "\n"),
                (1, "put 0 -" + "1" * 21 + "\n"), (2, "cut 1\nhouse - 5\n"), (1, "house - 5\n"), (1, "did (cut,1)\n"),
                (1, "(cut,1)\n"), (2, "turn 0\n "), (1, "cut 1,2\n"), (1, "turn\n"), (1, "turn 0 0\n")]:
            self.assertEqual(self.assert_raises(BadText, read_deeds, text).line, line, text)
            self.check(text)

    def test_there_and_back(self):
        chance = random.Random(131)
        for forest in all_forests(3) + large_forests():
            deeds = tuple(some_deed(chance, forest) for _ in range(chance.randrange(20)))
            text = deeds_text(deeds)
            self.assertEqual(text, "".join(" ".join(map(str, deed)) + "\n" for deed in deeds))
            self.assertEqual(frozen(read_deeds(text)), frozen(deeds))
        for text in changed_texts(chance, [DEEDS_TEXT, "put 0 1\nlink 3 4\n", ""], 1500):
            self.check(text)


class TestTextsOfAccounts(TextCase):
    def test_lines(self):
        self.assertEqual(account_text(Account(A, EVENTS)), A_TEXT + EVENTS_TEXT)
        self.assertEqual(account_text(Account(A, ())), A_TEXT)
        self.assertEqual(frozen(read_account(A_TEXT + EVENTS_TEXT)), frozen(Account(A, EVENTS)))
        self.assertEqual(frozen(read_account(A_TEXT)), frozen(Account(A, ())))

    def test_no_thing(self):
        for thing in no_things():
            for event in (("did", thing), ("told", ("root", 0), thing), ("did", (1, thing))):
                account = Account(A, EVENTS + (event,) + EVENTS)
                self.assert_raises(NoThing, account_text, account)

    def check(self, text):
        due = own_account(text)
        if due[0] == "good":
            account = read_account(text)
            self.assertIs(type(account), Account)
            self.assertEqual(frozen((account.begun.parents, account.begun.worths, account.events)), frozen(due[1:]))
            self.assertEqual(account_text(account), text)
        elif due[0] == "text":
            self.assertEqual(self.assert_raises(BadText, read_account, text).line, due[1], text)
        elif due[0] == "forest":
            self.assertEqual(self.assert_raises(BadForest, read_account, text).part, due[1], text)
        else:
            self.assertEqual(self.assert_raises(BadAccount, read_account, text).index, due[1], text)

    def test_bad_texts(self):
        for line, text in [
                (1, ""), (1, "\n"), (1, "did -\n"), (1, "did -\n" + A_TEXT), (5, A_TEXT + "did"), (5, A_TEXT + "did\n"),
                (5, A_TEXT + "did - -\n"), (5, A_TEXT + "did  -\n"), (5, A_TEXT + "did -"), (5, A_TEXT + "told (root,1)\n"),
                (5, A_TEXT + "told (root,1) 1 1\n"), (5, A_TEXT + "told root 1 1\n"), (5, A_TEXT + "did (cut, 1)\n"),
                (5, A_TEXT + "did (cut,1\n"), (5, A_TEXT + "did 01\n"), (5, A_TEXT + "did Cut\n"), (5, A_TEXT + "cut 1\n"),
                (6, A_TEXT + "did -\n" + A_TEXT), (6, A_TEXT + "did 1\nhouse - 0\n"), (7, A_TEXT + "did 1\ndid 2\nhouse 0 0\n"),
                (5, A_TEXT + "\n"), (5, A_TEXT + " "), (5, A_TEXT + "told  1\n"), (5, A_TEXT + "did " + "x" * 21 + "\n"),
                (2, "house - 5\nhouse 7\ndid -\n"), (1, "house - x\ndid -\n"), (6, "house 9 9\n" * 5 + "x\n"),
                (2, "house - 5\ntold\n"), (2, "house - 5\ndid " + "(" * 21 + ")" * 21 + "\n"), (1, "did -")]:
            self.assertEqual(self.assert_raises(BadText, read_account, text).line, line, text)
            self.check(text)

    def test_then_forests_then_accounts(self):
        for text in ["house 0 5\n", "house 1 0\nhouse 0 0\ntold (root,9) 0\n", "house 3 0\n" + "did -\n" * 2001]:
            self.assertEqual(self.assert_raises(BadForest, read_account, text).part, "parents")
            self.check(text)
        for index, text in [
                (0, "told (root,4) 1\n"), (1, "did 5\ntold 1 2\ndid 3\n"), (2, "did 5\ndid 5\ntold - -\n"),
                (0, "told root 0\n"), (0, "told (cut,1) 0\n"), (0, "told (at,0,1,-1) -\n"), (-1, "did -\n" * 2001),
                (-1, "told 0 0\n" * 2001), (0, "told (where,0,1,most) 0\ntold 0 0\n"), (0, "told (root,yes) 0\n")]:
            self.assertEqual(self.assert_raises(BadAccount, read_account, A_TEXT + text).index, index)
            self.check(A_TEXT + text)
        self.check(A_TEXT + "did -\n" * 2000)

    def test_there_and_back(self):
        chance = random.Random(137)
        things = good_things()
        texts = [A_TEXT + EVENTS_TEXT]
        for forest in [A] + all_forests(2) + large_forests()[::3]:
            events = []
            for _ in range(20):
                events.append(chance.choice([("did", some_deed(chance, forest)), ("did", chance.choice(things)),
                                             ("told", some_ask(chance, forest), chance.choice(things))]))
            account = Account(forest, tuple(events))
            text = account_text(account)
            due = forest_text(forest)
            for event in events:
                due += " ".join([event[0]] + [own_written(thing) for thing in event[1:]]) + "\n"
            self.assertEqual(text, due)
            self.assertEqual(frozen(read_account(text)), frozen(account))
            texts.append(text if len(text) < 400 else A_TEXT)
        for text in changed_texts(chance, texts, 1500):
            self.check(text)


if __name__ == "__main__":
    unittest.main()
