"""The desk [7.5], and the general rules [0.2] to [0.4] for it."""

import random
import re
import unittest

from cutlinked.accounts import cost_of, first_wrong
from cutlinked.asks import answer, is_ask
from cutlinked.deeds import is_deed
from cutlinked.desks import Desk
from cutlinked.errors import (
    BadAccount, BadForest, BadText, ForestError, NoAsk, NoDeed, NoLine, NoName, NothingDone,
)
from cutlinked.forests import Forest
from cutlinked.kepts import Kept
from cutlinked.pictures import drawn_forest, drawn_shape, drawn_weights
from cutlinked.shapes import potential
from cutlinked.texts import account_text, deeds_text, forest_text, read_account, read_forest
from tests.helper import frozen, large_forests, some_ask, some_deed, strange_things
from tests.wording import ASK, DEED, own_written

A = Forest((None, 0, 1, 1), (5, 7, 2, 9))
A_LINE = "house - 5|house 0 7|house 1 2|house 1 9|"
EVENTS_LINE = "did (cut,1)|told (root,3) 1|told (joined,0,1) yes|did (turn,9)|"

OF_FORESTS = ["source", "view", "rows", "weights", "deeds", "papers", "last", "spent", "bound", "links", "potential"]
OF_ACCOUNTS = ["events", "wrong", "cost"]

LINE = re.compile(
    f"(forest|account) ([a-z]{{1,8}}) ([^\n]+)|do ([a-z]{{1,8}}) ({DEED.pattern})|(ask|walk) ([a-z]{{1,8}}) ({ASK.pattern})|"
    f"(back|{'|'.join(OF_FORESTS + OF_ACCOUNTS)}) ([a-z]{{1,8}})")


def thing_of(words):
    """The deed or the ask of these words."""
    return tuple(word if word.isalpha() else int(word) for word in words)


def own_told(thing):
    """The answer in a line."""
    return " ".join(map(own_written, thing)) if type(thing) is tuple else own_written(thing)


class OwnDesk:
    """What a desk holds, by the words of the document: of each forest all that it was, and all deeds."""

    def __init__(self):
        self.forests, self.accounts = {}, {}

    def tell(self, line):
        """What is told: a string, or the class of an error."""
        if type(line) is not str or LINE.fullmatch(line) is None:
            return NoLine
        word, name, *rest = line.split(" ")
        if word in ("forest", "account"):
            return self.keep(word, name, line.split(" ", 2)[2].replace("|", "\n"))
        if word in OF_ACCOUNTS:
            return self.tell_account(word, self.accounts[name]) if name in self.accounts else NoName
        if name not in self.forests:
            return NoName
        states = self.forests[name]
        return self.work(word, states, thing_of(rest)) if rest or word == "back" else self.tell_forest(word, *states[-1])

    def keep(self, word, name, text):
        try:
            if word == "forest":
                self.forests[name] = [(Kept(read_forest(text)), [])]
            else:
                self.accounts[name] = read_account(text)
        except ForestError as error:
            return type(error)
        return "ok"

    def work(self, word, states, thing):
        kept, deeds = states[-1]
        if word == "back":
            if len(states) == 1:
                return NothingDone
            states.pop()
            return "ok"
        forest, new = kept.forest(), kept.copy()
        if word == "do":
            if not is_deed(forest, thing):
                return NoDeed
            new.deed(thing)
            states.append((new, deeds + [thing]))
            return "ok"
        if not is_ask(len(forest.parents), thing):
            return NoAsk
        if word == "ask":
            new.ask(thing)
            states.append((new, deeds))
        return own_told(answer(forest, thing))

    def tell_forest(self, word, kept, deeds):
        papers, flat = kept.papers(), {}
        flat["source"], flat["view"] = forest_text(kept.forest()), drawn_forest(kept.forest())
        flat["rows"], flat["weights"] = drawn_shape(kept.shape()), drawn_weights(kept.shape())
        flat["deeds"] = deeds_text(deeds) or "none"
        flat["papers"], flat["last"] = str(len(papers)), " ".join(map(str, papers[-1])) if papers else "none"
        flat["spent"], flat["bound"], flat["links"] = str(kept.spent()), str(kept.bound()), str(kept.links())
        flat["potential"] = str(potential(kept.shape()))
        return flat[word].replace("\n", "|")

    def tell_account(self, word, account):
        if word == "events":
            return account_text(account).replace("\n", "|")
        if word == "wrong":
            wrong = first_wrong(account)
            return "none" if wrong is None else f"{wrong[0]} {wrong[1]}"
        papers = cost_of(account)
        return f"{len(papers)} {sum(sum(paper[:3]) for paper in papers)}"


class DeskCase(unittest.TestCase):
    def check(self, desk, own, line):
        """Compare what is told with the own desk; returns whether it was no error."""
        due = own.tell(line)
        if isinstance(due, str):
            self.assertEqual(frozen(desk.tell(line)), frozen(due), line)
        else:
            self.check_raises(due, desk, line)
        return isinstance(due, str)

    def check_raises(self, error, desk, line):
        held = frozen((desk, line))
        with self.assertRaises(error) as caught:
            desk.tell(line)
        self.assertIs(caught.exception.__class__, error, line)
        self.assertEqual(frozen((desk, line)), held)
        return caught.exception

    def check_all(self, desk, own):
        """Compare all that is told of all forests and accounts; nothing is changed by that."""
        held = frozen(desk)
        for name in own.forests:
            for word in OF_FORESTS:
                self.assertTrue(self.check(desk, own, f"{word} {name}"))
        for name in own.accounts:
            for word in OF_ACCOUNTS:
                self.assertTrue(self.check(desk, own, f"{word} {name}"))
        self.assertEqual(frozen(desk), held)

    def filled(self):
        """A Desk with a forest and an account of one name, and some deeds done, and its own one."""
        desk, own = Desk(), OwnDesk()
        for line in [f"forest a {A_LINE}", f"account a {A_LINE}{EVENTS_LINE}", "do a cut 1", "ask a root 3", "do a turn 3",
                     "forest b house - 1|"]:
            self.assertTrue(self.check(desk, own, line))
        return desk, own


class TestByHand(DeskCase):
    def test_a_forest(self):
        desk = Desk()
        for line, told in [
                (f"forest a {A_LINE}", "ok"), ("source a", A_LINE), ("view a", "0 5|  1 7|    2 2|    3 9|"),
                ("rows a", "[0]|[1] at 0|[2] at 1|[3] at 1|"), ("weights a", "0 4 2 *|1 3 1 *|2 1 0 *|3 1 0 *|"),
                ("deeds a", "none"), ("papers a", "0"), ("last a", "none"), ("spent a", "0"), ("bound a", "15"),
                ("links a", "0"), ("potential a", "3"), ("ask a depth 2", "2"), ("papers a", "1"), ("last a", "0 3 1 0"),
                ("spent a", "4"), ("bound a", "82"), ("rows a", "0 1 [2]|[3] at 1|"), ("walk a way 0 3", "3 21 5 9"),
                ("walk a joined 0 3", "yes"), ("papers a", "1"), ("do a cut 1", "ok"), ("walk a joined 0 3", "no"),
                ("walk a common 0 3", "-"), ("walk a way 0 3", "-"), ("ask a way 2 3", "3 18 2 9"), ("deeds a", "cut 1|"),
                ("do a link 1 0", "ok"), ("links a", "1"), ("do a put 2 -4", "ok"), ("do a add 2 3 10", "ok"),
                ("deeds a", "cut 1|link 1 0|put 2 -4|add 2 3 10|"), ("source a", "house - 5|house 0 17|house 1 6|house 1 19|"),
                ("ask a where 2 3 least", "2"), ("ask a reach 3 0 5", "0"), ("ask a reach 3 0 -1", "-"), ("ask a at 3 0 1", "1"),
                ("ask a below 1", "3 42"), ("ask a whole 1", "4 47"), ("walk a whole 1", "4 47"), ("ask a root 3", "0")]:
            self.assertEqual(desk.tell(line), told, line)

    def test_back(self):
        desk = Desk()
        desk.tell(f"forest a {A_LINE}")
        self.check_raises(NothingDone, desk, "back a")
        states = []
        lines = ["do a cut 1", "ask a root 3", "do a turn 3", "walk a root 1", "ask a way 1 2", "do a link 0 2", "do a put 0 9"]
        for line in lines:
            if "walk" not in line:
                states.append([desk.tell(f"{word} a") for word in OF_FORESTS])
            desk.tell(line)
        for state in states[::-1]:
            self.assertEqual(desk.tell("back a"), "ok")
            self.assertEqual([desk.tell(f"{word} a") for word in OF_FORESTS], state)
        for _ in range(3):
            self.check_raises(NothingDone, desk, "back a")
        self.assertEqual(desk.tell("do a cut 2"), "ok")
        self.assertEqual((desk.tell("deeds a"), desk.tell("back a"), desk.tell("deeds a")), ("cut 2|", "ok", "none"))

    def test_an_account(self):
        desk = Desk()
        for line, told in [
                (f"account a {A_LINE}{EVENTS_LINE}", "ok"), ("events a", A_LINE + EVENTS_LINE), ("wrong a", "2 answer"),
                (f"account b {A_LINE}did (turn,9)|", "ok"), ("wrong b", "0 deed"), ("cost b", "0 0"),
                (f"account c {A_LINE}", "ok"), ("wrong c", "none"), ("cost c", "0 0"), ("events c", A_LINE),
                (f"account d {A_LINE}told (depth,2) 2|", "ok"), ("cost d", "1 4"), ("wrong d", "none")]:
            self.assertEqual(desk.tell(line), told, line)
        papers = cost_of(read_account((A_LINE + EVENTS_LINE).replace("|", "\n")))
        self.assertEqual(desk.tell("cost a"), f"{len(papers)} {sum(sum(paper[:3]) for paper in papers)}")

    def test_names_of_their_own(self):
        desk = Desk()
        desk.tell("forest a house - 1|")
        for word in OF_ACCOUNTS:
            self.assertEqual(self.check_raises(NoName, desk, f"{word} a").name, "a")
        desk.tell(f"account a {A_LINE}")
        desk.tell("account b house - 2|")
        self.assertEqual((desk.tell("source a"), desk.tell("events a")), ("house - 1|", A_LINE))
        for word in OF_FORESTS + ["back"]:
            self.assertEqual(self.check_raises(NoName, desk, f"{word} b").name, "b")
        self.assertEqual(desk.tell("forest abcdefgh house - 3|"), "ok")
        self.assertEqual(desk.tell("source abcdefgh"), "house - 3|")

    def test_kept_anew(self):
        desk, _ = self.filled()
        self.assertEqual(desk.tell("forest a house - 1|house 0 2|"), "ok")
        self.assertEqual([desk.tell(f"{word} a") for word in ("source", "deeds", "papers", "links")],
                         ["house - 1|house 0 2|", "none", "0", "0"])
        self.check_raises(NothingDone, desk, "back a")
        self.assertEqual(desk.tell("events a"), A_LINE + EVENTS_LINE)
        self.assertEqual((desk.tell("account a house - 7|"), desk.tell("events a")), ("ok", "house - 7|"))
        self.assertEqual(desk.tell("source b"), "house - 1|")

    def test_desks_go_on_apart(self):
        desk, other = Desk(), Desk()
        desk.tell("forest a house - 1|")
        self.check_raises(NoName, other, "source a")
        self.assertFalse(desk == other)


class TestErrors(DeskCase):
    def test_no_line(self):
        desk, own = self.filled()
        for thing in strange_things() + [0, b"view a", ["view a"], ("view", "a"), None]:
            self.check_raises(NoLine, desk, thing)
        for line in [
                "", " ", "a", "view", "view ", " view a", "view a ", "view  a", "view a b", "view A", "view abcdefghi", "view a1",
                "view a\n", "\nview a", "view a|", "View a", "views a", "view -", "view 1", "view \xe9", "view aB", "view a a",
                "forest", "forest a", "forest a ", "forest  a house - 1|", "forest A house - 1|", "forest a house - 1|\n",
                "forest abcdefghi house - 1|", "forest a house - 1\n", "forest  ", "forest a1 x", "account", "account a",
                "account a ", "account  a x", "account a \n", "accounts a x", "do", "do a", "do a ", "do a cut", "do a cut ",
                "do a cut 1 1", "do a cut -1", "do a cut 01", "do a cut 1 ", "do a  cut 1", "do  a cut 1", " do a cut 1",
                "do a cut  1", "do a cut " + "1" * 21, "do a Cut 1", "do a (cut,1)", "do a root 1", "do a cut a", "do a cut yes",
                "do a cut -", "do a link 0", "do a link 0 1 2", "do a put 0 -0", "do a put 0 " + "1" * 21, "do a put 0 +1",
                "do a put 0 1\n", "do a add 0 1", "do a add 0 1 x", "do A cut 1", "do cut 1", "do a cut 1|", "ask", "ask a",
                "ask a ", "ask a root", "ask a root 1 1", "ask a root -1", "ask a root 01", "ask a Root 1", "ask a cut 1",
                "ask a at 0 1 -1", "ask a at 0 1", "ask a reach 0 1", "ask a reach 0 1 x", "ask a reach 0 1 -0",
                "ask a where 0 1", "ask a where 0 1 most", "ask a where 0 1 2", "ask a where 0 1 least ", "ask a (root,1)",
                "ask a root 1 ", "ask a  root 1", "ask  a root 1", "walk a", "walk a root", "walk a root x", "walk a cut 1",
                "walk a root 1\n", "back", "back a ", "back a 1", "back  a", "source a b", "events", "events a ", "events a x",
                "wrong a 1", "cost", "cost a  ", "papers a 0", "tell a", "keep a", "ask a root " + "9" * 21, "do a turn 1,2",
                "rows\ta", "ask a joined 0", "ask a way 0 1 2", "ask a below", "ask a whole 0 0", "ask a common 0"]:
            self.assertIs(OwnDesk().tell(line), NoLine, line)
            self.check_raises(NoLine, desk, line)
            self.check_raises(NoLine, Desk(), line)
        self.check_all(desk, own)

    def test_lines_before_names_before_all_else(self):
        desk, own = self.filled()
        self.check_raises(NoLine, desk, "do q cut")
        self.check_raises(NoLine, desk, "ask q root -1")
        for line in ["do q cut 1", "do q cut 99", "ask q root 1", "ask q root 99", "walk q root 99", "back q"]:
            self.assertEqual(self.check_raises(NoName, desk, line).name, "q")
        for word in OF_FORESTS + OF_ACCOUNTS:
            for name in ("q", "abcdefgh", "aa"):
                self.assertEqual(self.check_raises(NoName, desk, f"{word} {name}").name, name)
        self.check_all(desk, own)

    def test_what_the_functions_raise(self):
        desk, own = self.filled()
        for line in ["do a cut 3", "do a cut 4", "do a turn 99", "do a link 3 2", "do a link 0 4", "do a add 0 1 5",
                     "do a put 64 1", "do b cut 0", "do a put " + "9" * 20 + " 1"]:
            self.check_raises(NoDeed, desk, line)
        for word in ("ask", "walk"):
            for rest in ["root 4", "way 0 4", "at 4 0 0", "where 0 64 least", "reach 4 0 -5", "depth " + "9" * 20]:
                self.check_raises(NoAsk, desk, f"{word} a {rest}")
        for line, text in [(1, "x"), (1, "|"), (1, " house - 1|"), (2, "house - 1| "), (2, "house - 1|house - 2"),
                           (2, "house - 1||"), (1, "house - 1 |"), (1, " "), (2, "house - 1|did -|")]:
            self.assertEqual(self.check_raises(BadText, desk, f"forest a {text}").line, line)
        self.assertEqual(self.check_raises(BadForest, desk, "forest a house 0 1|").part, "parents")
        for line, text in [(1, "did -|"), (2, "house - 1|did  -|"), (3, "house - 1|did -|house 0 1|"), (2, "house - 1|did -")]:
            self.assertEqual(self.check_raises(BadText, desk, f"account a {text}").line, line)
        self.assertEqual(self.check_raises(BadForest, desk, "account a house 5 1|told 0 0|").part, "parents")
        self.assertEqual(self.check_raises(BadAccount, desk, "account a house - 1|did -|told (root,1) 0|").index, 1)
        self.check_all(desk, own)

    def test_walk_reaches_nothing(self):
        desk, own = self.filled()
        for line in ["walk a way 1 2", "walk a root 2", "walk a reach 1 2 0", "walk a depth 0"]:
            held = frozen(desk)
            self.assertTrue(self.check(desk, own, line))
            self.assertEqual(frozen(desk), held)


class TestRows(DeskCase):
    def test_lines_by_chance(self):
        chance = random.Random(151)
        good = 0
        for _ in range(6):
            desk, own = Desk(), OwnDesk()
            for _ in range(120):
                good += self.check(desk, own, self.some_line(chance, own))
                self.check_all(desk, own)
        self.assertGreater(good, 300)

    def some_line(self, chance, own):
        """A line by chance, perhaps spoiled."""
        name, other = chance.choice("ab"), chance.choice("abc")
        forest = own.forests[name][-1][0].forest() if name in own.forests else A
        deed = " ".join(map(str, some_deed(chance, forest)))
        ask = " ".join(map(str, some_ask(chance, forest)))
        line = chance.choice([f"do {name} {deed}"] * 6 + [f"ask {name} {ask}"] * 4 + [f"back {name}"] * 4 + [
            f"walk {name} {ask}", f"{chance.choice(OF_FORESTS + OF_ACCOUNTS)} {other}", f"forest {name} {A_LINE}",
            f"account {name} {A_LINE}{EVENTS_LINE}", "account b house - 0|did no|", "forest b house - -3|house 0 4|"])
        if chance.random() < 0.1:
            place = chance.randrange(len(line) + 1)
            line = line[:place] + chance.choice(["", " ", "0", "a", "-", "|"]) + line[place + chance.randrange(2):]
        return line

    def test_large_forests(self):
        chance = random.Random(157)
        for forest in large_forests()[:4]:
            desk, own = Desk(), OwnDesk()
            self.assertTrue(self.check(desk, own, "forest big " + forest_text(forest).replace("\n", "|")))
            for _ in range(15):
                standing = own.forests["big"][-1][0].forest()
                thing, word = chance.choice([(some_deed(chance, standing), "do"), (some_ask(chance, standing), "ask")])
                # Integers of 21 figures, which sums may have, are not read.
                line = f"{word} big {' '.join(map(str, thing))}"
                self.check(desk, own, line)
                self.check(desk, own, chance.choice(["back big", "walk big root 0", "links big"]))
            self.check_all(desk, own)


if __name__ == "__main__":
    unittest.main()
