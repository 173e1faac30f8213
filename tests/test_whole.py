"""The whole program: the examples of the document, its interface, and one row of deeds and asks in all ways."""

import importlib
import inspect
import random
import unittest

from cutlinked.accounts import Account, cost_of, first_wrong, standing_at
from cutlinked.asks import answer
from cutlinked.deeds import behind, is_deed, led
from cutlinked.desks import Desk
from cutlinked.disks import Disk
from cutlinked.films import Reel
from cutlinked.forests import Forest, below, common, way
from cutlinked.kepts import Kept
from cutlinked.reaching import is_paper, reached
from cutlinked.savings import SavedKept
from cutlinked.shapes import potential, rank, resting, rows, told_forest, weights
from cutlinked.texts import (
    account_text, deeds_text, forest_text, read_account, read_deeds, read_forest, read_thing, written,
)
from tests.helper import frozen, package_errors, plain_things, some_ask, some_deed, some_parents

A = Forest((None, 0, 1, 1), (5, 7, 2, 9))

# For each file each function and class with its arguments, and for each class its methods with theirs.
INTERFACE = {
    "forests": {
        "Forest": "parents worths", "many": "forest", "root": "forest house", "depth": "forest house",
        "below": "forest house", "way": "forest one other", "common": "forest one other"},
    "deeds": {"is_deed": "forest thing", "behind": "forest deed", "led": "forest deeds"},
    "asks": {"is_ask": "many thing", "answer": "forest ask"},
    "shapes": {
        "is_shape": "thing", "rows": "shape", "weights": "shape", "told_forest": "shape", "resting": "forest",
        "handed_on": "shape house", "turned_up": "shape house", "rank": "number", "potential": "shape"},
    "reaching": {"reached": "shape house", "is_paper": "many thing"},
    "kepts": {"Kept": "forest", "kept_of": "shape"},
    "accounts": {
        "Account": "begun events", "first_wrong": "account", "standing_at": "account at", "cost_of": "account"},
    "roads": {"Roads": "many most"},
    "histories": {
        "History": "many deeds", "lives": "history", "kept_then": "history at", "answers_of": "history",
        "parts_of": "history", "joined_till": "history at one other"},
    "parcels": {
        "row_of": "parcel", "sealed": "parcel", "parcel_of": "row", "is_parcel": "thing", "mark": "row",
        "unsealed": "row"},
    "disks": {"Disk": "", "kept_parcels": "blocks"},
    "savings": {"SavedKept": "forest disk"},
    "texts": {
        "written": "thing", "forest_text": "forest", "deeds_text": "deeds", "account_text": "account",
        "read_thing": "text", "read_forest": "text", "read_deeds": "text", "read_account": "text"},
    "films": {"Reel": "forest deeds every"},
    "pictures": {"drawn_forest": "forest", "drawn_shape": "shape", "drawn_weights": "shape"},
    "desks": {"Desk": ""},
}

OF_KEPT = {"deed": "thing", "ask": "thing", "shape": "", "forest": "", "papers": "", "links": "", "spent": "", "bound": "",
           "copy": ""}
METHODS = {
    "Kept": OF_KEPT,
    "SavedKept": dict(OF_KEPT, keep="", moved="disk"),
    "Roads": {"come": "one other weight", "heaviest": "one other", "ties": "", "kept": "", "whole": "", "spent": "",
              "bound": "", "joined": "one other", "copy": ""},
    "Disk": {"write": "row", "sync": "", "synced": "", "blocks": "", "cut": "kept", "drop": "number", "copy": ""},
    "Reel": {"stands": "", "spent_now": "", "worked": "", "forest_now": "", "shape_now": "", "kept": "", "seek": "at",
             "copy": ""},
    "Desk": {"tell": "line"},
}


def taken(function):
    """The names of what a function takes, but its own object."""
    return [name for name in inspect.signature(function).parameters if name != "self"]


class TestInterface(unittest.TestCase):
    def test_functions_and_classes(self):
        for file, due in INTERFACE.items():
            module = importlib.import_module(f"cutlinked.{file}")
            for name, names in due.items():
                thing = getattr(module, name)
                self.assertEqual(thing.__module__, module.__name__)
                self.assertEqual(len(taken(thing)), len(names.split()), name)
                self.assertEqual(inspect.isclass(thing), name[0].isupper())

    def test_methods(self):
        for file, due in INTERFACE.items():
            for name in due:
                if name in METHODS:
                    own = vars(getattr(importlib.import_module(f"cutlinked.{file}"), name))
                    for method, names in METHODS[name].items():
                        self.assertEqual(len(taken(own[method])), len(names.split()), (name, method))

    def test_no_class_is_equal_to_another(self):
        things = [A, Kept(A), Account(A, ()), Disk(), SavedKept(A, Disk()), Reel(A, (), 1), Desk()] + package_errors()
        for at, one in enumerate(things):
            for other in things[at + 1:] + plain_things():
                if type(one) is not type(other):
                    self.assertFalse(one == other)
                    self.assertTrue(one != other)


class TestExamples(unittest.TestCase):
    def test_e01(self):
        self.assertEqual(way(A, 2, 3), (2, 1, 3))
        self.assertEqual(common(A, 2, 3), 1)
        self.assertEqual(below(A, 1), (1, 2, 3))
        self.assertEqual(answer(A, ("way", 0, 3)), (3, 21, 5, 9))

    def test_e02(self):
        self.assertEqual(behind(A, ("turn", 2)).parents, (1, 2, None, 1))
        self.assertEqual(behind(A, ("add", 2, 3, 10)).worths, (5, 17, 12, 19))

    def test_e03(self):
        shape = resting(A)
        self.assertEqual(weights(shape), (4, 3, 1, 1))
        self.assertEqual(potential(shape), 3)
        self.assertEqual(rows(shape), ((0,), (1,), (2,), (3,)))

    def test_e04(self):
        self.assertEqual(reached(resting(A), 2), (
            ((1, None, None, False, 0, 5), (2, 0, None, False, 0, 7), (None, 1, None, False, 0, 2),
             (1, None, None, False, 0, 9)), (0, 3, 1, 0)))

    def test_e05(self):
        self.assertIs(is_paper(4, (0, 3, 1, 0)), True)
        self.assertIs(is_paper(1, (0, 1, 0, 2)), False)
        self.assertEqual(rank(64), 6)

    def test_e06(self):
        kept = Kept(A)
        self.assertEqual(kept.ask(("depth", 2)), 2)
        self.assertEqual(kept.papers(), [(0, 3, 1, 0)])
        self.assertEqual((kept.spent(), kept.bound()), (4, 82))


class TestAllWays(unittest.TestCase):
    """One row of deeds and asks: by the walker, a Kept, a SavedKept, a Reel, an Account, texts, a Desk."""

    def follow(self, chance, forest, many):
        standing, kept, disk, desk = forest, Kept(forest), Disk(), Desk()
        saved, deeds, events = SavedKept(forest, disk), [], []
        flat = forest_text(forest).replace("\n", "|")
        self.assertEqual(desk.tell(f"forest a {flat}"), "ok")
        for _ in range(many):
            deed, ask = some_deed(chance, standing), some_ask(chance, standing)
            if chance.random() < 0.5:
                told = answer(standing, ask)
                self.assertEqual(frozen(kept.ask(ask)), frozen(told))
                self.assertEqual(frozen(saved.ask(ask)), frozen(told))
                due = " ".join(map(written, told)) if isinstance(told, tuple) else written(told)
                self.assertEqual(desk.tell("ask a " + " ".join(map(str, ask))), due)
                self.assertEqual(frozen(read_thing(written(told))), frozen(told))
                events.append(("told", ask, told))
            elif is_deed(standing, deed):
                standing = behind(standing, deed)
                kept.deed(deed)
                saved.deed(deed)
                self.assertEqual(desk.tell("do a " + " ".join(map(str, deed))), "ok")
                deeds.append(deed)
                events.append(("did", deed))
            self.assertEqual(frozen((kept.forest(), saved.forest())), frozen((standing, standing)))
            if chance.random() < 0.1:
                saved = SavedKept(forest, disk)
            if chance.random() < 0.1:
                saved.keep()
            self.assertLessEqual(saved.spent(), saved.bound())
        self.assertLessEqual(kept.spent(), kept.bound())
        self.check_led(forest, standing, deeds)
        self.check_account(Account(forest, tuple(events)), standing, kept)
        self.check_desk(desk, standing, kept, deeds)
        self.check_saved(SavedKept(forest, disk), saved, standing)

    def check_led(self, forest, standing, deeds):
        self.assertEqual(frozen(led(forest, deeds)), frozen(standing))
        self.assertEqual(frozen(read_deeds(deeds_text(deeds))), frozen(tuple(deeds)))
        reel = Reel(forest, read_deeds(deeds_text(deeds)), 7)
        alone = Kept(forest)
        for deed in deeds:
            alone.deed(deed)
        for at in (len(deeds), 0, len(deeds) // 2, len(deeds)):
            reel.seek(at)
            self.assertEqual(frozen(reel.forest_now()), frozen(led(forest, deeds[:at])))
        self.assertEqual((reel.shape_now(), reel.spent_now()), (alone.shape(), alone.spent()))

    def check_account(self, account, standing, kept):
        read = read_account(account_text(account))
        self.assertEqual(frozen(read), frozen(account))
        for one in (account, read):
            self.assertIsNone(first_wrong(one))
            self.assertEqual(frozen(standing_at(one, len(one.events))), frozen(standing))
            self.assertEqual(cost_of(one), kept.papers())

    def check_desk(self, desk, standing, kept, deeds):
        self.assertEqual(desk.tell("source a").replace("|", "\n"), forest_text(standing))
        self.assertEqual(frozen(read_forest(forest_text(standing))), frozen(standing))
        self.assertEqual(desk.tell("papers a"), str(len(kept.papers())))
        self.assertEqual(desk.tell("spent a"), str(kept.spent()))
        self.assertEqual(desk.tell("bound a"), str(kept.bound()))
        self.assertEqual(desk.tell("deeds a"), deeds_text(deeds).replace("\n", "|") or "none")

    def check_saved(self, again, saved, standing):
        self.assertEqual(frozen(again.forest()), frozen(standing))
        self.assertEqual(frozen(told_forest(again.shape())), frozen(standing))
        moved = again.moved(Disk())
        self.assertEqual((moved.shape(), frozen(moved.forest())), (again.shape(), frozen(saved.forest())))

    def test_rows(self):
        chance = random.Random(163)
        for many in (1, 2, 3, 5, 8, 13, 30, 64):
            parents = some_parents(chance, many, 0.3)
            self.follow(chance, Forest(parents, tuple(chance.randrange(-9, 10) for _ in parents)), 40)


if __name__ == "__main__":
    unittest.main()
