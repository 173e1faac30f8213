"""What several tests need: strange things, forests to try, and an oracle that walks by ties."""

import itertools
import random

from cutlinked import errors
from cutlinked.accounts import Account
from cutlinked.desks import Desk
from cutlinked.disks import Disk
from cutlinked.films import Reel
from cutlinked.forests import Forest
from cutlinked.histories import History
from cutlinked.kepts import Kept
from cutlinked.roads import Roads
from cutlinked.savings import SavedKept

FIELDS = {
    "BadForest": "part", "NoHouse": None, "NoDeed": None, "BadDeeds": "index", "NoNumber": None,
    "NoAsk": None, "NoShape": None, "NoTurn": None, "BadAccount": "index", "NoMoment": None,
    "NoWeight": None, "Full": None, "BadHistory": "index", "NoParcel": None, "NoRow": None,
    "BadRow": "place", "NoCut": None, "NoBlocks": None, "NoDisk": None, "OtherForest": None,
    "NoThing": None, "BadThing": "place", "BadText": "line", "NothingDone": None, "NoLine": None,
    "NoName": "name",
}


def nested(make, depth):
    """A thing that is nested so deep, each level made by make of the one within."""
    thing = make(None)
    for _ in range(depth - 1):
        thing = make(thing)
    return thing


def package_errors():
    """One error of each class of the package."""
    made = [errors.ForestError()]
    for name, field in FIELDS.items():
        error_class = getattr(errors, name)
        made.append(error_class() if field is None else error_class(["kept", {1: (2,)}]))
    return made


def plain_things():
    """Things of the kinds that the document names, none a house, a parent or an integer."""
    return [
        None, True, False, "", "0", "link", "parents", "way", "x" * 20000, b"", b"link", b"\x00",
        (), (0,), (None,), ((),), ("link",), [], [0], [None], [[]], ["link", 0, 1], {}, {0: 0},
        {"link": (0, 1)}, {None: []},
        Forest((None,), (0,)), Forest((None, 0), (1, 2)), Kept(Forest((None,), (0,))), Roads(2, 1),
        Account(Forest((None,), (0,)), ()), History(2, (("come", 0, 1),)), Disk(),
        SavedKept(Forest((None,), (0,)), Disk()), Reel(Forest((None,), (0,)), (("turn", 0),), 1), Desk(),
        nested(lambda inner: (inner,), 40), nested(lambda inner: [inner], 40),
        nested(lambda inner: {0: inner}, 40), nested(lambda inner: ("link", inner, 0), 40),
        tuple([None] * 20000), [0] * 20000, {k: k for k in range(10000)},
        ("link",) + tuple([0] * 19999), ((0, 0),) * 6000,
    ] + package_errors()


def built_in_things():
    """Things of further built-in kinds."""
    return [
        bytearray(b"link"), memoryview(b"link"), range(3), slice(0, 2), Ellipsis, NotImplemented,
        object(), int, tuple, Forest, errors.NoHouse, len, "".join, lambda: 0, nested,
        {1: 2}.keys(), {1: 2}.values(), {1: 2}.items(), iter([1]), iter("a"), zip([1], [2]),
        enumerate([1]), map(str, [1]), reversed([1]), (k for k in [1]), ValueError("x"),
        staticmethod(len), property(len), errors,
    ]


def strange_things():
    """What may be handed in where a thing is judged, none of it a house, a parent or an integer."""
    return plain_things() + built_in_things()


def no_houses(many):
    """What is no house where there are so many."""
    return strange_things() + [-1, -2, -many, many, many + 1, 2 ** 64, -2 ** 64, 10 ** 19, -10 ** 19]


def no_integers():
    """What is no integer."""
    return strange_things() + ["0", "1", b"1", (1,), [1], {1: 1}]


def no_manys():
    """What is not how many houses a forest may have."""
    return strange_things() + [0, -1, -64, 65, 66, 128, 2 ** 64, 10 ** 19, -10 ** 19]


def leads_to_roots(parents):
    """Whether going to parents one comes to a root, from each house, step by step."""
    for house in range(len(parents)):
        steps = 0
        while house is not None:
            house = parents[house]
            steps += 1
            if steps > len(parents):
                return False
    return True


def all_parents(many):
    """All tuples of parents for so many houses."""
    choices = [None] + list(range(many))
    return [row for row in itertools.product(choices, repeat=many) if leads_to_roots(row)]


def all_forests(many):
    """A forest for each tuple of parents, the values unlike."""
    worths = tuple((-1) ** k * (k * k + 3) for k in range(many))
    return [Forest(row, worths) for row in all_parents(many)]


def some_parents(chance, many, roots):
    """Parents by chance: a house has a root with these odds, and else a parent of lesser place."""
    order = list(range(many))
    chance.shuffle(order)
    parents = [None] * many
    for place in range(1, many):
        if chance.random() >= roots:
            parents[order[place]] = order[chance.randrange(place)]
    return tuple(parents)


def large_forests():
    """Forests of many houses: lines, brooms, roots alone, and some by chance, always the same."""
    chance = random.Random(7)
    rows = [
        (None,) + tuple(range(63)), tuple(range(1, 64)) + (None,), (None,) * 64, (None,) + (0,) * 63,
        (None,) + tuple(range(31)) + (31,) * 32, (None, None) + tuple(range(62)),
        (None,) + tuple((k - 1) // 2 for k in range(1, 64)),
    ]
    for many in (2, 7, 20, 63, 64):
        for roots in (0, 0.1, 0.5):
            rows.append(some_parents(chance, many, roots))
    return [Forest(row, tuple(chance.randrange(-10 ** 20 + 1, 10 ** 20) for _ in row)) for row in rows]


def some_deed(chance, forest):
    """A deed by chance, by its form; perhaps it can't be done."""
    houses = range(len(forest.parents))
    one, other, number = chance.choice(houses), chance.choice(houses), chance.randrange(-9, 10)
    return chance.choice([("link", one, other), ("link", root_of(forest, one), other), ("cut", one), ("turn", one),
                          ("put", one, number), ("add", one, other, number)])


def some_ask(chance, forest):
    """An ask by chance."""
    houses = range(len(forest.parents))
    one, other = chance.choice(houses), chance.choice(houses)
    return chance.choice([
        ("root", one), ("depth", one), ("below", one), ("whole", one), ("joined", one, other), ("common", one, other),
        ("way", one, other), ("where", one, other, "least"), ("where", one, other, "greatest"),
        ("at", one, other, chance.randrange(1 + len(houses) // 2)),
        ("reach", one, other, chance.choice(forest.worths) - chance.randrange(2)),
    ])


def root_of(forest, house):
    """The house without parent that one comes to from a house."""
    while forest.parents[house] is not None:
        house = forest.parents[house]
    return house


def ties_of(forest):
    """For each house the houses that it is tied to."""
    tied = {house: [] for house in range(len(forest.parents))}
    for house, parent in enumerate(forest.parents):
        if parent is not None:
            tied[house].append(parent)
            tied[parent].append(house)
    return tied


def walked(forest, start):
    """For each house that ties lead to from start, the way there: found by spreading out."""
    tied = ties_of(forest)
    found = {start: (start,)}
    front = [start]
    while front:
        house = front.pop(0)
        for near in tied[house]:
            if near not in found:
                found[near] = found[house] + (near,)
                front.append(near)
    return found


def root_among(forest, houses):
    """The one house among these that has no parent."""
    (found,) = [house for house in houses if forest.parents[house] is None]
    return found


def frozen(thing):
    """What a thing holds, for telling whether it was changed."""
    if type(thing).__module__.startswith("cutlinked."):
        return (type(thing).__name__, frozen(vars(thing)), frozen(getattr(thing, "args", ())))
    if isinstance(thing, (list, tuple)):
        return (thing.__class__.__name__, [frozen(part) for part in thing])
    if isinstance(thing, dict):
        return ("dict", [(frozen(key), frozen(worth)) for key, worth in thing.items()])
    return (thing.__class__.__name__, thing)
