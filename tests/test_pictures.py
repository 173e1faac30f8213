"""Pictures [7.4], and the general rules [0.2] to [0.4] for them."""

import random
import unittest

from cutlinked.errors import ForestError, NoShape
from cutlinked.forests import Forest
from cutlinked.kepts import Kept
from cutlinked.pictures import drawn_forest, drawn_shape, drawn_weights
from cutlinked.shapes import resting, turned_up
from tests.helper import all_forests, frozen, large_forests, strange_things, walked
from tests.shaping import UP, drawn_shape as some_shape, opened, own_rank, own_rows, own_weights, some_shapes, tops

A = Forest((None, 0, 1, 1), (5, 7, 2, 9))


def own_view(forest):
    """The picture of a forest: all houses, ordered by the ways from their roots."""
    ways = {}
    for root, parent in enumerate(forest.parents):
        if parent is None:
            ways.update(walked(forest, root))
    ordered = sorted(ways.values())
    return "".join(f"{'  ' * (len(line) - 1)}{line[-1]} {forest.worths[line[-1]]}\n" for line in ordered)


def own_rows_drawn(shape):
    """The picture of the rows of a shape."""
    parts, text = opened(shape), ""
    for top, row in zip(tops(parts), own_rows(parts)):
        text += " ".join(f"[{house}]" if house == top else f"{house}" for house in row)
        text += "\n" if shape[top][UP] is None else f" at {shape[top][UP]}\n"
    return text


def own_weights_drawn(shape):
    """The picture of the weights of a shape."""
    parts, text = opened(shape), ""
    for house, weight in enumerate(own_weights(parts)):
        text += f"{house} {weight} {own_rank(weight)}{' *' if house in tops(parts) else ''}\n"
    return text


class TestPictures(unittest.TestCase):
    def check(self, shape):
        held = frozen(shape)
        self.assertEqual(frozen(drawn_shape(shape)), frozen(own_rows_drawn(shape)))
        self.assertEqual(frozen(drawn_weights(shape)), frozen(own_weights_drawn(shape)))
        self.assertEqual(frozen(shape), held)

    def test_forests_by_hand(self):
        self.assertEqual(drawn_forest(A), "0 5\n  1 7\n    2 2\n    3 9\n")
        self.assertEqual(drawn_forest(Forest((None,), (-3,))), "0 -3\n")
        self.assertEqual(drawn_forest(Forest((2, None, None, 0, 2, 1), (0, 1, 2, 3, 4, -5))),
                         "1 1\n  5 -5\n2 2\n  0 0\n    3 3\n  4 4\n")
        self.assertEqual(drawn_forest(Forest((1, None), (10 ** 30, 7))), "1 7\n  0 1" + "0" * 30 + "\n")

    def test_forests(self):
        for forest in all_forests(4) + large_forests():
            held = frozen(forest)
            self.assertEqual(frozen(drawn_forest(forest)), frozen(own_view(forest)))
            self.assertEqual(frozen(forest), held)

    def test_shapes_by_hand(self):
        self.assertEqual(drawn_shape(resting(A)), "[0]\n[1] at 0\n[2] at 1\n[3] at 1\n")
        self.assertEqual(drawn_weights(resting(A)), "0 4 2 *\n1 3 1 *\n2 1 0 *\n3 1 0 *\n")
        kept = Kept(A)
        kept.ask(("depth", 2))
        self.assertEqual(drawn_shape(kept.shape()), "0 1 [2]\n[3] at 1\n")
        self.assertEqual(drawn_weights(kept.shape()), "0 1 0\n1 3 1\n2 4 2 *\n3 1 0 *\n")
        kept.deed(("turn", 2))
        self.assertEqual(drawn_shape(kept.shape()), "[2] 1 0\n[3] at 1\n")
        # 2 is the top of three, turned; its left part is turned within it again.
        shape = ((2, None, None, False, 0, 5), (2, None, 3, True, 0, 6), (None, 1, 0, True, 0, 7), (1, None, None, False, 0, 8))
        self.assertEqual(drawn_shape(shape), "0 [2] 1 3\n")

    def test_shapes(self):
        for shape in some_shapes():
            self.check(shape)
        chance = random.Random(149)
        for many in (1, 2, 3, 6, 20, 64):
            for hanging in (0, 0.1, 0.5, 1):
                shape = some_shape(chance, many, 0.1, hanging)
                self.check(shape)
                house = chance.randrange(many)
                if house not in tops(opened(shape)):
                    self.check(turned_up(shape, house))

    def test_no_shapes(self):
        shape = resting(A)
        for draw in (drawn_shape, drawn_weights):
            for thing in strange_things() + [0, list(shape), shape[1:], shape + (None,), (list(shape[0]),) + shape[1:], A,
                                             (shape[0][:3] + (0,) + shape[0][4:],) + shape[1:]]:
                held = frozen(thing)
                with self.assertRaises(NoShape) as caught:
                    draw(thing)
                self.assertIs(caught.exception.__class__, NoShape)
                self.assertIsInstance(caught.exception, ForestError)
                self.assertEqual(frozen(thing), held)


if __name__ == "__main__":
    unittest.main()
