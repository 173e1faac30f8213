"""Pictures of forests, shapes and weights, as texts of rows (DOC.md 7.4)."""

from cutlinked.shapes import is_top, rank, row_in_order, stands_of, weights
from cutlinked.texts import closed


def drawn_forest(forest):
    """The picture of a forest: a row for each house, those below it behind it."""
    return closed(_drawn_below(forest, None, ""))


def _drawn_below(forest, parent, blanks):
    """The list of the rows of the houses with this parent, each with all below it."""
    rows = []
    for house, ahead in enumerate(forest.parents):
        if ahead == parent:
            rows.append(f"{blanks}{house} {forest.worths[house]}")
            rows.extend(_drawn_below(forest, house, blanks + "  "))
    return rows


def drawn_shape(shape):
    """The picture of a shape: its rows by tops, the houses of each in order."""
    stands = stands_of(shape)
    return closed([_drawn_row(stands, house) for house in range(len(stands)) if is_top(stands, house)])


def _drawn_row(stands, top):
    """The picture of a row."""
    words = [f"[{house}]" if house == top else str(house) for house in row_in_order(stands, top)]
    if stands[top].up is not None:
        words.append(f"at {stands[top].up}")
    return " ".join(words)


def drawn_weights(shape):
    """The picture of the weights of a shape: a row for each house."""
    stands = stands_of(shape)
    rows = []
    for house, weight in enumerate(weights(shape)):
        ending = " *" if is_top(stands, house) else ""
        rows.append(f"{house} {weight} {rank(weight)}{ending}")
    return closed(rows)
