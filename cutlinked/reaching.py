"""Reaching a house, step by step, and the papers of what it cost (DOC.md 3)."""

from cutlinked.errors import NoNumber
from cutlinked.kinds import is_integer, is_many, is_number
from cutlinked.shapes import hand_on, is_top, need_house, potential_of, rank, shape_of, stands_of, turn_up


def reached(shape, house):
    """The pair of the shape behind reaching a house, and the paper of it."""
    stands = stands_of(shape)
    need_house(stands, house)
    paper, _ = reach(stands, house)
    return shape_of(stands), paper


def is_paper(many, thing):
    """Whether a thing can be the paper of a reaching among so many houses."""
    if not is_many(many):
        raise NoNumber()
    if not isinstance(thing, tuple) or len(thing) != 4:
        return False
    first, met, last, change = thing
    if not all([is_number(first), is_number(met), is_number(last), is_integer(change)]):
        return False
    return met >= 1 and last == met // 2 and first + met + last + 5 * change <= most_for_reaching(many)


def most_for_reaching(many):
    """How much a paper's steps, rows and five times its change are at most."""
    return 30 * rank(many) + 7


def reach(stands, house):
    """Reach a house: the pair of the paper, and of the list of the met ones."""
    potential_ahead = potential_of(stands)
    first, met = _rise_through_rows(stands, house)
    _join_rows(stands, met)
    last = _rise(stands, house)
    return (first, len(met), last, potential_of(stands) - potential_ahead), met


def _rise_through_rows(stands, house):
    """Pass 1: make tops of the house and of those at which its rows hang; how many steps, and these."""
    steps = 0
    met = []
    at = house
    while at is not None:
        _hand_on_down_to(stands, at)
        steps += _rise(stands, at)
        met.append(at)
        at = stands[at].up
    return steps, met


def _hand_on_down_to(stands, house):
    """Hand on at all houses of a row from the top down to a house."""
    line = [house]
    while not is_top(stands, line[-1]):
        line.append(stands[line[-1]].up)
    for at in line[::-1]:
        hand_on(stands, at)


def _join_rows(stands, met):
    """Pass 2: each met one lets its right son hang, and has the one ahead in its place."""
    ahead = None
    for house in met:
        # Both ups stay: the right son hangs where it was a son, the one ahead is a son where it hung.
        stand = stands[house]
        stand.right = ahead
        ahead = house


def _rise(stands, house):
    """Do steps until a house is a top: how many."""
    steps = 0
    while not is_top(stands, house):
        _step(stands, house)
        steps += 1
    return steps


def _step(stands, house):
    """Do one step of a house that is a son, all above it in the row having handed on."""
    ahead = stands[house].up
    if is_top(stands, ahead):
        turn_up(stands, house)
    elif _is_left(stands, house) == _is_left(stands, ahead):
        turn_up(stands, ahead)
        turn_up(stands, house)
    else:
        turn_up(stands, house)
        turn_up(stands, house)


def _is_left(stands, house):
    """Whether a son is the left one."""
    return stands[stands[house].up].left == house
