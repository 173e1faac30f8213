"""Histories: ties come and go, and it is told who is joined when (DOC.md 5.2)."""

from cutlinked.errors import BadHistory, NoHouse, NoMoment, NoNumber
from cutlinked.kinds import fit, is_between, is_house, word_of

MOST_ENDS = 24
MOST_DEEDS = 60
MOST_TIES = 32

# What stands behind the word of each deed of a history.
FORMS = {
    "come": ("house", "house"),
    "go": ("number",),
    "ask": ("house", "house"),
}


class History:
    """So many houses, and deeds: ties that come and go, and asks who is joined."""

    def __init__(self, many, deeds):
        if not is_between(1, MOST_ENDS, many):
            raise NoNumber()
        if not isinstance(deeds, tuple) or len(deeds) > MOST_DEEDS:
            raise BadHistory(-1)
        came = 0
        there = []
        for index, deed in enumerate(deeds):
            if not _can_be_next(many, came, there, deed):
                raise BadHistory(index)
            if deed[0] == "come":
                there.append(came)
                came += 1
            elif deed[0] == "go":
                there.remove(deed[1])
        self.many = many
        self.deeds = deeds

    def __eq__(self, other):
        return isinstance(other, History) and self.many == other.many and self.deeds == other.deeds


def _can_be_next(many, came, there, thing):
    """Whether a thing is a deed that can be where so many ties came, and these are there."""
    word = word_of(thing)
    if word not in FORMS or not fit(many, thing[1:], FORMS[word]):
        return False
    if word == "come":
        return thing[1] != thing[2] and came < MOST_TIES
    return word == "ask" or thing[1] in there


def lives(history):
    """For each tie the pair of the indexes of its come and its go, None if it never goes."""
    found = []
    for index, deed in enumerate(history.deeds):
        if deed[0] == "come":
            found.append((index, None))
        elif deed[0] == "go":
            came, _ = found[deed[1]]
            found[deed[1]] = (came, index)
    return tuple(found)


def answers_of(history):
    """For each ask whether ties that are there then lead from one house to the other."""
    found = []
    for index, deed in enumerate(history.deeds):
        if deed[0] == "ask":
            labels = _labels_at(history, index)
            found.append(labels[deed[1]] == labels[deed[2]])
    return found


def parts_of(history):
    """Behind each deed how many lots of joined houses there are."""
    return [len(set(_labels_at(history, index + 1))) for index in range(len(history.deeds))]


def kept_then(history, at):
    """Behind the first at deeds the lot of the ties there whose ends none that stay longer join."""
    _need_moment(history, at)
    found = []
    labels = list(range(history.many))
    for tie, one, other in _longest_first(history, at):
        if labels[one] != labels[other]:
            found.append(tie)
            labels = _with_tie(labels, one, other)
    return tuple(sorted(found))


def joined_till(history, at, one, other):
    """The index of the deed behind which two houses would be joined no more, if no tie came."""
    _need_moment(history, at)
    if not is_house(history.many, one) or not is_house(history.many, other):
        raise NoHouse()
    if one == other:
        return None
    labels = list(range(history.many))
    for tie, first, second in _longest_first(history, at):
        labels = _with_tie(labels, first, second)
        # The first tie that joins them goes first of those on the way that stays longest.
        if labels[one] == labels[other]:
            return lives(history)[tie][1]
    return -1


def _need_moment(history, thing):
    """Raise NoMoment for what is not how many of the first deeds are done."""
    if not is_between(0, len(history.deeds), thing):
        raise NoMoment()


def _there(history, at):
    """The triples (tie, one, other) of the ties that are there behind the first at deeds."""
    found = []
    for tie, (come, go) in enumerate(lives(history)):
        if come < at and (go is None or go >= at):
            found.append((tie, history.deeds[come][1], history.deeds[come][2]))
    return found


def _longest_first(history, at):
    """The triples of the ties that are there, the one that stays longest first."""
    spans = lives(history)
    never = [triple for triple in _there(history, at) if spans[triple[0]][1] is None]
    goers = [(spans[triple[0]][1], triple) for triple in _there(history, at) if spans[triple[0]][1] is not None]
    return never + [triple for _, triple in sorted(goers, reverse=True)]


def _labels_at(history, at):
    """For each house a label, alike for those that are joined behind the first at deeds."""
    labels = list(range(history.many))
    for _, one, other in _there(history, at):
        labels = _with_tie(labels, one, other)
    return labels


def _with_tie(labels, one, other):
    """The labels when a tie joins two houses."""
    return [labels[one] if label == labels[other] else label for label in labels]
