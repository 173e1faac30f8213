"""Accounts of strangers: what was done and told, judged by the walker (DOC.md 4.4)."""

from cutlinked.asks import answer, is_ask
from cutlinked.deeds import behind, is_deed
from cutlinked.errors import BadAccount, NoMoment
from cutlinked.kepts import Kept
from cutlinked.kinds import is_between, is_integer, word_of

MOST_EVENTS = 2000


class Account:
    """A forest, and the events that a stranger tells of it: deeds, and answers to asks."""

    def __init__(self, begun, events):
        if not isinstance(events, tuple) or len(events) > MOST_EVENTS:
            raise BadAccount(-1)
        for index, event in enumerate(events):
            if not _is_event(len(begun.parents), event):
                raise BadAccount(index)
        self.begun = begun
        self.events = _copied(events)

    def __eq__(self, other):
        return isinstance(other, Account) and self.begun == other.begun and self.events == other.events


def _is_event(many, thing):
    """Whether a thing is an event by its form."""
    word = word_of(thing)
    if word == "did":
        return len(thing) == 2
    return word == "told" and len(thing) == 3 and is_ask(many, thing[1])


def _copied(thing):
    """The thing, its lists and dicts copied: what is done to them later is no matter of the account."""
    if isinstance(thing, tuple):
        return tuple([_copied(part) for part in thing])
    if isinstance(thing, list):
        return [_copied(part) for part in thing]
    if isinstance(thing, dict):
        return {key: _copied(part) for key, part in thing.items()}
    return thing


def first_wrong(account):
    """The index of the first event that is wrong and the word for it, None if all are right."""
    standing = account.begun
    for index, event in enumerate(account.events):
        if event[0] == "told":
            if not _alike(answer(standing, event[1]), event[2]):
                return index, "answer"
        elif is_deed(standing, event[1]):
            standing = behind(standing, event[1])
        else:
            return index, "deed"
    return None


def _alike(due, thing):
    """Whether a thing is the answer that is due, also in kind."""
    if isinstance(due, tuple):
        if not isinstance(thing, tuple) or len(thing) != len(due):
            return False
        return all([_alike(due_part, part) for due_part, part in zip(due, thing)])
    if due is None:
        return thing is None
    if isinstance(due, bool):
        return isinstance(thing, bool) and thing == due
    return is_integer(thing) and thing == due


def standing_at(account, at):
    """The forest behind the deeds among the first at events."""
    standings = _standings(account)
    if not is_between(0, len(standings) - 1, at):
        raise NoMoment()
    return standings[at]


def _standings(account):
    """The list of the forests behind none, one, two .. of the events, as far as the deeds can be done."""
    found = [account.begun]
    for event in account.events:
        standing = found[-1]
        if event[0] == "did":
            if not is_deed(standing, event[1]):
                break
            standing = behind(standing, event[1])
        found.append(standing)
    return found


def cost_of(account):
    """The papers of a Kept that does and asks what the account tells, as far as the deeds can be done."""
    kept = Kept(account.begun)
    for event in account.events[:len(_standings(account)) - 1]:
        if event[0] == "did":
            kept.deed(event[1])
        else:
            kept.ask(event[1])
    return kept.papers()
