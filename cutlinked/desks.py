"""The desk: forests and accounts under names, worked at by lines (DOC.md 7.5)."""

from cutlinked.accounts import cost_of, first_wrong
from cutlinked.asks import answer
from cutlinked.errors import NoLine, NoName, NothingDone
from cutlinked.kepts import Kept
from cutlinked.pictures import drawn_forest, drawn_shape, drawn_weights
from cutlinked.shapes import potential
from cutlinked.texts import (
    account_text, ask_in, deed_in, deeds_text, forest_text, is_word, read_account, read_forest, written,
)

MOST_LETTERS = 8


class Work:
    """A forest on the desk: the Kept that it is now, and for each step that ahead of it and its deed."""

    def __init__(self, forest):
        self.now = Kept(forest)
        self.steps = []

    def do(self, deed):
        """Do a deed."""
        ahead = self.now.copy()
        self.now.deed(deed)
        self.steps.append((ahead, deed))

    def ask(self, ask):
        """The answer to an ask."""
        ahead = self.now.copy()
        told = self.now.ask(ask)
        self.steps.append((ahead, None))
        return told

    def back(self):
        """Take the last step back."""
        if len(self.steps) == 0:
            raise NothingDone()
        self.now, _ = self.steps.pop()


def _source(work):
    """The text of the forest, on one line."""
    return _on_one_line(forest_text(work.now.forest()))


def _view(work):
    """The picture of the forest, on one line."""
    return _on_one_line(drawn_forest(work.now.forest()))


def _rows(work):
    """The picture of the shape, on one line."""
    return _on_one_line(drawn_shape(work.now.shape()))


def _weights(work):
    """The picture of the weights, on one line."""
    return _on_one_line(drawn_weights(work.now.shape()))


def _deeds(work):
    """The text of the deeds that were done and not taken back, on one line."""
    deeds = [deed for _, deed in work.steps if deed is not None]
    return _on_one_line(deeds_text(deeds)) if len(deeds) > 0 else "none"


def _papers(work):
    """How many papers there are."""
    return str(len(work.now.papers()))


def _last(work):
    """The last paper."""
    papers = work.now.papers()
    return _told(papers[-1]) if len(papers) > 0 else "none"


def _spent(work):
    """What was spent."""
    return str(work.now.spent())


def _bound(work):
    """How much may be spent."""
    return str(work.now.bound())


def _links(work):
    """How many links were done."""
    return str(work.now.links())


def _potential(work):
    """The potential of the shape."""
    return str(potential(work.now.shape()))


def _events(account):
    """The text of an account, on one line."""
    return _on_one_line(account_text(account))


def _wrong(account):
    """The first event that is wrong."""
    found = first_wrong(account)
    return _told(found) if found is not None else "none"


def _cost(account):
    """How many reachings an account costs, and what these cost."""
    papers = cost_of(account)
    return _told((len(papers), sum([first + met + last for first, met, last, _ in papers])))


# What is told of a forest, and of an account, by words behind which a name stands alone.
OF_FORESTS = {
    "source": _source, "view": _view, "rows": _rows, "weights": _weights, "deeds": _deeds, "papers": _papers,
    "last": _last, "spent": _spent, "bound": _bound, "links": _links, "potential": _potential,
}
OF_ACCOUNTS = {"events": _events, "wrong": _wrong, "cost": _cost}


class Desk:
    """Forests and accounts, each sort with names of its own."""

    def __init__(self):
        self._works = {}
        self._accounts = {}

    def tell(self, line):
        """Do what a line says: what is told then."""
        word, name, thing = _read_line(line)
        if word == "forest":
            self._works[name] = Work(read_forest(thing))
            return "ok"
        if word == "account":
            self._accounts[name] = read_account(thing)
            return "ok"
        if word in OF_ACCOUNTS:
            action = OF_ACCOUNTS[word]
            return action(_held(self._accounts, name))
        work = _held(self._works, name)
        if word in OF_FORESTS:
            action = OF_FORESTS[word]
            return action(work)
        return _worked(work, word, thing)


def _held(table, name):
    """What is kept under a name."""
    if name not in table:
        raise NoName(name)
    return table[name]


def _worked(work, word, thing):
    """Do what a word says to a forest, or ask it: what is told then."""
    if word == "ask":
        return _told(work.ask(thing))
    if word == "walk":
        return _told(answer(work.now.forest(), thing))
    if word == "do":
        work.do(thing)
    else:
        work.back()
    return "ok"


def _told(thing):
    """The thing written; of a tuple its items, blanks between."""
    if isinstance(thing, tuple):
        return " ".join([written(part) for part in thing])
    return written(thing)


def _on_one_line(text):
    """The text, with a stroke in the place of each line feed."""
    return text.replace("\n", "|")


def _read_line(line):
    """The triple of the word, the name, and what is told behind them, None where nothing stands."""
    if not isinstance(line, str) or "\n" in line:
        raise NoLine()
    parts = line.split(" ", 2)
    if len(parts) < 2 or not is_word(MOST_LETTERS, parts[1]):
        raise NoLine()
    word = parts[0]
    name = parts[1]
    if len(parts) == 2 and (word == "back" or word in OF_FORESTS or word in OF_ACCOUNTS):
        return word, name, None
    thing = _thing_behind(word, parts[2]) if len(parts) == 3 else None
    if thing is None:
        raise NoLine()
    return word, name, thing


def _thing_behind(word, rest):
    """What stands behind this word and a name, None if it has not the form that is due there."""
    if word in ("forest", "account") and rest != "":
        return rest.replace("|", "\n")
    if word == "do":
        return deed_in(rest)
    if word in ("ask", "walk"):
        return ask_in(rest)
    return None
