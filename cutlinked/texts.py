"""What is written and read: things, forests, deeds, accounts (DOC.md 7.1, 7.2)."""

from cutlinked.accounts import Account
from cutlinked.asks import is_ask_form
from cutlinked.deeds import is_deed_form
from cutlinked.errors import BadText, BadThing, NoThing
from cutlinked.forests import Forest
from cutlinked.kinds import is_integer, is_number, word_of

LETTERS = "abcdefghijklmnopqrstuvwxyz"
FIGURES = "0123456789"
# Of the letters of a word, and of the figures of an integer that is read.
MOST_SIGNS = 20
MOST_DEEP = 20
FLAGS = {"yes": True, "no": False}


def is_word(most, thing):
    """Whether a thing is a string of letters, one to the most that there may be."""
    return isinstance(thing, str) and 1 <= len(thing) <= most and all([sign in LETTERS for sign in thing])


def written(thing):
    """The text of a thing."""
    if not _can_be_written(thing, MOST_DEEP):
        raise NoThing()
    return _text_of(thing)


def _can_be_written(thing, deep):
    """Whether a thing that is nested at most so deep can be written."""
    if isinstance(thing, tuple):
        return deep > 0 and all([_can_be_written(part, deep - 1) for part in thing])
    if isinstance(thing, str):
        return is_word(MOST_SIGNS, thing) and thing not in FLAGS
    return thing is None or isinstance(thing, int)


def _text_of(thing):
    """The text of a thing that can be written."""
    if thing is None:
        return "-"
    if isinstance(thing, bool):
        return "yes" if thing else "no"
    if isinstance(thing, tuple):
        return "(" + ",".join([_text_of(part) for part in thing]) + ")"
    return str(thing)


def read_thing(text):
    """The thing of which this is what is written."""
    if not isinstance(text, str):
        raise BadThing(-1)
    thing, behind = _read_thing_at(text, 0, MOST_DEEP)
    if behind < len(text):
        raise BadThing(behind)
    return thing


def _read_thing_at(text, place, deep):
    """The pair of the thing at a place, nested at most so deep, and of the place behind it."""
    sign = text[place:place + 1]
    if sign == "(" and deep > 0:
        return _read_parts(text, place + 1, deep - 1)
    if sign == "-":
        return _read_behind_minus(text, place + 1)
    if sign == "0":
        # No figure follows it: there would be a needless zero.
        return 0, place + 1
    behind = _end_of(text, place, FIGURES)
    if behind > place:
        return int(text[place:behind]), behind
    behind = _end_of(text, place, LETTERS)
    if behind == place:
        raise BadThing(place)
    word = text[place:behind]
    return FLAGS.get(word, word), behind


def _read_parts(text, place, deep):
    """The pair of the tuple whose bracket was opened, and of the place behind it."""
    if text[place:place + 1] == ")":
        return (), place + 1
    parts = []
    sign = ","
    while sign == ",":
        part, behind = _read_thing_at(text, place, deep)
        parts.append(part)
        sign = text[behind:behind + 1]
        place = behind + 1
    if sign != ")":
        raise BadThing(place - 1)
    return tuple(parts), place


def _read_behind_minus(text, place):
    """The pair of the integer below 0, or None if the minus stands alone, and of the place behind it."""
    behind = _end_of(text, place, FIGURES)
    if behind == place or text[place] == "0":
        return None, place
    return -int(text[place:behind]), behind


def _end_of(text, place, signs):
    """The place behind the signs of these that stand from a place on, as many as there may be."""
    behind = place
    while behind < min(len(text), place + MOST_SIGNS) and text[behind] in signs:
        behind += 1
    return behind


def closed(rows):
    """The text of these rows, each closed by a line feed."""
    return "".join([row + "\n" for row in rows])


def forest_text(forest):
    """The text of a forest: a line for each house."""
    return closed(_house_lines(forest))


def _house_lines(forest):
    """The list of the lines of the houses of a forest."""
    return [_line_of(("house", parent, worth)) for parent, worth in zip(forest.parents, forest.worths)]


def deeds_text(deeds):
    """The text of some deeds: a line for each."""
    return closed([_line_of(deed) for deed in deeds])


def account_text(account):
    """The text of an account: the lines of its houses, then a line for each event."""
    return closed(_house_lines(account.begun) + [_line_of(event) for event in account.events])


def _line_of(things):
    """The line of these things."""
    return " ".join([written(thing) for thing in things])


def read_forest(text):
    """The forest of which this is the text."""
    return _forest_of(_read_lines(text, _house_in))


def read_deeds(text):
    """The tuple of the deeds of which this is the text."""
    return tuple(_read_lines(text, deed_in))


def read_account(text):
    """The account of which this is the text."""
    houses = []
    events = []
    for number, line in enumerate(_lines_of(text), 1):
        house = _house_in(line)
        event = _event_in(line)
        if house is not None and len(events) == 0:
            houses.append(house)
        elif event is not None and len(houses) > 0:
            events.append(event)
        else:
            raise BadText(number)
    _need_closed(text)
    return Account(_forest_of(houses), tuple(events))


def _read_lines(text, told_in):
    """The list of what the lines tell; told_in reads one, and gives None if it has another form."""
    found = []
    for number, line in enumerate(_lines_of(text), 1):
        told = told_in(line)
        if told is None:
            raise BadText(number)
        found.append(told)
    _need_closed(text)
    return found


def _lines_of(text):
    """The list of all lines that are closed."""
    if not isinstance(text, str):
        raise BadText(0)
    return text.split("\n")[:-1]


def _need_closed(text):
    """Raise BadText if something stands behind the last line feed."""
    if text != "" and not text.endswith("\n"):
        raise BadText(text.count("\n") + 1)


def _forest_of(houses):
    """The forest of what the lines of its houses tell."""
    if len(houses) == 0:
        raise BadText(1)
    return Forest(tuple([parent for _, parent, _ in houses]), tuple([worth for _, _, worth in houses]))


def _house_in(line):
    """The triple of the word, the parent and the value that the line of a house tells, None of another line."""
    things = _things_in(line)
    if word_of(things) != "house" or len(things) != 3:
        return None
    good = (things[1] is None or is_number(things[1])) and is_integer(things[2])
    return things if good else None


def _event_in(line):
    """The event that a line tells, perhaps with an ask that is none; None of another line."""
    things = _things_in(line)
    word = word_of(things)
    good = (word == "did" and len(things) == 2) or (word == "told" and len(things) == 3)
    return things if good else None


def deed_in(line):
    """The deed that a line tells, whatever houses there are; None of another line."""
    things = _things_in(line)
    return things if is_deed_form(_above_all_read(), things) else None


def ask_in(line):
    """The ask that a line tells, whatever houses there are; None of another line."""
    things = _things_in(line)
    return things if is_ask_form(_above_all_read(), things) else None


def _above_all_read():
    """A number above all that are read, which have 20 figures: where there are so many houses, each is one."""
    return 10 ** 20


def _things_in(line):
    """The tuple of the things that stand in a line, blanks between; None if one of them is none."""
    try:
        return tuple([read_thing(word) for word in line.split(" ")])
    except BadThing:
        return None
