"""An own look at what is written, by the words of the document (DOC.md 7.1, 7.2)."""

import re

from cutlinked.asks import is_ask
from tests.helper import leads_to_roots

NUMBER = "(?:0|[1-9][0-9]{0,19})"
INTEGER = "(?:0|-?[1-9][0-9]{0,19})"
# Where a tuple stood there is an A, which is nothing that is written.
PLAIN = f"(?:{INTEGER}|-|[a-z]{{1,20}}|A)"
TUPLE = re.compile(rf"\((?:{PLAIN}(?:,{PLAIN})*)?\)")

HOUSE = re.compile(f"house (-|{NUMBER}) ({INTEGER})")
DEED = re.compile(f"link {NUMBER} {NUMBER}|cut {NUMBER}|turn {NUMBER}|put {NUMBER} {INTEGER}|"
                  f"add {NUMBER} {NUMBER} {INTEGER}")
ASK = re.compile(f"(root|depth|below|whole) {NUMBER}|(joined|common|way) {NUMBER} {NUMBER}|"
                 f"where {NUMBER} {NUMBER} (least|greatest)|at {NUMBER} {NUMBER} {NUMBER}|"
                 f"reach {NUMBER} {NUMBER} {INTEGER}")


def is_written(text):
    """Whether a text is what is written of something: tuple by tuple, the inner ones first, is crossed out."""
    deep = 0
    for sign in text:
        deep += (sign == "(") - (sign == ")")
        if not 0 <= deep <= 20:
            return False
    if "A" in text:
        return False
    left = None
    while left != text:
        left, text = text, TUPLE.sub("A", text)
    return re.fullmatch(PLAIN, text) is not None


def begins_something(text):
    """Whether a text is a beginning of something written."""
    still_open = text.count("(") - text.count(")")
    return any(is_written(text + more + ")" * still_open) for more in ("", "a", "1"))


def place_of(text):
    """How many signs the longest beginning of a text has that is one of something written."""
    many = 0
    while many < len(text) and begins_something(text[:many + 1]):
        many += 1
    return many


def own_written(thing):
    """What is written of a thing."""
    if type(thing) is tuple:
        return f"({','.join(map(own_written, thing))})"
    return {None: "-", True: "yes", False: "no"}[thing] if thing is None or type(thing) is bool else f"{thing}"


def own_thing(text):
    """The thing of which this is what is written: Python reads it, quotes being put around the words."""
    names = {"yes": "True", "no": "False"}
    text = re.sub("[a-z]+", lambda found: names.get(found[0], repr(found[0])), text)
    text = re.sub(r"-(?![0-9])", "None", text)
    return eval(text.replace(")", ",)").replace("(,)", "()"))


def own_lines(text, forms):
    """The number of the first line of another form, None if there is none; forms tell of each line, and the ahead."""
    if type(text) is not str:
        return 0
    lines = text.split("\n")
    for number, line in enumerate(lines[:-1]):
        if not forms(line, lines[:number]):
            return number + 1
    return len(lines) if lines[-1] else None


def is_house_line(line, _):
    return HOUSE.fullmatch(line) is not None


def is_deed_line(line, _):
    return DEED.fullmatch(line) is not None


def is_event_line(line):
    words = line.split(" ")
    if (words[0], len(words)) not in (("did", 2), ("told", 3)):
        return False
    return all(is_written(word) for word in words[1:])


def is_account_line(line, ahead):
    """Whether a line may stand behind the ones ahead: houses first, one at least, then events."""
    if is_house_line(line, ahead):
        return not any(map(is_event_line, ahead))
    return is_event_line(line) and any(is_house_line(one, ahead) for one in ahead)


def own_forest(text):
    """("good", parents, worths), or ("text", line), or ("forest", part)."""
    bad = own_lines(text, is_house_line)
    if bad is None and text == "":
        bad = 1
    return ("text", bad) if bad is not None else houses_of(text.split("\n")[:-1])


def houses_of(lines):
    """What a forest's right lines make."""
    found = [HOUSE.fullmatch(line).groups() for line in lines]
    parents = tuple(None if parent == "-" else int(parent) for parent, _ in found)
    if len(parents) > 64 or any(p is not None and p >= len(parents) for p in parents) or not leads_to_roots(parents):
        return "forest", "parents"
    return "good", parents, tuple(int(worth) for _, worth in found)


def own_account(text):
    """("good", parents, worths, events), or ("text", line), or ("forest", part), or ("account", index)."""
    bad = own_lines(text, is_account_line)
    if bad is None and text == "":
        bad = 1
    if bad is not None:
        return "text", bad
    lines = text.split("\n")[:-1]
    houses = [line for line in lines if is_house_line(line, None)]
    made = houses_of(houses)
    if made[0] != "good":
        return made
    events = [tuple([line.split(" ")[0]] + [own_thing(word) for word in line.split(" ")[1:]])
              for line in lines[len(houses):]]
    if len(events) > 2000:
        return "account", -1
    for index, event in enumerate(events):
        if event[0] == "told" and not is_ask(len(houses), event[1]):
            return "account", index
    return made + (tuple(events),)
