"""Asks: what they are, and the walker's answers to them (DOC.md 1.3)."""

from cutlinked.errors import NoAsk, NoNumber
from cutlinked.forests import below, common, depth, root, way
from cutlinked.kinds import fit, is_many, word_of

# What stands behind the word of each ask.
FORMS = {
    "root": ("house",),
    "depth": ("house",),
    "joined": ("house", "house"),
    "common": ("house", "house"),
    "below": ("house",),
    "whole": ("house",),
    "way": ("house", "house"),
    "where": ("house", "house", "end"),
    "at": ("house", "house", "number"),
    "reach": ("house", "house", "integer"),
}


def is_ask(many, thing):
    """Whether a thing is an ask by its form, where there are so many houses."""
    if not is_many(many):
        raise NoNumber()
    return is_ask_form(many, thing)


def is_ask_form(houses, thing):
    """Whether a thing has the form of an ask where there are so many houses, however many."""
    word = word_of(thing)
    return word in FORMS and fit(houses, thing[1:], FORMS[word])


def answer(forest, ask):
    """The walker's answer to an ask."""
    if not is_ask(len(forest.parents), ask):
        raise NoAsk()
    if len(FORMS[ask[0]]) == 1:
        return _answer_of_house(forest, ask[0], ask[1])
    return _answer_of_two(forest, ask)


def _answer_of_house(forest, word, house):
    """The answer to an ask about a house alone."""
    if word == "root":
        return root(forest, house)
    if word == "depth":
        return depth(forest, house)
    if word == "below":
        return sum_of(below(forest, house), forest.worths)
    return sum_of(below(forest, root(forest, house)), forest.worths)


def _answer_of_two(forest, ask):
    """The answer to an ask about two houses."""
    if ask[0] == "joined":
        return root(forest, ask[1]) == root(forest, ask[2])
    if ask[0] == "common":
        return common(forest, ask[1], ask[2])
    houses = way(forest, ask[1], ask[2])
    if houses is None:
        return None
    return told_of_way(ask, houses, forest.worths)


def sum_of(houses, worths):
    """The pair of how many houses these are, and the sum of their values."""
    return len(houses), sum([worths[house] for house in houses])


def told_of_way(ask, houses, worths):
    """The answer to an ask about the way that these houses are; worths are those of all houses."""
    values = [worths[house] for house in houses]
    if ask[0] == "way":
        return len(values), sum(values), min(values), max(values)
    if ask[0] == "where":
        due = min(values) if ask[3] == "least" else max(values)
        return houses[values.index(due)]
    if ask[0] == "at":
        return houses[ask[3]] if ask[3] < len(houses) else None
    for house, value in zip(houses, values):
        if value <= ask[3]:
            return house
    return None
