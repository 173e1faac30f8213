"""An own following of the words of the document on kept forests (DOC.md 4.2), reaching by reaching."""

from tests.shaping import (
    ADDED, LEFT, TURNED, UP, VALUE, closed, line_up, opened, own_hand_on, own_reach, own_told, part_order,
)


class OwnKept:
    """A shape, and the papers of what was reached."""

    def __init__(self, shape):
        self.parts = opened(shape)
        self.papers = []

    def shape(self):
        return closed(self.parts)

    def reach(self, house):
        paper, met = own_reach(self.parts, house)
        self.papers.append(paper)
        return met

    def flip(self, house):
        self.reach(house)
        self.parts[house][TURNED] = not self.parts[house][TURNED]

    def find_root(self, house):
        self.reach(house)
        last = house
        while self.parts[last][LEFT] is not None:
            last = self.parts[last][LEFT]
            own_hand_on(self.parts, last)
        self.reach(last)
        return last

    def open_way(self, one, other):
        self.flip(one)
        self.reach(other)

    def deed(self, deed):
        """Do a deed that can be done."""
        word, house, rest = deed[0], deed[1], deed[2:]
        if word == "link":
            self.find_root(house)
            self.find_root(rest[0])
            self.reach(house)
            self.reach(rest[0])
            self.parts[house][UP] = rest[0]
        elif word == "cut":
            self.find_root(house)
            self.reach(house)
            self.parts[self.parts[house][LEFT]][UP] = None
            self.parts[house][LEFT] = None
        elif word == "turn":
            self.flip(house)
        elif word == "put":
            self.reach(house)
            self.parts[house][VALUE] = rest[0]
        else:
            found = self.find_root(house)
            self.find_root(rest[0])
            self.open_way(house, rest[0])
            self.parts[rest[0]][VALUE] += rest[1]
            self.parts[rest[0]][ADDED] += rest[1]
            self.flip(found)

    def below(self, house):
        """What is below a house that was reached."""
        lines = [line_up(self.parts, start) for start in range(len(self.parts))]
        met = [line[0] for line in lines if house in line and self.parts[house][LEFT] not in line[:line.index(house)]]
        worths = own_told(self.parts)[1]
        return len(met), sum(worths[place] for place in met)

    def ask(self, ask):
        """The answer to an ask, read from what was reached."""
        word, one = ask[0], ask[1]
        if word in ("root", "whole"):
            found = self.find_root(one)
            return found if word == "root" else self.below(found)
        if word in ("depth", "below"):
            self.reach(one)
            return len(part_order(self.parts, one)) - 1 if word == "depth" else self.below(one)
        other = ask[2]
        found = self.find_root(one)
        alike = found == self.find_root(other)
        if word == "joined":
            return alike
        if not alike:
            return None
        if word == "common":
            self.reach(one)
            return self.reach(other)[-1]
        self.open_way(one, other)
        line = part_order(self.parts, other)
        worths = own_told(self.parts)[1]
        values = [worths[place] for place in line]
        if word == "way":
            told = (len(line), sum(values), min(values), max(values))
        elif word == "where":
            told = line[values.index(sorted(values)[0 if ask[3] == "least" else -1])]
        elif word == "at":
            told = line[ask[3]] if ask[3] < len(line) else None
        else:
            told = next((place for place, value in zip(line, values) if value <= ask[3]), None)
        if word != "way" and told is not None:
            self.reach(told)
        self.flip(found)
        return told
