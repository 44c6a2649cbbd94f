"""Wishes about features, each told all else alike, and which of two things is rather had."""

BEGIN = 0
FEATURE = 1
BEST = 2
WORST = 3

# How many numbers a call takes in the list, its own number with them; feature's row of others comes on top.
CALL_SIZES = {0: 1, 1: 3, 2: 3, 3: 3, 4: 3}

WRONG = -22
FULL = -28

MOST_FEATURES = 6
MOST_ON = 3


def bit(number, place):
    return (number >> place) & 1


class Feature:
    """One feature: those on which it depends, in the order in which they were told, and its wish."""

    def __init__(self, on, wish):
        self.on = tuple(on)
        self.wish = wish

    def way(self, thing):
        together = 0
        for place, other in enumerate(self.on):
            together += bit(thing, other) << place
        return together

    def wanted(self, thing):
        """The value that is rather had with the others as they are in thing."""
        return bit(self.wish, self.way(thing))


class Wishes:
    """The features of one object, by their numbers."""

    def __init__(self):
        self.features = []

    def begin(self):
        self.features = []
        return 0

    def feature(self, on, wish):
        if not self.may_depend(on) or wish >= 1 << (1 << len(on)):
            return WRONG
        if len(self.features) == MOST_FEATURES:
            return FULL
        self.features.append(Feature(on, wish))
        return len(self.features) - 1

    def may_depend(self, on):
        if len(on) > MOST_ON or len(set(on)) < len(on):
            return False
        return all([other < len(self.features) for other in on])

    def best(self, given, values):
        return self.filled(given, values, 0)

    def worst(self, given, values):
        return self.filled(given, values, 1)

    def filled(self, given, values, turned):
        """The thing with what is given; each other feature as wanted or, if turned is 1, as not wanted."""
        if self.is_beyond(given) or self.is_beyond(values):
            return WRONG
        thing = 0
        # A feature depends on earlier ones alone, so what it needs is in thing by its turn.
        for number, feature in enumerate(self.features):
            if bit(given, number) == 1:
                value = bit(values, number)
            else:
                value = feature.wanted(thing) ^ turned
            thing += value << number
        return thing

    def compare(self, a, b):
        if self.is_beyond(a) or self.is_beyond(b):
            return WRONG
        if a == b:
            return 0
        if a in self.reached(b):
            return 1
        if b in self.reached(a):
            return 2
        return 3

    def is_beyond(self, number):
        """Whether number has a bit of no feature."""
        return number >> len(self.features) > 0

    def reached(self, start):
        """start, and behind it every thing that changes for the better lead to from there."""
        found = [start]
        at = 0
        while at < len(found):
            for thing in self.bettered(found[at]):
                if thing not in found:
                    found.append(thing)
            at += 1
        return found

    def bettered(self, thing):
        """What thing becomes by one change for the better, for each feature that allows one."""
        changed = []
        for number, feature in enumerate(self.features):
            if bit(thing, number) != feature.wanted(thing):
                changed.append(thing ^ (1 << number))
        return changed


def answers(calls):
    """The answers to the calls on one new object, each behind the count of its numbers."""
    wishes = Wishes()
    told = []
    start = 0
    while start < len(calls):
        end = call_end(calls, start)
        answer = answer_to(wishes, calls[start:end])
        told.append(len(answer))
        told.extend(answer)
        start = end
    return told


def call_end(calls, start):
    end = start + CALL_SIZES[calls[start]]
    if calls[start] == FEATURE:
        end += calls[start + 2]
    return end


def answer_to(wishes, call):
    if call[0] == BEGIN:
        return [wishes.begin()]
    if call[0] == FEATURE:
        return [wishes.feature(call[3:], call[1])]
    if call[0] == BEST:
        return [wishes.best(call[1], call[2])]
    if call[0] == WORST:
        return [wishes.worst(call[1], call[2])]
    # Only compare is left: call_end knows no other number.
    return [wishes.compare(call[1], call[2])]
