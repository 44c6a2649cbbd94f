"""Wishes about features, each told all else alike: which things are rather had, by which changes, in which order."""

BEGIN = 0
FEATURE = 1
BEST = 2
WORST = 3
COMPARE = 4
PATH = 5
ABOVE = 6
BELOW = 7

# How many numbers a call takes in the list, its own number with them; feature's row of others comes on top.
CALL_SIZES = {0: 1, 1: 3, 2: 3, 3: 3, 4: 3, 5: 3, 6: 2, 7: 2, 8: 1}

NO_PATH = -6
WRONG = -22
FULL = -28

MOST_FEATURES = 6
MOST_ON = 3

# Which way changes are followed: to what is rather had, or back to what it is rather had than.
BETTER = 0
WORSE = 1


def bit(number, place):
    return (number >> place) & 1


class Feature:
    """One feature: those on which it depends, in the order in which they were told, and its wish."""

    def __init__(self, on, wish):
        self.on = tuple(on)
        self.wish = wish

    def way(self, thing):
        together = 0
        for place, other in enumerate(self.on):
            together += bit(thing, other) << place
        return together

    def wanted(self, thing):
        """The value that is rather had with the others as they are in thing."""
        return bit(self.wish, self.way(thing))


class Wishes:
    """The features of one object, by their numbers."""

    def __init__(self):
        self.features = []

    def begin(self):
        self.features = []
        return 0

    def feature(self, on, wish):
        if not self.may_depend(on) or wish >= 1 << (1 << len(on)):
            return WRONG
        if len(self.features) == MOST_FEATURES:
            return FULL
        self.features.append(Feature(on, wish))
        return len(self.features) - 1

    def may_depend(self, on):
        if len(on) > MOST_ON or len(set(on)) < len(on):
            return False
        return all([other < len(self.features) for other in on])

    def best(self, given, values):
        return self.filled(given, values, 0)

    def worst(self, given, values):
        return self.filled(given, values, 1)

    def filled(self, given, values, turned):
        """The thing with what is given; each other feature as wanted or, if turned is 1, as not wanted."""
        if self.is_beyond(given) or self.is_beyond(values):
            return WRONG
        thing = 0
        # A feature depends on earlier ones alone, so what it needs is in thing by its turn.
        for number, feature in enumerate(self.features):
            if bit(given, number) == 1:
                value = bit(values, number)
            else:
                value = feature.wanted(thing) ^ turned
            thing += value << number
        return thing

    def compare(self, a, b):
        if self.is_beyond(a) or self.is_beyond(b):
            return WRONG
        if a == b:
            return 0
        if a in self.distances(b, BETTER):
            return 1
        if b in self.distances(a, BETTER):
            return 2
        return 3

    def path(self, start_at, end_at):
        """How many changes lead from start_at to end_at and behind it their features, or a refusal alone."""
        if self.is_beyond(start_at) or self.is_beyond(end_at):
            return [WRONG]
        left = self.distances(end_at, WORSE)
        if start_at not in left:
            return [NO_PATH]
        row = []
        thing = start_at
        while thing != end_at:
            number = self.next_change(thing, left)
            row.append(number)
            thing = thing ^ (1 << number)
        return [len(row)] + row

    def next_change(self, thing, left):
        """The least feature whose change for the better brings thing nearer; left tells how far each one has to go."""
        nearer = []
        for number in self.changeable(thing, BETTER):
            other = thing ^ (1 << number)
            # A change for the better may also lead away for good, to a thing that left does not have.
            if other in left and left[other] < left[thing]:
                nearer.append(number)
        return min(nearer)

    def above(self, a):
        return self.count_led_to(a, BETTER)

    def below(self, a):
        return self.count_led_to(a, WORSE)

    def count_led_to(self, a, direction):
        if self.is_beyond(a):
            return WRONG
        # a itself is among the distances, and is not rather had than itself.
        return len(self.distances(a, direction)) - 1

    def order(self):
        """How many things there are, and behind it all of them, none behind one than which it is rather had."""
        better = [self.neighbours(thing, BETTER) for thing in range(1 << len(self.features))]
        came = {}
        while len(came) < len(better):
            came[next_in_order(better, came)] = True
        return [len(came)] + list(came)

    def is_beyond(self, number):
        """Whether number has a bit of no feature."""
        return number >> len(self.features) > 0

    def distances(self, start, direction):
        """start and all things that changes in this direction lead to, each with the least number of changes."""
        far = {start: 0}
        found = [start]
        at = 0
        while at < len(found):
            for thing in self.neighbours(found[at], direction):
                if thing not in far:
                    far[thing] = far[found[at]] + 1
                    found.append(thing)
            at += 1
        return far

    def neighbours(self, thing, direction):
        """The things that are one change in this direction away from thing."""
        return [thing ^ (1 << number) for number in self.changeable(thing, direction)]

    def changeable(self, thing, direction):
        """The features, by numbers, that thing has not as wanted or, if direction is WORSE, that it has as wanted."""
        found = []
        for number, feature in enumerate(self.features):
            # No feature depends on itself, so what is wanted of it is the same at both ends of its change.
            as_wanted = bit(thing, number) == feature.wanted(thing)
            if as_wanted == (direction == WORSE):
                found.append(number)
        return found


def next_in_order(better, came):
    """The least thing that has not come while all that one change for the better makes of it have."""
    thing = 0
    # Wishes never go round, so as long as some have not come there is such a one.
    while thing in came or not all([other in came for other in better[thing]]):
        thing += 1
    return thing


def answers(calls):
    """The answers to the calls on one new object, each behind the count of its numbers."""
    wishes = Wishes()
    told = []
    start = 0
    while start < len(calls):
        end = call_end(calls, start)
        answer = answer_to(wishes, calls[start:end])
        told.append(len(answer))
        told.extend(answer)
        start = end
    return told


def call_end(calls, start):
    end = start + CALL_SIZES[calls[start]]
    if calls[start] == FEATURE:
        end += calls[start + 2]
    return end


def answer_to(wishes, call):
    if call[0] == BEGIN:
        return [wishes.begin()]
    if call[0] == FEATURE:
        return [wishes.feature(call[3:], call[1])]
    if call[0] == BEST:
        return [wishes.best(call[1], call[2])]
    if call[0] == WORST:
        return [wishes.worst(call[1], call[2])]
    if call[0] == COMPARE:
        return [wishes.compare(call[1], call[2])]
    if call[0] == PATH:
        return wishes.path(call[1], call[2])
    if call[0] == ABOVE:
        return [wishes.above(call[1])]
    if call[0] == BELOW:
        return [wishes.below(call[1])]
    # Only order is left: call_end knows no other number.
    return wishes.order()
