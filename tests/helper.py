"""What the tests share: writing calls, reading answers, and the document's words told a second way.

A set of features is a list of pairs (on, wish).
"""

from wishesalike.wishes import answers

MOST = 4294967295
MOST_CALLS = 300

# Rather fish (1) than meat (0); with fish rather white wine (1), with meat rather red (0).
DINNER = [([], 1), ([0], 2)]

# From 3 to 6 one comes by 3, 1, 0 or 5, 4, 6 alone, though both have feature 1.
DETOUR = [([], 0), ([0], 1), ([1], 1)]

# Each but the first is rather as the one before it; from 58 to 23 one comes by 12 changes and no fewer.
CHAIN = [([], 1), ([0], 2), ([1], 2), ([2], 2), ([3], 2), ([4], 2)]

FEATURE_SETS = [
    [],
    [([], 0)],
    [([], 1)],
    DINNER,
    [([], 0), ([], 1)],
    DETOUR,
    [([], 1), ([], 0), ([1, 0], 0b0010)],
    [([], 1), ([0], 0b01), ([1, 0], 0b1001), ([2, 0, 1], 0b10010110)],
    [([], 0), ([0], 0b10), ([1], 0b01), ([2, 1], 0b0110), ([3], 0b10)],
    [([], 1), ([], 0), ([1], 0b10), ([2, 0], 0b0111), ([3, 1, 0], 0b01011010), ([4, 2, 3], 0b11100100)],
    [([], 1), ([], 1), ([], 0), ([], 1), ([], 0), ([], 0)],
]


def begin():
    return [0]


def feature(on, wish):
    return [1, wish, len(on)] + list(on)


def best(given, values):
    return [2, given, values]


def worst(given, values):
    return [3, given, values]


def compare(a, b):
    return [4, a, b]


def path(start_at, end_at):
    return [5, start_at, end_at]


def above(a):
    return [6, a]


def below(a):
    return [7, a]


def order():
    return [8]


def telling(features):
    """The calls that begin and tell these features."""
    return [begin()] + [feature(on, wish) for on, wish in features]


def joined(calls):
    return [number for call in calls for number in call]


def split(told):
    """The answers one by one, each without the count ahead of it."""
    found = []
    at = 0
    while at < len(told):
        found.append(told[at + 1:at + 1 + told[at]])
        at += 1 + told[at]
    if at != len(told) or [] in found:
        raise AssertionError(f"the counts don't fit: {told}")
    return found


def ask_rows(calls):
    """All the numbers that each of these calls answers, all of them asked in one list."""
    found = split(answers(joined(calls)))
    if len(found) != len(calls):
        raise AssertionError(f"{len(found)} answers to {len(calls)} calls")
    return found


def single(rows):
    if any(len(row) != 1 for row in rows):
        raise AssertionError(f"not one number each: {rows}")
    return [row[0] for row in rows]


def ask(calls):
    """The one number that each of these calls answers, all of them asked in one list."""
    return single(ask_rows(calls))


def ask_rows_of(features, calls):
    """All that the calls answer behind these features, asked in as many lists as it takes."""
    first = telling(features)
    room = MOST_CALLS - len(first)
    found = []
    for start in range(0, len(calls), room):
        told = ask_rows(first + calls[start:start + room])
        if single(told[:len(first)]) != [0] + list(range(len(features))):
            raise AssertionError(f"features were refused: {told[:len(first)]}")
        found += told[len(first):]
    return found


def ask_of(features, calls):
    """The one number that each of the calls answers behind these features."""
    return single(ask_rows_of(features, calls))


def small_sets():
    """Every set of three features that there can be."""
    seconds = ([], [0])
    thirds = ([], [0], [1], [0, 1], [1, 0])
    return [
        [([], wish), second, third]
        for wish in (0, 1)
        for second in with_every_wish(seconds)
        for third in with_every_wish(thirds)
    ]


def with_every_wish(rows):
    return [(on, wish) for on in rows for wish in range(2 ** 2 ** len(on))]


def large_sets():
    """Sets of four to six features, each on as many others as can be or, now and then, on fewer."""
    found = []
    number = 1
    for k in range(24):
        features = []
        for here in range(4 + k % 3):
            number = number * 1103515245 % 2147483647
            on = [(number + other) % here for other in range(min(3, here))]
            on = on[:2] if (k + here) % 4 == 0 else on
            features.append((on, number // 7 % 2 ** 2 ** len(on)))
        found.append(features)
    return found


def things(features):
    return range(2 ** len(features))


def value(thing, k):
    return thing // 2 ** k % 2


def wanted(features, k, thing):
    on, wish = features[k]
    way = sum(weight * value(thing, other) for weight, other in zip((1, 2, 4), on))
    return value(wish, way)


def agrees(thing, given, values):
    return thing & given == values & given


def changes(features, thing):
    """The features of which thing has a change for the better, each with what thing becomes by it."""
    return {k: thing ^ 2 ** k for k in range(len(features)) if value(thing, k) != wanted(features, k, thing)}


def led_to(features, given=0):
    """For each thing those that changes for the better lead to from it, one or more, none of a given feature."""
    found = {thing: set() for thing in things(features)}
    for thing in found:
        for k, other in changes(features, thing).items():
            if not value(given, k):
                found[thing].add(other)
    for middle in found:
        for start in found:
            if middle in found[start]:
                found[start] |= found[middle]
    return found


def compared(features):
    """What compare is to answer at every pair of things."""
    better = led_to(features)
    table = {}
    for a in things(features):
        for b in things(features):
            if a == b:
                table[a, b] = 0
            elif a in better[b]:
                table[a, b] = 1
            else:
                table[a, b] = 2 if b in better[a] else 3
    return table


def every_row(features, start):
    """For each thing all rows of changes for the better from start to it, by their features."""
    found = {thing: [] for thing in things(features)}
    waiting = [((), start)]
    for row, thing in waiting:
        found[thing].append(row)
        waiting += [(row + (k,), other) for k, other in changes(features, thing).items()]
    return found


def shortest_rows(features):
    """For each pair of which changes lead from the first to the second: the row that path is to answer."""
    found = {}
    before = {thing: [(k, start) for start in things(features) for k, other in changes(features, start).items()
                      if other == thing] for thing in things(features)}
    newest = {(thing, thing): () for thing in things(features)}
    while newest:
        found.update(newest)
        longer = {}
        for (middle, end), row in newest.items():
            for k, start in before[middle]:
                if (start, end) not in found:
                    longer.setdefault((start, end), []).append((k,) + row)
        newest = {pair: min(rows) for pair, rows in longer.items()}
    return found


def ordered(features):
    """The row of things that order is to answer."""
    left = set(things(features))
    found = []
    while left:
        found.append(min(thing for thing in left if left.isdisjoint(changes(features, thing).values())))
        left.remove(found[-1])
    return found
