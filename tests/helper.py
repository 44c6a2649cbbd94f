"""What the tests share: writing calls, reading answers, and the document's words told a second way.

A set of features is a list of pairs (on, wish).
"""

from wishesalike.wishes import answers

MOST = 4294967295
MOST_CALLS = 300

# Rather fish (1) than meat (0); with fish rather white wine (1), with meat rather red (0).
DINNER = [([], 1), ([0], 2)]

# From 3 to 6 one comes by 3, 1, 5, 4, 6 alone, though both have feature 1.
DETOUR = [([], 0), ([0], 1), ([1], 1)]

FEATURE_SETS = [
    [],
    [([], 0)],
    [([], 1)],
    DINNER,
    [([], 0), ([], 1)],
    DETOUR,
    [([], 1), ([], 0), ([1, 0], 0b0010)],
    [([], 1), ([0], 0b01), ([1, 0], 0b1001), ([2, 0, 1], 0b10010110)],
    [([], 0), ([0], 0b10), ([1], 0b01), ([2, 1], 0b0110), ([3], 0b10)],
    [([], 1), ([], 0), ([1], 0b10), ([2, 0], 0b0111), ([3, 1, 0], 0b01011010), ([4, 2, 3], 0b11100100)],
    [([], 1), ([], 1), ([], 0), ([], 1), ([], 0), ([], 0)],
]


def begin():
    return [0]


def feature(on, wish):
    return [1, wish, len(on)] + list(on)


def best(given, values):
    return [2, given, values]


def worst(given, values):
    return [3, given, values]


def compare(a, b):
    return [4, a, b]


def telling(features):
    """The calls that begin and tell these features."""
    return [begin()] + [feature(on, wish) for on, wish in features]


def joined(calls):
    return [number for call in calls for number in call]


def ask(calls):
    """The one number that each of these calls answers, all of them asked in one list."""
    told = answers(joined(calls))
    if told[0::2] != [1] * len(calls):
        raise AssertionError(f"not one number for each of {len(calls)} calls: {told}")
    return told[1::2]


def ask_of(features, calls):
    """What the calls answer behind these features, asked in as many lists as it takes."""
    first = telling(features)
    room = MOST_CALLS - len(first)
    found = []
    for start in range(0, len(calls), room):
        told = ask(first + calls[start:start + room])
        if told[:len(first)] != [0] + list(range(len(features))):
            raise AssertionError(f"features were refused: {told[:len(first)]}")
        found += told[len(first):]
    return found


def things(features):
    return range(2 ** len(features))


def value(thing, k):
    return thing // 2 ** k % 2


def wanted(features, k, thing):
    on, wish = features[k]
    way = sum(weight * value(thing, other) for weight, other in zip((1, 2, 4), on))
    return value(wish, way)


def agrees(thing, given, values):
    return thing & given == values & given


def led_to(features, given=0):
    """For each thing those that changes for the better lead to from it, one or more, none of a given feature."""
    found = {thing: set() for thing in things(features)}
    for thing in found:
        for k in range(len(features)):
            if not value(given, k) and value(thing, k) != wanted(features, k, thing):
                found[thing].add(thing ^ 2 ** k)
    for middle in found:
        for start in found:
            if middle in found[start]:
                found[start] |= found[middle]
    return found


def compared(features):
    """What compare is to answer at every pair of things."""
    better = led_to(features)
    table = {}
    for a in things(features):
        for b in things(features):
            if a == b:
                table[a, b] = 0
            elif a in better[b]:
                table[a, b] = 1
            else:
                table[a, b] = 2 if b in better[a] else 3
    return table
