"""Asks the program by the calls' names, and takes its answers apart again."""

from albumwhole.album import answers

NUMBERS = {
    "begin": 0, "kind": 1, "got": 2, "give": 3, "swap": 4, "packet": 5, "mean": 6, "meanboth": 7,
    "allby": 8, "half": 9, "swaps": 10, "fairest": 11, "most": 12, "sells": 13, "worth": 14,
    "lacking": 15, "doubles": 16, "ahead": 17, "fresh": 18, "bought": 19, "told": 20,
    "different": 21, "alike": 22, "pairs": 23, "alikehalf": 24, "first": 25, "meanfirst": 26,
    "evendifferent": 27, "three": 28, "products": 29, "squares": 30, "with_more": 31,
    "chance": 32, "would": 33,
}

# A call of each name, with arguments that are all in range.
SAMPLES = (
    ("kind", 1), ("got", 0, 0), ("give", 0, 0), ("swap", 0, 0), ("packet", 0, 0, 0, 0), ("mean", 0),
    ("meanboth",), ("allby", 0, 0), ("half", 0), ("swaps",), ("fairest",), ("most",), ("sells", 0, 0),
    ("worth", 0, 0), ("lacking", 0), ("doubles", 0), ("ahead",), ("fresh", 0, 0), ("bought",),
    ("told", 0), ("different", 0), ("alike", 0), ("pairs", 0), ("alikehalf",), ("first", 1),
    ("meanfirst",), ("evendifferent", 0), ("three", 0), ("products", 0), ("squares",),
    ("with_more", 1, 0), ("chance", 0), ("would", 0, 0, 0),
)

GREATEST = 4294967295


def laid(calls):
    numbers = []
    for call in calls:
        numbers.append(NUMBERS[call[0]])
        numbers.extend(call[1:])
    return numbers


def taken_apart(told):
    found = []
    place = 0
    while place < len(told):
        count = told[place]
        found.append(told[place + 1:place + 1 + count])
        assert len(found[-1]) == count >= 1, told
        place += 1 + count
    return found


def ask(*calls):
    """The answers of these calls on a new object, each a list; a begin goes ahead of them."""
    found = taken_apart(answers(laid((("begin",),) + calls)))
    assert len(found) == len(calls) + 1, found
    assert found[0] == [0], found
    return found[1:]


def last(*calls):
    return ask(*calls)[-1]


def kinds(*weights):
    return tuple(("kind", weight) for weight in weights)


def has(collector, *counts):
    """Calls by which a collector gets so many pictures of each kind: packets of three, then single ones."""
    calls = []
    for kind, count in enumerate(counts):
        packets = max(0, (count - 1) // 3) if count > 20 else 0
        calls.extend([("packet", collector, kind, kind, kind)] * packets)
        calls.extend([("got", collector, kind)] * (count - 3 * packets))
    return tuple(calls)


def everything(weights):
    """Calls whose answers show all that an object holds."""
    calls = [("told", 0), ("told", 1), ("bought",)]
    return tuple(calls + [("chance", kind) for kind in range(len(weights))] + [("squares",)])
