"""Asks the program by the calls' names, and takes its answers apart again."""

from albumwhole.album import answers

NUMBERS = {
    "begin": 0, "kind": 1, "got": 2, "give": 3, "swap": 4, "packet": 5, "mean": 6, "meanboth": 7,
    "allby": 8, "half": 9, "swaps": 10, "fairest": 11, "most": 12, "sells": 13, "worth": 14,
    "lacking": 15, "doubles": 16, "ahead": 17, "fresh": 18, "bought": 19, "told": 20,
    "different": 21, "alike": 22, "pairs": 23, "alikehalf": 24, "first": 25, "meanfirst": 26,
    "evendifferent": 27, "three": 28, "products": 29, "squares": 30, "with_more": 31,
    "chance": 32, "would": 33,
    "justkinds": 34, "allnumbers": 35, "meankinds": 36, "adds": 37, "likeliest": 38, "seen": 39, "evenkinds": 40,
    "both": 41, "needed": 42, "wouldkinds": 43, "mostkinds": 44,
    "urnchance": 45, "urnrow": 46, "urncounts": 47, "urnjust": 48, "urnall": 49, "urntwo": 50, "urnmean": 51,
    "urnthen": 52, "urnlikeliest": 53, "urnone": 54,
    "boxjust": 55, "boxall": 56, "boxlikeliest": 57, "boxmean": 58, "boxspread": 59, "boxatleast": 60,
    "boxneeded": 61, "boxkthat": 62, "boxkthmean": 63, "boxswapped": 64, "boxguess": 65, "boxcertain": 66,
}

# A call of each name, with arguments that are all in range.
SAMPLES = (
    ("kind", 1), ("got", 0, 0), ("give", 0, 0), ("swap", 0, 0), ("packet", 0, 0, 0, 0), ("mean", 0),
    ("meanboth",), ("allby", 0, 0), ("half", 0), ("swaps",), ("fairest",), ("most",), ("sells", 0, 0),
    ("worth", 0, 0), ("lacking", 0), ("doubles", 0), ("ahead",), ("fresh", 0, 0), ("bought",),
    ("told", 0), ("different", 0), ("alike", 0), ("pairs", 0), ("alikehalf",), ("first", 1),
    ("meanfirst",), ("evendifferent", 0), ("three", 0), ("products", 0), ("squares",),
    ("with_more", 1, 0), ("chance", 0), ("would", 0, 0, 0),
    ("justkinds", 2, 1), ("allnumbers", 2), ("meankinds", 2), ("adds", 2), ("likeliest", 2), ("seen", 0, 2),
    ("evenkinds", 2), ("both", 0, 1, 2), ("needed", 1, 1), ("wouldkinds", 0, 1, 2), ("mostkinds", 2),
    ("urnchance", 1, 2, 3, 0), ("urnrow", 1, 2, 3, 2, 0, 1, 0, 0, 0, 0), ("urncounts", 1, 2, 3, 1, 1, 0, 0),
    ("urnjust", 1, 2, 3, 0, 2, 1), ("urnall", 1, 2, 3, 0, 2), ("urntwo", 1, 2, 3, 0, 1), ("urnmean", 1, 2, 3, 0, 2),
    ("urnthen", 1, 2, 3, 0, 2), ("urnlikeliest", 1, 2, 3, 0, 2), ("urnone", 1, 2, 3, 2),
    ("boxjust", 5, 2, 3, 1), ("boxall", 5, 2, 3), ("boxlikeliest", 5, 2, 3), ("boxmean", 5, 2, 3),
    ("boxspread", 5, 2, 3), ("boxatleast", 5, 2, 3, 1), ("boxneeded", 5, 2, 1, 1, 2), ("boxkthat", 5, 2, 1, 2),
    ("boxkthmean", 5, 2, 1), ("boxswapped", 5, 2, 3, 1), ("boxguess", 5, 2, 3, 1), ("boxcertain", 5, 2, 1),
)

GREATEST = 4294967295


def laid(calls):
    numbers = []
    for call in calls:
        numbers.append(NUMBERS[call[0]])
        numbers.extend(call[1:])
    return numbers


def taken_apart(told):
    found = []
    place = 0
    while place < len(told):
        count = told[place]
        found.append(told[place + 1:place + 1 + count])
        assert len(found[-1]) == count >= 1, told
        place += 1 + count
    return found


def ask(*calls):
    """The answers of these calls on a new object, each a list; a begin goes ahead of them."""
    found = taken_apart(answers(laid((("begin",),) + calls)))
    assert len(found) == len(calls) + 1, found
    assert found[0] == [0], found
    return found[1:]


def last(*calls):
    return ask(*calls)[-1]


def kinds(*weights):
    return tuple(("kind", weight) for weight in weights)


def has(collector, *counts):
    """Calls by which a collector gets so many pictures of each kind: packets of three, then single ones."""
    calls = []
    for kind, count in enumerate(counts):
        packets = max(0, (count - 1) // 3) if count > 20 else 0
        calls.extend([("packet", collector, kind, kind, kind)] * packets)
        calls.extend([("got", collector, kind)] * (count - 3 * packets))
    return tuple(calls)


def everything(weights):
    """Calls whose answers show all that an object holds."""
    calls = [("told", 0), ("told", 1), ("bought",)]
    return tuple(calls + [("chance", kind) for kind in range(len(weights))] + [("squares",)])
