"""Long sessions of calls in any order, held against a plain telling of the document."""

import random
import unittest

import counting
from asking import GREATEST, laid, taken_apart
from albumwhole.album import answers


class Plain:
    """The whole's own calls as the document tells them, each refusal in the order of its words."""

    def __init__(self):
        self.weights = None

    def answer(self, name, *given):
        if name != "begin" and self.weights is None:
            return [-11]
        return getattr(self, name)(*given)

    def no_such(self, p=0, *kinds):
        return p > 1 or any(kind >= len(self.weights) for kind in kinds)

    def had(self, p):
        return {kind for kind, count in enumerate(self.counts[p]) if count}

    def begin(self):
        self.weights, self.counts, self.packets = [], ([], []), 0
        return [0]

    def kind(self, w):
        if w not in range(1, 21):
            return [-22]
        if len(self.weights) == 6:
            return [-28]
        self.weights.append(w)
        self.counts[0].append(0)
        self.counts[1].append(0)
        return [len(self.weights) - 1]

    def got(self, p, i):
        if self.no_such(p, i):
            return [-2]
        if self.counts[p][i] == 100:
            return [-28]
        self.counts[p][i] += 1
        return [self.counts[p][i]]

    def give(self, p, i):
        if self.no_such(p, i):
            return [-2]
        if self.counts[p][i] == 0:
            return [-12]
        if self.counts[1 - p][i] == 100:
            return [-28]
        self.counts[p][i] -= 1
        self.counts[1 - p][i] += 1
        return [self.counts[p][i]]

    def packet(self, p, a, b, c):
        if self.no_such(p, a, b, c):
            return [-2]
        if max(self.counts[p][kind] for kind in (a, b, c)) >= 98:
            return [-28]
        for kind in (a, b, c):
            self.counts[p][kind] += 1
        self.packets += 1
        return [self.counts[p].count(0)]

    def serving(self):
        one, other = self.counts
        numbers = range(len(self.weights))
        return [(i, j) for i in numbers for j in numbers
                if one[i] > 1 and other[i] == 0 and other[j] > 1 and one[j] == 0]

    def swap(self, i, j):
        if self.no_such(0, i, j):
            return [-2]
        if (i, j) not in self.serving():
            return [-33]
        self.give(0, i)
        self.give(1, j)
        return [len(self.serving())]

    def swaps(self):
        return [len(self.serving())] + [kind for swap in self.serving() for kind in swap]

    def most(self):
        kept = (list(self.counts[0]), list(self.counts[1]))
        made = 0
        while self.serving():
            self.swap(*self.serving()[0])
            made += 1
        self.counts = kept
        return [made]

    def fairest(self):
        if not self.serving():
            return [-33]
        return list(min(self.serving(), key=lambda swap: (max(counting.mean(self.weights, self.had(0) | {swap[1]}),
                                                              counting.mean(self.weights, self.had(1) | {swap[0]})), swap)))

    def sells(self, p, i):
        if self.no_such(p, i):
            return [-2]
        return [int(self.counts[p][i] >= 2 and self.counts[1 - p][i] == 0)]

    def mean(self, p):
        return [-2] if self.no_such(p) else counting.told(counting.mean(self.weights, self.had(p)))

    def meanboth(self):
        return counting.told(counting.mean(self.weights, self.had(0) | self.had(1)))

    def allby(self, p, n):
        if self.no_such(p):
            return [-2]
        if n > 20:
            return [-22]
        return counting.told(counting.all_by(self.weights, self.had(p), n)) if self.weights else [-6]

    def half(self, p):
        if self.no_such(p):
            return [-2]
        return [counting.half(self.weights, self.had(p))] if self.weights else [-6]

    def worth(self, p, i):
        if self.no_such(p, i):
            return [-2]
        return counting.told(counting.mean(self.weights, self.had(p)) - counting.mean(self.weights, self.had(p) | {i}))

    def ahead(self):
        one, other = [counting.mean(self.weights, self.had(p)) for p in (0, 1)]
        return [1 if one < other else 2 if other < one else 0]

    def fresh(self, p, n):
        if self.no_such(p):
            return [-2]
        if n > 12:
            return [-22]
        return counting.told(counting.fresh(self.weights, self.had(p), n)) if self.weights else [-6]

    def lacking(self, p):
        if self.no_such(p):
            return [-2]
        return [self.counts[p].count(0)] + [kind for kind, count in enumerate(self.counts[p]) if count == 0]

    def doubles(self, p):
        return [-2] if self.no_such(p) else [sum(self.counts[p]) - len(self.had(p))]

    def bought(self):
        return [self.packets]

    def told(self, p):
        return [-2] if self.no_such(p) else [len(self.weights)] + self.counts[p]


FORMS = {
    "begin": "", "kind": "w", "got": "pi", "give": "pi", "swap": "ii", "packet": "piii", "mean": "p", "meanboth": "",
    "allby": "pn", "half": "p", "swaps": "", "fairest": "", "most": "", "sells": "pi", "worth": "pi", "lacking": "p",
    "doubles": "p", "ahead": "", "fresh": "pn", "bought": "", "told": "p",
}
OFTEN = ("kind",) * 3 + ("got",) * 12 + ("give",) * 3 + ("packet",) * 2 + ("swap",) * 8


def chosen(source, form):
    given = []
    for sort in form:
        usual = {"w": range(0, 22), "p": (0, 1), "i": range(6), "n": range(22)}[sort]
        odd = {"w": (21, GREATEST), "p": (2, GREATEST), "i": (6, GREATEST), "n": (21, GREATEST)}[sort]
        given.append(source.choice(odd if source.random() < 0.02 else usual))
    return given


class Walk(unittest.TestCase):
    def test_sessions(self):
        source = random.Random(60)
        names = [name for name in FORMS if name != "begin"]
        for session in range(150):
            calls = [("begin",)] if session % 10 else []
            calls += [("kind", source.choice((1, 1, 2, 5, 19, 20))) for kind in range(session % 7)]
            while len(calls) < 120:
                name = "begin" if source.random() < 0.005 else source.choice(OFTEN if source.random() < 0.5 else names)
                calls.append((name, *chosen(source, FORMS[name])))
            plain = Plain()
            expected = [plain.answer(*call) for call in calls]
            found = taken_apart(answers(laid(calls)))
            self.assertEqual(len(found), 120)
            for place, call in enumerate(calls):
                self.assertEqual(found[place], expected[place], (session, place, call, calls[:place]))


if __name__ == "__main__":
    unittest.main()
