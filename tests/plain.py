"""The document told plainly, call by call, each refusal in the order of its words."""

from fractions import Fraction
from functools import lru_cache
from itertools import permutations
from math import prod

import counting


@lru_cache(maxsize=None)
def different(weights, draws):
    return Fraction(sum(prod(row) for row in permutations(weights, draws)), sum(weights) ** draws)


@lru_cache(maxsize=None)
def three(weights, draws):
    """Draw by draw how often each kind has come, till one comes a third time."""
    now = {(0,) * len(weights): 1}
    for step in range(draws):
        behind = {}
        for counts, heavy in now.items():
            for kind, weight in enumerate(weights):
                if counts[kind] < 2:
                    more = counts[:kind] + (counts[kind] + 1,) + counts[kind + 1:]
                    behind[more] = behind.get(more, 0) + heavy * weight
        now = behind
    return 1 - Fraction(sum(now.values()), sum(weights) ** draws)


@lru_cache(maxsize=None)
def kinds_rows(weights, draws):
    return tuple(int(number) for number in counting.kinds_rows(weights, draws))


def mean_kinds(weights, draws):
    return len(weights) - sum(Fraction(sum(weights) - weight, sum(weights)) ** draws for weight in weights)


def level(weights, i, j):
    half = (weights[i] + weights[j]) // 2
    return tuple(half if kind in (i, j) else weight for kind, weight in enumerate(weights))


class Own:
    """The whole's own calls."""

    def __init__(self):
        self.weights = None

    def no_such(self, p=0, *kinds):
        return p > 1 or any(kind >= len(self.weights) for kind in kinds)

    def had(self, p):
        return {kind for kind, count in enumerate(self.counts[p]) if count}

    def begin(self):
        self.weights, self.counts, self.packets = [], ([], []), 0
        return [0]

    def kind(self, w):
        if w not in range(1, 21):
            return [-22]
        if len(self.weights) == 6:
            return [-28]
        self.weights.append(w)
        self.counts[0].append(0)
        self.counts[1].append(0)
        return [len(self.weights) - 1]

    def got(self, p, i):
        if self.no_such(p, i):
            return [-2]
        if self.counts[p][i] == 100:
            return [-28]
        self.counts[p][i] += 1
        return [self.counts[p][i]]

    def give(self, p, i):
        if self.no_such(p, i):
            return [-2]
        if self.counts[p][i] == 0:
            return [-12]
        if self.counts[1 - p][i] == 100:
            return [-28]
        self.counts[p][i] -= 1
        self.counts[1 - p][i] += 1
        return [self.counts[p][i]]

    def packet(self, p, a, b, c):
        if self.no_such(p, a, b, c):
            return [-2]
        if max(self.counts[p][kind] for kind in (a, b, c)) >= 98:
            return [-28]
        for kind in (a, b, c):
            self.counts[p][kind] += 1
        self.packets += 1
        return [self.counts[p].count(0)]

    def serving(self):
        one, other = self.counts
        numbers = range(len(self.weights))
        return [(i, j) for i in numbers for j in numbers
                if one[i] > 1 and other[i] == 0 and other[j] > 1 and one[j] == 0]

    def swap(self, i, j):
        if self.no_such(0, i, j):
            return [-2]
        if (i, j) not in self.serving():
            return [-33]
        self.give(0, i)
        self.give(1, j)
        return [len(self.serving())]

    def swaps(self):
        return [len(self.serving())] + [kind for swap in self.serving() for kind in swap]

    def most(self):
        kept = (list(self.counts[0]), list(self.counts[1]))
        made = 0
        while self.serving():
            self.swap(*self.serving()[0])
            made += 1
        self.counts = kept
        return [made]

    def fairest(self):
        if not self.serving():
            return [-33]
        return list(min(self.serving(), key=lambda swap: (max(counting.mean(self.weights, self.had(0) | {swap[1]}),
                                                              counting.mean(self.weights, self.had(1) | {swap[0]})), swap)))

    def sells(self, p, i):
        if self.no_such(p, i):
            return [-2]
        return [int(self.counts[p][i] >= 2 and self.counts[1 - p][i] == 0)]

    def mean(self, p):
        return [-2] if self.no_such(p) else counting.told(counting.mean(self.weights, self.had(p)))

    def meanboth(self):
        return counting.told(counting.mean(self.weights, self.had(0) | self.had(1)))

    def allby(self, p, n):
        if self.no_such(p):
            return [-2]
        if n > 20:
            return [-22]
        return counting.told(counting.all_by(self.weights, self.had(p), n)) if self.weights else [-6]

    def half(self, p):
        if self.no_such(p):
            return [-2]
        return [counting.half(self.weights, self.had(p))] if self.weights else [-6]

    def worth(self, p, i):
        if self.no_such(p, i):
            return [-2]
        return counting.told(counting.mean(self.weights, self.had(p)) - counting.mean(self.weights, self.had(p) | {i}))

    def ahead(self):
        one, other = [counting.mean(self.weights, self.had(p)) for p in (0, 1)]
        return [1 if one < other else 2 if other < one else 0]

    def fresh(self, p, n):
        if self.no_such(p):
            return [-2]
        if n > 12:
            return [-22]
        return counting.told(counting.fresh(self.weights, self.had(p), n)) if self.weights else [-6]

    def lacking(self, p):
        if self.no_such(p):
            return [-2]
        return [self.counts[p].count(0)] + [kind for kind, count in enumerate(self.counts[p]) if count == 0]

    def doubles(self, p):
        return [-2] if self.no_such(p) else [sum(self.counts[p]) - len(self.had(p))]

    def bought(self):
        return [self.packets]

    def told(self, p):
        return [-2] if self.no_such(p) else [len(self.weights)] + self.counts[p]


class Alike:
    def refused(self, *wrong):
        """The first refusal that is due, of -6 and those that are told, each with whether it is due."""
        due = [number for number, is_due in ((-6, not self.weights),) + wrong if is_due]
        return due[0] if due else None

    def told_of(self, value, *wrong):
        """A number, or what is told as a fraction, if nothing is refused."""
        number = self.refused(*wrong)
        return counting.told(value(tuple(self.weights))) if number is None else [number]

    def different(self, n):
        return self.told_of(lambda weights: different(weights, n), (-22, n > 10))

    def alike(self, n):
        return self.told_of(lambda weights: 1 - different(weights, n), (-22, n > 10))

    def pairs(self, n):
        return self.told_of(lambda weights: n * (n - 1) // 2 * (1 - different(weights, 2)), (-22, n > 10))

    def alikehalf(self):
        if not self.weights:
            return [-6]
        return [next(n for n in range(8) if different(tuple(self.weights), n) <= Fraction(1, 2))]

    def first(self, n):
        return self.told_of(lambda weights: different(weights, n - 1) - different(weights, n), (-22, n > 10 or n == 0))

    def meanfirst(self):
        return self.told_of(lambda weights: sum(n * (different(weights, n - 1) - different(weights, n)) for n in range(1, 8)))

    def evendifferent(self, n):
        return self.told_of(lambda weights: different((1,) * len(weights), n), (-22, n > 10))

    def three(self, n):
        return self.told_of(lambda weights: three(weights, n), (-22, n > 10))

    def products(self, n):
        number = self.refused((-22, n > 10))
        return [0, counting.products(self.weights, n)] if number is None else [number]

    def squares(self):
        return [sum(weight ** 2 for weight in self.weights)] if self.weights else [-6]

    def with_more(self, w, n):
        if w not in range(1, 21) or n > 10:
            return [-22]
        if len(self.weights) == 6:
            return [-28]
        return counting.told(different(tuple(self.weights) + (w,), n))

    def chance(self, i):
        return self.told_of(lambda weights: Fraction(weights[i], sum(weights)), (-2, self.no_such(0, i)))

    def is_odd(self, i, j):
        return not self.no_such(0, i, j) and (self.weights[i] + self.weights[j]) % 2 == 1

    def would(self, i, j, n):
        return self.told_of(lambda weights: different(level(weights, i, j), n), (-2, self.no_such(0, i, j)), (-22, n > 10 or i == j),
                            (-33, self.is_odd(i, j)))


class ManyKinds:
    def justkinds(self, n, k):
        return self.told_of(lambda weights: Fraction(kinds_rows(weights, n)[k], sum(weights) ** n) if k <= len(weights) else 0, (-22, n > 12))

    def allnumbers(self, n):
        number = self.refused((-22, n > 12))
        return [len(self.weights) + 1, *kinds_rows(tuple(self.weights), n)] if number is None else [number]

    def meankinds(self, n):
        return self.told_of(lambda weights: mean_kinds(weights, n), (-22, n > 12))

    def adds(self, n):
        return self.told_of(lambda weights: mean_kinds(weights, n + 1) - mean_kinds(weights, n), (-22, n > 12))

    def likeliest(self, n):
        number = self.refused((-22, n > 12))
        return [counting.first_greatest(kinds_rows(tuple(self.weights), n))] if number is None else [number]

    def seen(self, i, n):
        return self.told_of(lambda weights: 1 - (1 - Fraction(weights[i], sum(weights))) ** n, (-2, self.no_such(0, i)), (-22, n > 12))

    def evenkinds(self, n):
        return self.told_of(lambda weights: mean_kinds((1,) * len(weights), n), (-22, n > 12))

    def both(self, i, j, n):
        return self.told_of(lambda weights: sum(likely for had, likely in counting.had_sets(weights, (), n).items() if {i, j} <= had),
                            (-2, self.no_such(0, i, j)), (-22, n > 12 or i == j))

    def needed(self, a, b):
        number = self.refused((-22, b not in range(1, 101) or a > 100))
        if number is not None:
            return [number]
        many, total = len(self.weights), sum(self.weights)
        for n in range(400):
            if (many * total ** n - sum((total - weight) ** n for weight in self.weights)) * b >= a * total ** n:
                return [n]
        return [-33]

    def wouldkinds(self, i, j, n):
        return self.told_of(lambda weights: mean_kinds(level(weights, i, j), n), (-2, self.no_such(0, i, j)), (-22, n > 12 or i == j),
                            (-33, self.is_odd(i, j)))

    def mostkinds(self, n):
        return [min(n, len(self.weights))] if self.weights else [-6]


class Urn:
    def of_urn(self, urn, draws, value, *wrong):
        """What value tells over all rows of draws, if nothing is refused."""
        g, u, v = urn
        refusals = ((-22, g > 5 or u > 10 or v > 10), (-6, u + v == 0)) + wrong
        for number, is_due in refusals:
            if is_due:
                return [number]
        return value(list(counting.urn_rows(g, (u, v), draws)))

    def likely(self, wanted):
        def value(rows):
            return counting.told(Fraction(sum(heavy for row, heavy in rows if wanted(row)), sum(heavy for row, heavy in rows)))
        return value

    def heavy(self, i):
        def value(rows):
            many = len(rows[0][0])
            return [sum(heavy for row, heavy in rows if row.count(i) == k) for k in range(many + 1)]
        return value

    def urnchance(self, g, u, v, i):
        return self.of_urn((g, u, v), 1, self.likely(lambda row: row == (i,)), (-2, i > 1))

    def urnrow(self, g, u, v, n, *colours):
        return self.of_urn((g, u, v), n, self.likely(lambda row: row == colours[:n]), (-22, n > 6 or any(colour > 1 for colour in colours[:n])))

    def urncounts(self, g, u, v, a, b, c, d):
        return self.of_urn((g, u, v), a + b, self.likely(lambda row: row.count(0) == a), (-22, a + b > 8))

    def urnjust(self, g, u, v, i, n, k):
        return self.of_urn((g, u, v), n, self.likely(lambda row: row.count(i) == k), (-2, i > 1), (-22, n > 8))

    def urnall(self, g, u, v, i, n):
        return self.of_urn((g, u, v), n, lambda rows: [n + 1] + self.heavy(i)(rows), (-2, i > 1), (-22, n > 8))

    def urntwo(self, g, u, v, i, j):
        return self.of_urn((g, u, v), 2, self.likely(lambda row: row == (i, j)), (-2, i > 1 or j > 1))

    def urnmean(self, g, u, v, i, n):
        return self.of_urn((g, u, v), 0, lambda rows: counting.told(n * Fraction((u, v)[i], u + v)), (-2, i > 1), (-22, n > 1000))

    def urnthen(self, g, u, v, i, n):
        return self.of_urn((g, u, v), 0, lambda rows: counting.told((u, v)[i] + g * n * Fraction((u, v)[i], u + v)), (-2, i > 1), (-22, n > 1000))

    def urnlikeliest(self, g, u, v, i, n):
        return self.of_urn((g, u, v), n, lambda rows: [counting.first_greatest(self.heavy(i)(rows))], (-2, i > 1), (-22, n > 8))

    def urnone(self, g, u, v, n):
        return self.of_urn((g, u, v), n, self.likely(lambda row: len(set(row)) < 2), (-22, n > 8))


class Box:
    def of_box(self, m, r, value, *wrong):
        for number, is_due in ((-22, m not in range(1, 25) or r > m),) + wrong:
            if is_due:
                return [number]
        return value()

    def box_fraction(self, m, r, value, *wrong):
        return self.of_box(m, r, lambda: counting.told(value()), *wrong)

    def chances(self, m, r, n):
        likely = counting.box_likely(m, r, n)
        return [likely.get(k, 0) for k in range(n + 1)]

    def sets(self, m, r, n):
        chances = self.chances(m, r, n)
        every_set = prod(range(m - n + 1, m + 1)) // prod(range(1, n + 1))
        return [int(chance * every_set) for chance in chances]

    def boxjust(self, m, r, n, k):
        return self.box_fraction(m, r, lambda: counting.box_likely(m, r, n).get(k, 0), (-22, n > m))

    def boxall(self, m, r, n):
        return self.of_box(m, r, lambda: [n + 1] + self.sets(m, r, n), (-22, n > m))

    def boxlikeliest(self, m, r, n):
        return self.of_box(m, r, lambda: [counting.first_greatest(self.chances(m, r, n))], (-22, n > m))

    def average(self, m, r, n, value):
        return sum(value(k) * chance for k, chance in enumerate(self.chances(m, r, n)))

    def boxmean(self, m, r, n):
        return self.box_fraction(m, r, lambda: self.average(m, r, n, lambda k: k), (-22, n > m))

    def boxspread(self, m, r, n):
        return self.box_fraction(m, r, lambda: self.average(m, r, n, lambda k: (k - n * Fraction(r, m)) ** 2), (-22, n > m), (-6, m < 2))

    def boxatleast(self, m, r, n, k):
        return self.box_fraction(m, r, lambda: sum(self.chances(m, r, n)[k:]), (-22, n > m))

    def boxneeded(self, m, r, k, a, c):
        def value():
            enough = [n for n in range(m + 1) if sum(self.chances(m, r, n)[k:]) >= Fraction(a, c)]
            return enough[:1] or [-33]
        return self.of_box(m, r, value, (-22, c not in range(1, 1001) or a > c))

    def boxkthat(self, m, r, k, n):
        return self.box_fraction(m, r, lambda: counting.box_kth_at(m, r, k, n), (-33, k == 0 or k > r), (-22, n == 0 or n > m))

    def boxkthmean(self, m, r, k):
        return self.box_fraction(m, r, lambda: sum(n * counting.box_kth_at(m, r, k, n) for n in range(1, m + 1)), (-33, k == 0 or k > r))

    def boxswapped(self, m, r, n, k):
        return self.box_fraction(m, r, lambda: counting.box_likely(m, n, r).get(k, 0), (-22, n > m))

    def boxguess(self, m, r, n, k):
        return self.of_box(m, r, lambda: [counting.first_greatest([counting.box_likely(m, guess, n).get(k, 0) for guess in range(m + 1)])],
                           (-22, n > m or k > n))

    def boxcertain(self, m, r, k):
        return self.of_box(m, r, lambda: [0 if k == 0 else m - r + k], (-33, k > r))


class Plain(Own, Alike, ManyKinds, Urn, Box):
    def answer(self, name, *given):
        if name != "begin" and self.weights is None:
            return [-11]
        return getattr(self, name)(*given)
