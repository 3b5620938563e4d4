"""Long sessions of calls in any order, held against a plain telling of the document."""

import random
import unittest

from albumwhole.album import answers
from asking import GREATEST, NUMBERS, laid, taken_apart
from plain import Plain

# For each call the sorts of its arguments, as USUAL and ODD tell them.
FORMS = {
    "begin": "", "kind": "w", "got": "pi", "give": "pi", "swap": "ii", "packet": "piii", "mean": "p", "meanboth": "",
    "allby": "pn", "half": "p", "swaps": "", "fairest": "", "most": "", "sells": "pi", "worth": "pi", "lacking": "p",
    "doubles": "p", "ahead": "", "fresh": "pn", "bought": "", "told": "p",
    "different": "s", "alike": "s", "pairs": "s", "alikehalf": "", "first": "s", "meanfirst": "", "evendifferent": "s",
    "three": "s", "products": "s", "squares": "", "with_more": "ws", "chance": "i", "would": "iis",
    "justkinds": "sk", "allnumbers": "s", "meankinds": "s", "adds": "s", "likeliest": "s", "seen": "is", "evenkinds": "s",
    "both": "iis", "needed": "ab", "wouldkinds": "iis", "mostkinds": "s",
    "urnchance": "guuc", "urnrow": "guukcccccc", "urncounts": "guukkss", "urnjust": "guuckk", "urnall": "guuck",
    "urntwo": "guucc", "urnmean": "guucf", "urnthen": "guucf", "urnlikeliest": "guuck", "urnone": "guuk",
    "boxjust": "mrrk", "boxall": "mrr", "boxlikeliest": "mrr", "boxmean": "mrr", "boxspread": "mrr", "boxatleast": "mrrk",
    "boxneeded": "mrkab", "boxkthat": "mrkr", "boxkthmean": "mrk", "boxswapped": "mrrk", "boxguess": "mrkk", "boxcertain": "mrk",
}
USUAL = {
    "w": range(0, 22), "p": (0, 1), "i": range(6), "n": range(22), "s": range(14), "k": range(9), "a": range(12),
    "b": range(0, 13), "g": range(6), "u": range(11), "c": (0, 1), "f": range(1001), "m": range(1, 25), "r": range(14),
}
ODD = {
    "w": (21,), "p": (2,), "i": (6,), "n": (21,), "s": (11, 13), "k": (9,), "a": (100, 101, 1000), "b": (0, 100, 101, 1000, 1001),
    "g": (6,), "u": (0, 0, 11), "c": (2,), "f": (1001,), "m": (0, 1, 24, 25), "r": (0, 24, 25),
}
OFTEN = ("kind",) * 3 + ("got",) * 12 + ("give",) * 3 + ("packet",) * 2 + ("swap",) * 8


def chosen(source, form):
    given = []
    for sort in form:
        odd = ODD[sort] + (GREATEST,)
        given.append(source.choice(odd if source.random() < 0.03 else USUAL[sort]))
    return given


def call_of(source, name):
    return (name, *chosen(source, FORMS[name]))


def beginning(source, session):
    calls = [("begin",)] if session % 10 else []
    return calls + [("kind", source.choice((1, 1, 2, 5, 19, 20))) for kind in range(session % 7)]


class Walk(unittest.TestCase):
    def hold(self, session, calls):
        self.assertEqual(len(calls), 120)
        plain = Plain()
        expected = [plain.answer(*call) for call in calls]
        handed = laid(calls)
        self.assertLessEqual(len(handed), 1500)
        kept = list(handed)
        told = answers(handed)
        self.assertEqual(handed, kept)
        found = taken_apart(told)
        self.assertEqual(len(found), 120)
        for place, call in enumerate(calls):
            self.assertEqual(found[place], expected[place], (session, place, call, calls[:place]))
        self.assertEqual(answers(handed), told)
        self.assertEqual(handed, kept)

    def test_forms_name_every_call(self):
        self.assertEqual(list(FORMS), list(NUMBERS))

    def test_sessions_of_two_collectors(self):
        source = random.Random(60)
        names = [name for name in FORMS if 0 < NUMBERS[name] < 21]
        for session in range(150):
            calls = beginning(source, session)
            while len(calls) < 120:
                name = "begin" if source.random() < 0.005 else source.choice(OFTEN if source.random() < 0.5 else names)
                calls.append(call_of(source, name))
            self.hold(session, calls)

    def test_sessions_of_all_calls(self):
        source = random.Random(67)
        others = [name for name in FORMS if name != "begin"]
        for session in range(100):
            ahead = beginning(source, session)
            # In every other session what is asked behind the begin that comes again is asked of kinds, too.
            again = [("begin",)] + [("kind", weight) for weight in (3, 1, 20)[:3 * (session % 2)]]
            names = others + source.choices(others, k=120 - len(others) - len(ahead) - len(again))
            source.shuffle(names)
            calls = [call_of(source, name) for name in names]
            place = source.randrange(len(calls))
            self.hold(session, ahead + calls[:place] + again + calls[place:])

    def test_sessions_of_calls_in_a_row(self):
        source = random.Random(66)
        for session in range(10):
            calls = [call_of(source, name) for name in FORMS] + [call_of(source, name) for name in list(FORMS)[:53]]
            self.hold(session, calls)
            self.hold(session, list(reversed(calls)))


if __name__ == "__main__":
    unittest.main()
