"""What holds for all eleven calls: what they take and give back, and that nothing is kept between them."""

import inspect
import random
import unittest

from flaglockerdesk import locker
from tests import drawn
from tests.cases import Calls
from tests.model import TELLS_ALL
from tests.texts import FULL, GREATEST, LARGEST, NO_LOCKERS, expected, grown, raw, signs, text

PARAMETERS = {
    "judge": ["t"], "size": ["t"], "kind": ["i", "t"], "name": ["i", "t"], "find": ["t", "n"],
    "seen": ["i", "light", "side", "t"], "reads": ["light", "side", "shape", "cells", "look", "t"],
    "alike": ["light", "side", "t"], "least": ["i", "light", "side", "made", "t"],
    "lookin": ["look", "light"], "lookbehind": ["look"],
}
WITH_TEXT = [called for called, parameters in PARAMETERS.items() if "t" in parameters]

WITHIN = {"i": 0, "light": TELLS_ALL, "side": 0, "shape": 3, "cells": 65535, "made": 1, "look": 0, "n": raw("A")}
OUTSIDE = {"i": GREATEST, "light": GREATEST, "side": GREATEST, "shape": GREATEST, "cells": GREATEST,
           "made": GREATEST, "look": GREATEST, "n": []}


def handed(called, t, others):
    return [t if parameter == "t" else others[parameter] for parameter in PARAMETERS[called]]


def drawn_values(draw, count):
    """Something for each parameter but the text, mostly within its bounds, for a locker of so many kinds."""
    names = (raw("A"), raw("B7"), raw("N0"), raw("N2"), raw("S47"), [], [32])
    return {"i": draw.choice((0, 1, count - 1, count, draw.randrange(count))), "light": drawn.light(draw),
            "side": draw.choice((0, 1, 2, 2, 3)), "shape": draw.choice((0, 1, 2, 3, 3, 3, 4)),
            "cells": draw.choice((drawn.cells(draw), drawn.cells(draw), 65536)), "made": draw.choice((0, 1, 1, 2)),
            "look": draw.choice((0, GREATEST, draw.getrandbits(64))), "n": draw.choice(names)}


class TheInterface(unittest.TestCase):
    def test_names_and_arguments_in_their_order(self):
        for called, parameters in PARAMETERS.items():
            signature = inspect.signature(getattr(locker, called))
            self.assertEqual(list(signature.parameters), parameters)
            for parameter in signature.parameters.values():
                self.assertIs(parameter.default, inspect.Parameter.empty)


class Texts(Calls):
    def called(self, wanted, t):
        """All calls that take a text answer this, whatever else is handed in; judge with its fault."""
        for called in WITH_TEXT:
            told = expected(t)[0] if called == "judge" else wanted
            for others in (WITHIN, OUTSIDE):
                self.answers(told, getattr(locker, called), *handed(called, t, others))

    def test_65536_bytes(self):
        for start in ([], text(*FULL), LARGEST, text("locker L", *signs(49))):
            for byte in (0, 10, 32, 65):
                self.called([-6], start + [byte] * (65536 - len(start)))

    def test_more_bytes(self):
        for length in (65537, 65538, 65999, 66000):
            self.called([-2], grown(text(*FULL), length))
            self.called([-2], [0] * length)

    def test_each_number_of_bytes_that_is_too_many(self):
        for length in range(65537, 66001):
            t = grown(LARGEST, length)
            for called in WITH_TEXT:
                self.assertEqual(getattr(locker, called)(*handed(called, t, WITHIN)), [-2])

    def test_texts_with_a_fault(self):
        faulty = [text(*FULL)[:place] for place in range(len(text(*FULL)))]
        faulty += [text(*FULL)[:place] + [64] + text(*FULL)[place:] for place in range(len(text(*FULL)) + 1)]
        for t in (*NO_LOCKERS, text("locker L", *signs(48), "sign X 1 square " + "0" * 16), *faulty[::5]):
            if expected(t)[0] != [0]:
                self.called([-6], t)

    def test_a_text_that_is_a_lockers(self):
        for called in WITH_TEXT:
            self.assertGreaterEqual(self.answer(getattr(locker, called), *handed(called, text(*FULL), WITHIN))[0], 0)


class NothingIsKept(Calls):
    def drawn_calls(self, draw, count):
        for turn in range(count):
            t, kinds = drawn.locker(draw)
            t, kinds = draw.choice(((t, len(kinds)), (t, len(kinds)), (text(*FULL), 6), (LARGEST, 53), (t[:-1], 1)))
            values = drawn_values(draw, kinds)
            for called in PARAMETERS:
                yield called, handed(called, t, values)

    def test_whole_numbers_unchanged_lists_and_the_same_answer_again(self):
        told = {}
        for called, values in self.drawn_calls(random.Random(92), 150):
            answer = self.answer(getattr(locker, called), *values)
            if answer[0] < 0:
                self.assertEqual(len(answer), 3 if called == "judge" else 1)
            told.setdefault(called, set()).add(min(answer[0], 0))
        self.assertEqual(told["judge"], {0, -6})
        self.assertEqual(told["size"], {0, -6})
        self.assertEqual(told["kind"], {0, -6, -4})
        self.assertEqual(told["name"], {0, -6, -4, -5})
        self.assertEqual(told["find"], {0, -6, -1, -5})
        self.assertEqual(told["seen"], {0, -6, -1, -4})
        self.assertEqual(told["reads"], {0, -6, -1})
        self.assertEqual(told["alike"], {0, -6, -1})
        self.assertEqual(told["least"], {0, -6, -1, -4, -5})
        self.assertEqual(told["lookin"], {0})
        self.assertEqual(told["lookbehind"], {0})

    def test_the_same_answer_with_other_calls_between(self):
        draw = random.Random(93)
        calls = list(self.drawn_calls(draw, 60))
        first = [getattr(locker, called)(*values) for called, values in calls]
        for turn in range(2):
            order = list(range(len(calls)))
            draw.shuffle(order)
            for place in order:
                called, values = calls[place]
                self.assertEqual(getattr(locker, called)(*values), first[place])

    def test_what_is_given_back_may_be_changed(self):
        for called in PARAMETERS:
            values = handed(called, text(*FULL), WITHIN)
            told = getattr(locker, called)(*values)
            kept = list(told)
            told.clear()
            self.assertEqual(getattr(locker, called)(*values), kept)


if __name__ == "__main__":
    unittest.main()
