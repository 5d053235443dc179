"""What is handed in, what is given back, and what is not touched."""

import builtins
import inspect
import time
import unittest
from unittest import mock

from droughtshares.sharing import answers
from tests.helper import (
    CLAIM, CLAIMS, CORE, COUNTS, IFCLAIM, IFWATER, LEAST, LEAVE, PRINT, PROOF, RULE, RULES, RULES_OF, SHARE, SHARES,
    SPLIT, WATER, run, sharing, sure,
)

TEXT = "person a claims 10\nperson b claims 30\ngroup g by even of a b\n"
CALLS = (sharing(TEXT) + [WATER, 15, SHARES, RULE, 2, 2, PROOF, 2, CLAIM, 0, 3, CLAIMS] + sure(2) + sure(2, 0)
         + sharing("x") + [WATER, -1]
         + [WATER, 11, CORE, 2, LEAVE, 2, 0, SPLIT, 2, 1, 7, IFWATER, 1, 32, IFCLAIM, 0, 30, RULES_OF, 2, LEAST, 1, 1]
         + [PRINT, COUNTS, SHARE, 1])
PRINTED = list(b"person a claims 3\nperson b claims 30\ngroup g by losses of a b\n")
GIVEN = [3, 0, 3, 40, 1, 0, 7, 0, 15, 2, 15, 2, 15, 1, 1, 0, 4, 0, 1, 15, 1, 1, 0, 4, 0, 3, 30, 33, 5, 0, 0, 1, 0, 1,
         5, 0, 0, 1, 0, 1, 2, 1, 1, 1, -1,
         1, 0, 4, 0, 4, 0, 1, 5, 0, 1, 1, 11, 1, 3, 0, 11, 1, 3, 0, 59, 2, 3, 0, 11, 2,
         25, 0, 1, 1, 10, 1, 3, 1, 8, 1, 0, 1, 11, 1, 3, 2, 19, 2, 3, 2, 19, 2, 3, 1, 8, 1, 2, 0, 1]
GIVEN += [2 + len(PRINTED), 0, len(PRINTED)] + PRINTED + [5, 0, 3, 2, 33, 11, 3, 0, 11, 1]


class Untouched(list):
    """A list that can't be changed."""

    def refuse(self, *args, **kwargs):
        raise AssertionError("changed")

    __setitem__ = __delitem__ = __iadd__ = __imul__ = refuse
    append = extend = insert = pop = remove = clear = sort = reverse = refuse


class Interface(unittest.TestCase):
    def test_one_list_in_one_list_out(self):
        self.assertEqual(list(inspect.signature(answers).parameters), ["calls"])
        given = answers(CALLS)
        self.assertIs(type(given), list)
        self.assertEqual({type(number) for number in given}, {int})
        self.assertEqual(given, GIVEN)

    def test_what_is_handed_in_is_not_changed(self):
        handed = Untouched(CALLS)
        self.assertEqual(answers(handed), GIVEN)
        self.assertEqual(handed, CALLS)

    def test_nothing_is_kept(self):
        self.assertEqual(answers(CALLS), GIVEN)
        self.assertEqual(answers([SHARES]), [1, -9])
        self.assertEqual(answers(CALLS), GIVEN)

    def test_what_is_given_back_is_new_each_time(self):
        answers(CALLS).clear()
        self.assertEqual(answers(CALLS), GIVEN)

    def test_no_printing_reading_or_importing(self):
        def refuse(*args, **kwargs):
            raise AssertionError("not allowed")

        with mock.patch.multiple(builtins, print=refuse, open=refuse, input=refuse, __import__=refuse):
            given = answers(CALLS)
        self.assertEqual(given, GIVEN)


class Size(unittest.TestCase):
    def nested(self, rule):
        """A person in each of 15 groups in groups: 30 parties."""
        lines = ["person a claims 999983 weighs 97\n", f"group ga by {rule} of a weighs 89\n"]
        inner = "ga"
        for place in range(1, 15):
            name = "abcdefghijklmno"[place]
            lines.append(f"person {name} claims {999999 - place * 61} weighs {100 - place}\n")
            lines.append(f"group g{name} by {rule} of {name} {inner} weighs {place + 3}\n")
            inner = "g" + name
        return "".join(lines)

    def wide(self, rule):
        """Three groups of 8 persons, each with fractions to share: 28 parties."""
        lines = []
        for top in "abc":
            names = [top + letter for letter in "acdegijk"]
            for place, name in enumerate(names):
                lines.append(f"person {name} claims {1000000 - place * 7919} weighs {place + 1}\n")
            lines.append(f"group {top} by {rule} of {' '.join(names)}\n")
        return "".join(lines) + "group z by even of a b c\n"

    def test_deepest(self):
        lines = ["person aa claims 9\n"]
        name = "aa"
        for place in range(29):
            outer = "bcdefghijklmnopqrstuvwxyz"[place % 25] + "bcdefghijklmnopqrstuvwxyz"[place // 25]
            lines.append(f"group {outer} by {RULES[place % 6]} of {name}\n")
            name = outer
        given = run(sharing("".join(lines)), [WATER, 7], [SHARES])
        self.assertEqual(given, [[0, 30, 9], [0], [0] + [7, 1] * 30])

    def test_most_calls_in_a_short_time(self):
        begun = time.monotonic()
        for rule in RULES:
            for text, parties in ((self.nested(rule), 30), (self.wide(rule), 28)):
                given = run(sharing(text), [WATER, 7000001], *[[SHARES]] * 118)
                self.assertEqual(len(given), 120)
                self.assertEqual(given[0][:2], [0, parties])
                self.assertEqual(given[2], given[-1])
        self.assertLess(time.monotonic() - begun, 60)

    def test_longest_text_many_times(self):
        text = "\n" * (2000 - len(TEXT)) + TEXT
        self.assertEqual(len(text), 2000)
        self.assertEqual(run(*[sharing(text)] * 8), [[0, 3, 40]] * 8)


if __name__ == "__main__":
    unittest.main()
