"""The calls, their refusals, and what changes by them."""

import unittest

from tests.helper import (
    CLAIM, CLAIMS, CORE, COUNTS, IFCLAIM, IFWATER, LEAST, LEAVE, PRINT, PROOF, RULE, RULES_OF, SHARE, SHARES, SPLIT,
    WATER, run, sharing, sure,
)

# a 0, b 1, f 2 (parts), c 3, root 4 (even, in the order f c)
TEXT = "person a claims 10\nperson b claims 30\ngroup f by parts of b a\nperson c claims 40\ngroup root by even of f c\n"
HUGE = 1000000000000000000
START = (sharing(TEXT), [WATER, 40])


def after(*calls):
    return run(*START, *calls)[len(START):]


class NoSharing(unittest.TestCase):
    def test_all_calls_but_sharing(self):
        for call in ([WATER, 1], [CLAIM, 0, 1], [RULE, 0, 1], [SHARES], [SHARE, 0], [CLAIMS], [PROOF, 0], sure(0),
                     [CORE, 0], [LEAVE, 1, 0], [SPLIT, 1, 0, 0], [IFWATER, 0, 0], [IFCLAIM, 0, 0], [RULES_OF, 0],
                     [LEAST, 0, 0], [PRINT], [COUNTS]):
            self.assertEqual(run(call), [[-9]], call)
            self.assertEqual(run(call, sharing("x"), call), [[-9], [1, 1], [-9]], call)

    def test_counts_before_the_others(self):
        for call in ([WATER, -1], [CLAIM, -1, -1], [RULE, HUGE, -HUGE], [SHARE, -HUGE], [PROOF, -1], sure(-1, 3, 3),
                     [CORE, -1], [LEAVE, -1, HUGE], [SPLIT, -1, -HUGE, -1], [IFWATER, -1, 30000001],
                     [IFCLAIM, -1, 1000001], [RULES_OF, HUGE], [LEAST, HUGE, -1]):
            self.assertEqual(run(call), [[-9]], call)

    def test_a_wrong_text_makes_none(self):
        self.assertEqual(run(sharing("x"), [SHARES], sharing(TEXT), [SHARE, 4]), [[1, 1], [-9], [0, 5, 80], [0, 0, 1]])


class Sharing(unittest.TestCase):
    def test_water_is_0_at_first(self):
        self.assertEqual(run(sharing(TEXT), [SHARES])[1], [0] + [0, 1] * 5)

    def test_a_second_in_place_of_the_first(self):
        given = after(sharing("person z claims 7"), [SHARES], [CLAIMS], [WATER, 3], [SHARES], [SHARE, 1])
        self.assertEqual(given, [[0, 1, 7], [0, 0, 1], [0, 7], [0], [0, 3, 1], [-1]])

    def test_the_same_again_is_as_told(self):
        given = after([CLAIM, 0, 99], [RULE, 4, 5], sharing(TEXT), [CLAIMS], [PROOF, 4])
        self.assertEqual(given, [[0], [0], [0, 5, 80], [0, 10, 30, 40, 40, 80], [0, 0, 0, 1]])

    def test_a_wrong_text_changes_nothing(self):
        changes = ([CLAIM, 0, 20], [RULE, 2, 5])
        asked = ([SHARES], [CLAIMS])
        good = after(*changes, *asked)
        for text, line in (("", 1), ("person z claims 7\nx", 2), ("person z claims 7\nperson y claims 8", 3)):
            given = after(*changes, sharing(text), *asked)
            self.assertEqual(given[2], [1, line])
            self.assertEqual(given[3:], good[2:])


class Water(unittest.TestCase):
    def test_range(self):
        self.assertEqual(after([WATER, 0], [SHARE, 4]), [[0], [0, 0, 1]])
        self.assertEqual(after([WATER, 30000000], [SHARE, 4]), [[0], [0, 80, 1]])
        for water in (-1, 30000001, HUGE, -HUGE):
            self.assertEqual(after([WATER, water], [SHARE, 4]), [[-1], [0, 40, 1]])

    def test_stays_where_claims_change(self):
        given = after([WATER, 70], [CLAIM, 3, 0], [SHARE, 4], [CLAIM, 3, 40], [SHARE, 4])
        self.assertEqual(given, [[0], [0], [0, 40, 1], [0], [0, 70, 1]])


class Claim(unittest.TestCase):
    def test_changes_the_groups_too(self):
        given = after([CLAIM, 1, 5], [CLAIMS], [SHARES])
        self.assertEqual(given, [[0], [0, 10, 5, 15, 40, 55], [0, 10, 1, 5, 1, 15, 1, 25, 1, 40, 1]])

    def test_range(self):
        self.assertEqual(after([CLAIM, 0, 0], [CLAIMS]), [[0], [0, 0, 30, 30, 40, 70]])
        self.assertEqual(after([CLAIM, 0, 1000000], [CLAIMS]), [[0], [0, 1000000, 30, 1000030, 40, 1000070]])
        for claim in (-1, 1000001, HUGE, -HUGE):
            self.assertEqual(after([CLAIM, 0, claim], [CLAIMS]), [[-1], [0, 10, 30, 40, 40, 80]])

    def test_only_persons(self):
        for number in (-1, 2, 4, 5, HUGE, -HUGE):
            self.assertEqual(after([CLAIM, number, 3], [CLAIMS]), [[-1], [0, 10, 30, 40, 40, 80]])


class Rule(unittest.TestCase):
    def test_each(self):
        shares = []
        for rule in range(6):
            given = after([WATER, 20], [RULE, 2, rule], [SHARE, 2], [SHARE, 1], [SHARE, 0])
            self.assertEqual(given[1:3], [[0], [0, 10, 1]])
            shares.append(given[3] + given[4][1:])
        self.assertEqual(shares, [
            [0, 15, 2, 5, 2], [0, 5, 1, 5, 1], [0, 10, 1, 0, 1], [0, 5, 1, 5, 1], [0, 5, 1, 5, 1], [0, 10, 1, 0, 1],
        ])

    def test_each_with_more_water(self):
        shares = []
        for rule in range(6):
            given = after([WATER, 64], [RULE, 2, rule], [SHARE, 2], [SHARE, 1], [SHARE, 0])
            self.assertEqual(given[1:3], [[0], [0, 32, 1]])
            shares.append(given[3] + given[4][1:])
        self.assertEqual(shares, [
            [0, 24, 1, 8, 1], [0, 22, 1, 10, 1], [0, 26, 1, 6, 1], [0, 26, 1, 6, 1], [0, 26, 1, 6, 1], [0, 30, 1, 2, 1],
        ])

    def test_range(self):
        for rule in (-1, 6, HUGE, -HUGE):
            self.assertEqual(after([RULE, 4, rule], [PROOF, 4]), [[-1], [0, 0, 20, 1]])

    def test_only_groups(self):
        for number in (-1, 0, 1, 3, 5, HUGE, -HUGE):
            self.assertEqual(after([RULE, number, 1], [SHARES]), [[-1], [0, 5, 1, 15, 1, 20, 1, 20, 1, 40, 1]])


class Shares(unittest.TestCase):
    def test_each_party(self):
        self.assertEqual(after([SHARES]), [[0, 5, 1, 15, 1, 20, 1, 20, 1, 40, 1]])
        self.assertEqual(after([WATER, 1], [SHARES])[1], [0, 1, 8, 3, 8, 1, 2, 1, 2, 1, 1])

    def test_one_party(self):
        given = after([WATER, 1], *[[SHARE, number] for number in range(5)])
        self.assertEqual(given[1:], [[0, 1, 8], [0, 3, 8], [0, 1, 2], [0, 1, 2], [0, 1, 1]])

    def test_only_parties(self):
        for number in (-1, 5, HUGE, -HUGE):
            self.assertEqual(after([SHARE, number]), [[-1]])

    def test_of_a_lone_person(self):
        self.assertEqual(run(sharing("person a claims 3"), [WATER, 2], [SHARES], [WATER, 4], [SHARES])[2::2],
                         [[0, 2, 1], [0, 3, 1]])


class Claims(unittest.TestCase):
    def test_each_party(self):
        self.assertEqual(after([CLAIMS]), [[0, 10, 30, 40, 40, 80]])


class Proof(unittest.TestCase):
    def test_kinds(self):
        given = after([PROOF, 4], [RULE, 4, 2], [PROOF, 4], [RULE, 4, 3], [PROOF, 4], [WATER, 41], [PROOF, 4])
        self.assertEqual(given[::2], [[0, 0, 20, 1], [0, 1, 20, 1], [0, 0, 20, 1], [0, 1, 39, 2]])

    def test_of_an_inner_group(self):
        self.assertEqual(after([RULE, 2, 1], [WATER, 50], [PROOF, 2])[-1], [0, 0, 15, 1])

    def test_other_rules(self):
        for rule in (0, 4, 5):
            self.assertEqual(after([RULE, 4, rule], [PROOF, 4]), [[0], [-4]])

    def test_only_groups(self):
        for number in (-1, 0, 3, 5, HUGE, -HUGE):
            self.assertEqual(after([PROOF, number]), [[-1]])

    def test_changes_nothing(self):
        self.assertEqual(after([PROOF, 2], [PROOF, 0], [SHARES]), [[-4], [-1], [0, 5, 1, 15, 1, 20, 1, 20, 1, 40, 1]])


class Sure(unittest.TestCase):
    def test_ordinary(self):
        given = after([WATER, 70], sure(4), sure(4, 2), sure(4, 3), sure(4, 2, 3))
        self.assertEqual(given[1:], [[0, 0, 1, 0, 1], [0, 30, 1, 35, 1], [0, 30, 1, 35, 1], [0, 70, 1, 70, 1]])

    def test_at_least_0(self):
        self.assertEqual(after([WATER, 10], sure(4, 2))[1], [0, 0, 1, 5, 1])

    def test_fractions(self):
        given = after([WATER, 69], sure(2, 0), sure(2, 1), sure(2, 0, 1), sure(2))
        self.assertEqual(given[1:], [[0, 9, 2, 69, 8], [0, 49, 2, 207, 8], [0, 69, 2, 69, 2], [0, 0, 1, 0, 1]])

    def test_numbers_rise_whatever_the_groups_line_says(self):
        self.assertEqual(after(sure(2, 0, 1), sure(2, 1, 0)), [[0, 20, 1, 20, 1], [-1]])

    def test_wrong_lists(self):
        for members in ((2, 2), (3, 2), (0,), (1, 2), (4,), (2, 4), (-1,), (2, 3, 5), (2, 3, HUGE), (-HUGE, 2),
                        (2, 3, 3), (2,) * 8, (0, 1, 2, 3)):
            self.assertEqual(after(sure(4, *members)), [[-1]], members)

    def test_only_groups(self):
        for number in (-1, 0, 1, 3, 5, HUGE, -HUGE):
            self.assertEqual(after(sure(number)), [[-1]])
            self.assertEqual(after(sure(number, 2, 3)), [[-1]])

    def test_eight_members(self):
        lines = "".join([f"person {name} claims 10\n" for name in "abcdefgh"])
        given = run(sharing(lines + "group g by even of h g f e d c b a\n"), sharing(lines
                    + "group z by even of h g f e d c b a\n"), [WATER, 79], sure(8, *range(8)), sure(8, *range(7)))
        self.assertEqual(given[0], [1, 9])
        self.assertEqual(given[3:], [[0, 79, 1, 79, 1], [0, 69, 1, 553, 8]])


if __name__ == "__main__":
    unittest.main()
