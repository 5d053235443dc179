"""The calls that tell what would be, and core: core, leave, split, ifwater, ifclaim, rules, least."""

import unittest
from fractions import Fraction
from itertools import combinations

from droughtshares.parties import excesses
from droughtshares.reading import read_sharing
from tests.helper import (
    CLAIM, CLAIMS, CORE, COUNTS, IFCLAIM, IFWATER, LEAST, LEAVE, PRINT, RULE, RULES, RULES_OF, SHARE, SHARES, SPLIT,
    WATER, as_fractions, one_group, run, sharing, sure, told_chance,
)

# a 0, b 1, f 2 (parts, in the order b a), c 3, root 4 (even, in the order f c)
TEXT = "person a claims 10\nperson b claims 30\ngroup f by parts of b a\nperson c claims 40\ngroup root by even of f c\n"
HUGE = 1000000000000000000
START = (sharing(TEXT), [WATER, 40])
STATE = ([SHARES], [CLAIMS], [PRINT], [COUNTS])
OLD = (100, 200, 300)
SAME = (10, 10, 10)
RISING = (1, 2, 3)
LONE = (sharing("person a claims 9 weighs 3"), [WATER, 4])


def after(*calls):
    return run(*START, *calls)[len(START):]


def of_group(call, rule, water, claims, weights=None):
    """A call's answer on one group of persons, whose number is how many they are."""
    return run(*one_group(rule, water, claims, weights), call)[-1]


class Case(unittest.TestCase):
    def assert_refused(self, *calls):
        state = after(*STATE)
        for call in calls:
            given = after(call, *STATE)
            self.assertEqual(given[0], [-1], call)
            self.assertEqual(given[1:], state, call)

    def assert_only_groups(self, make):
        self.assert_refused(*[make(number) for number in (-1, 0, 1, 3, 5, HUGE, -HUGE)])

    def assert_only_parties(self, make):
        self.assert_refused(*[make(number) for number in (-1, 5, HUGE, -HUGE)])

    def assert_only_persons(self, make):
        self.assert_refused(*[make(number) for number in (-1, 2, 4, 5, HUGE, -HUGE)])


class ChangesNothing(unittest.TestCase):
    CALLS = ([CORE, 4], [CORE, 2], [LEAVE, 4, 2], [LEAVE, 2, 0], [SPLIT, 2, 1, 7], [SPLIT, 4, 3, 40], [IFWATER, 0, 3],
             [IFWATER, 4, 30000000], [IFCLAIM, 0, 1000000], [IFCLAIM, 3, 0], [RULES_OF, 2], [RULES_OF, 4],
             [LEAST, 0, 10], [LEAST, 4, 1])

    def test_with_each_rule(self):
        for rule in range(6):
            changes = ([RULE, 4, rule], [RULE, 2, (rule + 1) % 6], [CLAIM, 1, 33], [WATER, 57])
            state = after(*changes, *STATE)[len(changes):]
            for call in self.CALLS:
                given = after(*changes, call, call, *STATE)[len(changes):]
                self.assertEqual(given[0][0], 0, call)
                self.assertEqual(given[0], given[1], call)
                self.assertEqual(given[2:], state, call)


class Core(Case):
    def test_ordinary(self):
        self.assertEqual(after([CORE, 4], [CORE, 2]), [[0, 4, 0, 1], [0, 4, 0, 1]])

    def test_one_member(self):
        given = run(sharing("person a claims 3\ngroup g by even of a"), [CORE, 1], [WATER, 2], [CORE, 1])
        self.assertEqual(given[1::2], [[0, 2, 0, 1], [0, 2, 0, 1]])

    def test_eight_members(self):
        claims = [3, 17, 40, 41, 100, 5, 0, 64]
        for rule in RULES:
            for water in (0, 1, 111, 269, 270, 271):
                self.assertEqual(of_group([CORE, 8], rule, water, claims, range(1, 9)), [0, 256, 0, 1], rule)

    def test_without_claims(self):
        for rule in RULES:
            self.assertEqual(of_group([CORE, 3], rule, 5, (0, 0, 0)), [0, 8, 0, 1], rule)

    def test_is_the_least_of_what_sure_tells(self):
        for rule in RULES:
            for water in (0, 100, 399, 600):
                sets = [some for size in range(4) for some in combinations(range(3), size)]
                given = run(*one_group(rule, water, OLD, RISING), [CORE, 3], *[sure(3, *some) for some in sets])[2:]
                over = []
                for answer in given[1:]:
                    could, got = as_fractions(answer)
                    over.append(got - could)
                self.assertEqual(given[0], [0, len(sets)] + list(min(over).as_integer_ratio()), rule)

    def test_each_set_is_as_sure_tells(self):
        """The empty set's 0 is always among the least, so what the other sets come to is looked at here."""
        for rule in RULES:
            start = one_group(rule, 399, OLD, RISING)
            sets = [some for size in range(4) for some in combinations(range(3), size)]
            told = [as_fractions(answer) for answer in run(*start, *[sure(3, *some) for some in sets])[2:]]
            found = excesses(read_sharing(start[0][2:])[0], 399, 3)
            self.assertEqual(sorted([Fraction(*each) for each in found]), sorted([got - could for could, got in told]))

    def test_only_groups(self):
        self.assert_only_groups(lambda number: [CORE, number])
        self.assertEqual(run(*LONE, [CORE, 0])[-1], [-1])


class Leave(Case):
    def test_ordinary(self):
        self.assertEqual(after([LEAVE, 4, 2], [LEAVE, 4, 3], [LEAVE, 2, 1], [LEAVE, 2, 0]),
                         [[0, 1, 3, 20, 1], [0, 1, 2, 20, 1], [0, 1, 0, 5, 1], [0, 1, 1, 15, 1]])

    def test_each_rule(self):
        told = {
            "parts": [0, 2, 0, 100, 3, 1, 200, 3],
            "even": [0, 2, 0, 200, 3, 1, 200, 3],
            "losses": [0, 2, 0, 0, 1, 1, 50, 1],
            "halves": [0, 2, 0, 50, 1, 1, 75, 1],
            "chance": [0, 2, 0, 50, 1, 1, 200, 3],
            "order": [0, 2, 0, 100, 1, 1, 100, 1],
        }
        for rule in RULES:
            self.assertEqual(of_group([LEAVE, 3, 2], rule, 200, OLD), told[rule], rule)

    def test_weights(self):
        self.assertEqual(of_group([LEAVE, 3, 1], "even", 12, SAME, RISING), [0, 2, 0, 2, 1, 2, 6, 1])
        self.assertEqual(of_group([LEAVE, 3, 1], "losses", 18, SAME, RISING), [0, 2, 0, 8, 1, 2, 4, 1])
        self.assertEqual(of_group([LEAVE, 3, 1], "halves", 16, SAME, RISING), [0, 2, 0, 6, 1, 2, 5, 1])

    def test_in_the_order_of_the_groups_line(self):
        text = "person a claims 10\nperson b claims 20\nperson d claims 30\ngroup g by order of d a b"
        given = run(sharing(text), [WATER, 45], [LEAVE, 3, 0], [LEAVE, 3, 2], [LEAVE, 3, 1])[2:]
        self.assertEqual(given, [[0, 2, 2, 30, 1, 1, 5, 1], [0, 2, 0, 10, 1, 1, 5, 1], [0, 2, 2, 30, 1, 0, 10, 1]])

    def test_nobody_left(self):
        for rule in RULES:
            for water in (0, 2, 5):
                self.assertEqual(of_group([LEAVE, 1, 0], rule, water, (3,), (7,)), [0, 0], rule)
                self.assertEqual(of_group([LEAVE, 1, 0], rule, water, (0,)), [0, 0], rule)

    def test_the_others_claim_nothing(self):
        for rule in RULES:
            self.assertEqual(of_group([LEAVE, 3, 1], rule, 4, (0, 5, 0)), [0, 2, 0, 0, 1, 2, 0, 1], rule)

    def test_more_than_is_claimed(self):
        for rule in RULES:
            self.assertEqual(of_group([LEAVE, 3, 1], rule, 30000000, OLD), [0, 2, 0, 100, 1, 2, 300, 1], rule)

    def test_a_group_leaves(self):
        given = after([RULE, 4, 4], [WATER, 60], [LEAVE, 4, 2], [LEAVE, 2, 1])[2:]
        self.assertEqual(given, [[0, 1, 3, 30, 1], [0, 1, 0, 15, 2]])

    def test_only_groups(self):
        self.assert_only_groups(lambda number: [LEAVE, number, 0])
        self.assertEqual(run(*LONE, [LEAVE, 0, 0])[-1], [-1])

    def test_only_its_members(self):
        self.assert_refused(*[[LEAVE, 4, number] for number in (-1, 0, 1, 4, 5, HUGE, -HUGE)])
        self.assert_refused(*[[LEAVE, 2, number] for number in (-1, 2, 3, 4, 5, HUGE, -HUGE)])


class Split(Case):
    def test_ordinary(self):
        self.assertEqual(after([SPLIT, 4, 3, 20], [SPLIT, 2, 1, 7]), [[0, 80, 3], [0, 15, 1]])

    def test_each_rule(self):
        for rule, water, claim, told in (
            ("parts", 100, 50, [0, 50, 1]), ("even", 200, 100, [0, 100, 1]), ("even", 200, 10, [0, 220, 3]),
            ("losses", 300, 150, [0, 150, 1]), ("halves", 200, 150, [0, 100, 1]), ("halves", 400, 150, [0, 200, 1]),
            ("chance", 100, 200, [0, 50, 1]), ("order", 350, 20, [0, 50, 1]),
        ):
            self.assertEqual(of_group([SPLIT, 3, 2, claim], rule, water, OLD), told, (rule, water))
            self.assertEqual(of_group([SPLIT, 3, 2, 300 - claim], rule, water, OLD), told, (rule, water))

    def test_both_with_its_weight(self):
        self.assertEqual(of_group([SPLIT, 3, 2, 5], "even", 12, SAME, RISING), [0, 8, 1])
        self.assertEqual(of_group([SPLIT, 3, 0, 5], "even", 12, SAME, RISING), [0, 24, 7])
        self.assertEqual(of_group([SPLIT, 3, 1, 5], "losses", 22, SAME, RISING), [0, 6, 1])

    def test_right_behind_one_another(self):
        for claim in (0, 1, 150, 200):
            self.assertEqual(of_group([SPLIT, 3, 1, claim], "order", 250, OLD), [0, 150, 1])
            self.assertEqual(of_group([SPLIT, 3, 0, claim // 2], "order", 50, OLD), [0, 50, 1])

    def test_as_nothing_and_the_whole(self):
        for rule in RULES:
            for water in (0, 77, 301, 600, 30000000):
                for member in range(3):
                    given = run(*one_group(rule, water, OLD, RISING), [SHARE, member], [SPLIT, 3, member, 0],
                                [SPLIT, 3, member, OLD[member]])[2:]
                    self.assertEqual(given, [given[0]] * 3, (rule, water))

    def test_who_claims_nothing(self):
        for rule in RULES:
            self.assertEqual(of_group([SPLIT, 3, 1, 0], rule, 7, (5, 0, 6)), [0, 0, 1], rule)
            self.assertEqual(of_group([SPLIT, 3, 1, 0], rule, 7, (0, 0, 0)), [0, 0, 1], rule)

    def test_one_member(self):
        for rule in RULES:
            self.assertEqual(of_group([SPLIT, 1, 0, 1], rule, 2, (5,)), [0, 2, 1], rule)

    def test_nine(self):
        eight = (10,) * 8
        told = {"parts": [0, 5, 1], "even": [0, 80, 9], "losses": [0, 10, 9], "halves": [0, 5, 1],
                "order": [0, 0, 1]}
        for rule in told:
            self.assertEqual(of_group([SPLIT, 8, 7, 5], rule, 40, eight), told[rule], rule)
        self.assertEqual(of_group([SPLIT, 8, 7, 5], "even", 30, eight), [0, 20, 3])

    def test_nine_by_chance(self):
        claims = [3, 17, 40, 41, 100, 5, 0, 64]
        for water in (0, 1, 111, 200, 270):
            together = sum(told_chance(Fraction(water), claims[:4] + [60, 40] + claims[5:])[4:6])
            self.assertEqual(as_fractions(of_group([SPLIT, 8, 4, 60], "chance", water, claims)), [together])

    def test_only_groups(self):
        self.assert_only_groups(lambda number: [SPLIT, number, 0, 0])
        self.assertEqual(run(*LONE, [SPLIT, 0, 0, 0])[-1], [-1])

    def test_only_its_members(self):
        self.assert_refused(*[[SPLIT, 4, number, 0] for number in (-1, 0, 1, 4, 5, HUGE, -HUGE)])
        self.assert_refused(*[[SPLIT, 2, number, 0] for number in (-1, 2, 3, 4, 5, HUGE, -HUGE)])

    def test_no_group_as_two(self):
        self.assert_refused([SPLIT, 4, 2, 0], [SPLIT, 4, 2, 10], [SPLIT, 4, 2, 40])

    def test_claims_range(self):
        self.assert_refused([SPLIT, 4, 3, -1], [SPLIT, 4, 3, 41], [SPLIT, 2, 0, 11], [SPLIT, 2, 0, HUGE],
                            [SPLIT, 2, 0, -HUGE])

    def test_claims_range_is_that_of_now(self):
        given = after([CLAIM, 3, 50], [SPLIT, 4, 3, 50], [CLAIM, 3, 7], [SPLIT, 4, 3, 8], [SPLIT, 4, 3, 7])
        self.assertEqual(given, [[0], [0, 20, 1], [0], [-1], [0, 7, 1]])


class IfWater(Case):
    def test_ordinary(self):
        given = after(*[[IFWATER, number, 8] for number in range(5)])
        self.assertEqual(given, [[0, 1, 1], [0, 3, 1], [0, 4, 1], [0, 4, 1], [0, 8, 1]])

    def test_fractions(self):
        self.assertEqual(after([IFWATER, 0, 1], [IFWATER, 2, 1]), [[0, 1, 8], [0, 1, 2]])

    def test_range(self):
        self.assertEqual(after([IFWATER, 0, 0], [IFWATER, 4, 0], [IFWATER, 0, 30000000], [IFWATER, 4, 30000000]),
                         [[0, 0, 1], [0, 0, 1], [0, 10, 1], [0, 80, 1]])
        self.assert_refused(*[[IFWATER, 0, water] for water in (-1, 30000001, HUGE, -HUGE)])

    def test_as_if_there_were_so_much(self):
        for rule in range(6):
            for water in (0, 3, 40, 41, 79, 80, 81):
                changes = ([RULE, 4, rule], [RULE, 2, 5 - rule], [CLAIM, 0, 25])
                told = after(*changes, [WATER, water], *[[SHARE, number] for number in range(5)])[4:]
                self.assertEqual(after(*changes, *[[IFWATER, number, water] for number in range(5)])[3:], told)

    def test_only_parties(self):
        self.assert_only_parties(lambda number: [IFWATER, number, 1])

    def test_a_lone_person(self):
        self.assertEqual(run(*LONE, [IFWATER, 0, 5], [IFWATER, 0, 10], [SHARE, 0])[2:], [[0, 5, 1], [0, 9, 1], [0, 4, 1]])


class IfClaim(Case):
    def test_ordinary(self):
        self.assertEqual(after([IFCLAIM, 0, 50], [IFCLAIM, 0, 10], [IFCLAIM, 3, 5]), [[0, 25, 2], [0, 5, 1], [0, 5, 1]])

    def test_range(self):
        self.assertEqual(after([WATER, 1000], [IFCLAIM, 0, 0], [IFCLAIM, 0, 1000000], [IFCLAIM, 3, 1000000])[1:],
                         [[0, 0, 1], [0, 96000000, 100003], [0, 960, 1]])
        self.assert_refused(*[[IFCLAIM, 0, claim] for claim in (-1, 1000001, HUGE, -HUGE)])

    def test_as_if_it_claimed_so_much(self):
        for rule in range(6):
            for claim in (0, 1, 29, 500):
                for person in (0, 1, 3):
                    changes = ([RULE, 4, rule], [RULE, 2, 5 - rule], [WATER, 77])
                    told = after(*changes, [CLAIM, person, claim], [SHARE, person])[-1]
                    self.assertEqual(after(*changes, [IFCLAIM, person, claim])[-1], told)

    def test_only_persons(self):
        self.assert_only_persons(lambda number: [IFCLAIM, number, 1])

    def test_a_lone_person(self):
        self.assertEqual(run(*LONE, [IFCLAIM, 0, 3], [IFCLAIM, 0, 1000000], [CLAIMS])[2:],
                         [[0, 3, 1], [0, 4, 1], [0, 9]])


class RulesOf(Case):
    def test_ordinary(self):
        self.assertEqual(of_group([RULES_OF, 3], "parts", 200, OLD), [
            0,
            100, 3, 200, 3, 100, 1,
            200, 3, 200, 3, 200, 3,
            0, 1, 50, 1, 150, 1,
            50, 1, 75, 1, 75, 1,
            100, 3, 250, 3, 250, 3,
            100, 1, 100, 1, 0, 1,
        ])

    def test_whatever_its_rule_is(self):
        told = of_group([RULES_OF, 3], "parts", 200, OLD, RISING)
        for rule in RULES:
            self.assertEqual(of_group([RULES_OF, 3], rule, 200, OLD, RISING), told, rule)

    def test_in_the_order_of_the_groups_line(self):
        self.assertEqual(after([WATER, 20], [RULES_OF, 2])[1],
                         [0, 15, 2, 5, 2, 5, 1, 5, 1, 10, 1, 0, 1, 5, 1, 5, 1, 5, 1, 5, 1, 10, 1, 0, 1])

    def test_each_as_if_it_were_the_groups(self):
        for group, members in ((2, (1, 0)), (4, (2, 3))):
            told = [0]
            for rule in range(6):
                given = after([CLAIM, 3, 33], [WATER, 51], [RULE, group, rule], *[[SHARE, member] for member in members])
                told += given[3][1:] + given[4][1:]
            self.assertEqual(after([CLAIM, 3, 33], [WATER, 51], [RULES_OF, group])[-1], told)

    def test_edges(self):
        self.assertEqual(of_group([RULES_OF, 2], "even", 9, (0, 0)), [0] + [0, 1] * 12)
        self.assertEqual(of_group([RULES_OF, 2], "even", 0, (4, 5)), [0] + [0, 1] * 12)
        self.assertEqual(of_group([RULES_OF, 2], "even", 30000000, (4, 5)), [0] + [4, 1, 5, 1] * 6)
        self.assertEqual(of_group([RULES_OF, 1], "order", 3, (4,)), [0] + [3, 1] * 6)

    def test_only_groups(self):
        self.assert_only_groups(lambda number: [RULES_OF, number])
        self.assertEqual(run(*LONE, [RULES_OF, 0])[-1], [-1])


class Least(Case):
    def test_ordinary(self):
        self.assertEqual(after([LEAST, 0, 1], [LEAST, 1, 1], [LEAST, 2, 7], [LEAST, 3, 7], [LEAST, 4, 7]),
                         [[0, 8], [0, 3], [0, 14], [0, 14], [0, 7]])

    def test_each_rule(self):
        for rule, member, wanted, told in (
            ("parts", 0, 1, 6), ("parts", 1, 1, 3), ("parts", 2, 2, 4), ("even", 0, 34, 102), ("even", 1, 150, 400),
            ("losses", 0, 1, 303), ("losses", 2, 1, 1), ("losses", 1, 1, 102), ("halves", 0, 50, 150),
            ("halves", 0, 51, 453), ("halves", 2, 75, 200), ("chance", 0, 33, 99), ("chance", 0, 34, 204),
            ("chance", 2, 150, 300), ("order", 0, 1, 1), ("order", 1, 1, 101), ("order", 2, 300, 600),
        ):
            self.assertEqual(of_group([LEAST, member, wanted], rule, 5, OLD), [0, told], (rule, member, wanted))

    def test_whole_water_alone(self):
        self.assertEqual(of_group([LEAST, 0, 1], "even", 0, (10, 10), (2, 3)), [0, 3])
        self.assertEqual(of_group([LEAST, 1, 1], "even", 0, (10, 10), (2, 3)), [0, 2])

    def test_nothing_and_the_whole_claim(self):
        self.assertEqual(after(*[[LEAST, number, 0] for number in range(5)]), [[0, 0]] * 5)
        self.assertEqual(after([LEAST, 0, 10], [LEAST, 1, 30], [LEAST, 2, 40], [LEAST, 3, 40]), [[0, 80]] * 4)
        self.assertEqual(after([LEAST, 4, 80]), [[0, 80]])

    def test_who_claims_nothing(self):
        for rule in RULES:
            self.assertEqual(of_group([LEAST, 0, 0], rule, 5, (0, 5)), [0, 0])
            self.assertEqual(of_group([LEAST, 2, 0], rule, 5, (0, 0)), [0, 0])

    def test_nothing_less_does(self):
        claims = (1000000, 999983, 1, 0, 77, 1000000, 500000, 31)
        for rule in RULES:
            for member in (0, 2, 4, 7):
                for wanted in sorted({1, claims[member] // 2, claims[member]}):
                    start = one_group(rule, 0, claims, (100, 1, 1, 7, 50, 3, 2, 1))
                    water = run(*start, [LEAST, member, wanted])[-1][1]
                    given = run(*start, [IFWATER, member, water], [IFWATER, member, max(0, water - 1)])[2:]
                    self.assertGreaterEqual(as_fractions(given[0])[0], wanted)
                    self.assertEqual(as_fractions(given[1])[0] < wanted, wanted > 0)

    def test_the_water_that_is_there_means_nothing(self):
        for water in (0, 8, 30000000):
            self.assertEqual(after([WATER, water], [LEAST, 0, 1])[1], [0, 8])

    def test_only_parties(self):
        self.assert_only_parties(lambda number: [LEAST, number, 0])

    def test_wanted_range(self):
        self.assert_refused(*[[LEAST, 0, wanted] for wanted in (-1, 11, HUGE, -HUGE)])
        self.assert_refused([LEAST, 2, 41], [LEAST, 4, 81], [LEAST, 4, -1])

    def test_wanted_range_is_that_of_now(self):
        given = after([CLAIM, 0, 20], [LEAST, 0, 20], [LEAST, 2, 50], [LEAST, 2, 51], [CLAIM, 0, 3], [LEAST, 0, 4])
        self.assertEqual(given, [[0], [0, 90], [0, 90], [-1], [0], [-1]])

    def test_a_lone_person(self):
        self.assertEqual(run(*LONE, [LEAST, 0, 0], [LEAST, 0, 9], [LEAST, 0, 10])[2:], [[0, 0], [0, 9], [-1]])


if __name__ == "__main__":
    unittest.main()
