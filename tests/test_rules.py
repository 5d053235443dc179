"""The six rules, the levels that prove them, and groups in groups."""

import random
import unittest
from fractions import Fraction
from itertools import permutations

from tests.helper import (
    CLAIM, CLAIMS, PROOF, RULE, RULES, SHARE, SHARES, WATER, as_fractions, proven, run, shared, sharing,
    told_all, told_order, told_parties, told_shares,
)

OLD = (100, 200, 300)
SAME = (10, 10, 10)
RISING = (1, 2, 3)


class Parts(unittest.TestCase):
    def test_ordinary(self):
        self.assertEqual(shared("parts", 100, OLD), ["50/3", "100/3", "50"])

    def test_no_claims(self):
        self.assertEqual(shared("parts", 5, (0, 0)), ["0", "0"])

    def test_weights_mean_nothing(self):
        self.assertEqual(shared("parts", 15, SAME, RISING), ["5", "5", "5"])


class Even(unittest.TestCase):
    def test_ordinary(self):
        self.assertEqual(shared("even", 200, OLD), ["200/3", "200/3", "200/3"])
        self.assertEqual(shared("even", 400, OLD), ["100", "150", "150"])

    def test_weights(self):
        self.assertEqual(shared("even", 12, SAME, RISING), ["2", "4", "6"])
        self.assertEqual(shared("even", 24, SAME, RISING), ["14/3", "28/3", "10"])
        self.assertEqual(shared("even", 101, (1000, 1000), (1, 100)), ["1", "100"])

    def test_levels(self):
        self.assertEqual(proven("even", 12, SAME, RISING), [0, 0, 2, 1])
        self.assertEqual(proven("even", 24, SAME, RISING), [0, 0, 14, 3])
        self.assertEqual(proven("even", 400, OLD), [0, 0, 150, 1])

    def test_level_where_all_get_their_claims(self):
        self.assertEqual(proven("even", 600, OLD), [0, 0, 300, 1])
        self.assertEqual(proven("even", 700, OLD), [0, 0, 300, 1])
        self.assertEqual(proven("even", 30, SAME, (4, 3, 3)), [0, 0, 10, 3])

    def test_level_where_a_claim_is_just_met(self):
        self.assertEqual(proven("even", 300, OLD), [0, 0, 100, 1])

    def test_level_without_water(self):
        self.assertEqual(proven("even", 0, OLD), [0, 0, 0, 1])
        self.assertEqual(proven("even", 0, (0, 5)), [0, 0, 0, 1])

    def test_level_without_claims(self):
        self.assertEqual(proven("even", 9, (0, 0)), [0, 0, 0, 1])


class Losses(unittest.TestCase):
    def test_ordinary(self):
        self.assertEqual(shared("losses", 300, OLD), ["0", "100", "200"])
        self.assertEqual(shared("losses", 200, OLD), ["0", "50", "150"])
        self.assertEqual(shared("losses", 500, OLD), ["200/3", "500/3", "800/3"])

    def test_weights(self):
        self.assertEqual(shared("losses", 18, SAME, RISING), ["8", "6", "4"])

    def test_levels(self):
        self.assertEqual(proven("losses", 200, OLD), [0, 1, 150, 1])
        self.assertEqual(proven("losses", 18, SAME, RISING), [0, 1, 2, 1])
        self.assertEqual(proven("losses", 500, OLD), [0, 1, 100, 3])
        self.assertEqual(proven("losses", 600, OLD), [0, 1, 0, 1])
        self.assertEqual(proven("losses", 0, OLD), [0, 1, 300, 1])
        self.assertEqual(proven("losses", 0, (0, 0)), [0, 1, 0, 1])


class Halves(unittest.TestCase):
    def test_ordinary(self):
        self.assertEqual(shared("halves", 100, OLD), ["100/3", "100/3", "100/3"])
        self.assertEqual(shared("halves", 200, OLD), ["50", "75", "75"])
        self.assertEqual(shared("halves", 300, OLD), ["50", "100", "150"])
        self.assertEqual(shared("halves", 400, OLD), ["50", "125", "225"])
        self.assertEqual(shared("halves", 600, OLD), ["100", "200", "300"])

    def test_weights(self):
        self.assertEqual(shared("halves", 9, SAME, RISING), ["3/2", "3", "9/2"])
        self.assertEqual(shared("halves", 15, SAME, RISING), ["5", "5", "5"])
        self.assertEqual(shared("halves", 16, SAME, RISING), ["6", "5", "5"])

    def test_levels(self):
        self.assertEqual(proven("halves", 9, SAME, RISING), [0, 0, 3, 2])
        self.assertEqual(proven("halves", 16, SAME, RISING), [0, 1, 4, 1])

    def test_just_half(self):
        self.assertEqual(proven("halves", 300, OLD), [0, 0, 150, 1])
        self.assertEqual(proven("halves", 299, OLD), [0, 0, 149, 1])
        self.assertEqual(proven("halves", 301, OLD), [0, 1, 149, 1])
        self.assertEqual(proven("halves", 15, SAME, RISING), [0, 0, 5, 1])

    def test_just_half_of_an_odd_claim(self):
        self.assertEqual(proven("halves", 1, (1, 2)), [0, 0, 1, 2])
        self.assertEqual(proven("halves", 2, (1, 2)), [0, 1, 1, 2])

    def test_without_claims(self):
        self.assertEqual(proven("halves", 9, (0, 0)), [0, 0, 0, 1])
        self.assertEqual(shared("halves", 9, (0, 0)), ["0", "0"])


class Chance(unittest.TestCase):
    def test_ordinary(self):
        self.assertEqual(shared("chance", 100, OLD), ["100/3", "100/3", "100/3"])
        self.assertEqual(shared("chance", 200, OLD), ["100/3", "250/3", "250/3"])
        self.assertEqual(shared("chance", 300, OLD), ["50", "100", "150"])

    def test_one_member(self):
        self.assertEqual(shared("chance", 3, (5,)), ["3"])

    def test_weights_mean_nothing(self):
        self.assertEqual(shared("chance", 15, SAME, RISING), ["5", "5", "5"])

    def test_eight_members(self):
        claims = [3, 17, 40, 41, 100, 5, 0, 64]
        runs = [told_order(Fraction(111), claims, order) for order in permutations(range(8))]
        told = [sum(column) / len(runs) for column in zip(*runs)]
        self.assertEqual(shared("chance", 111, claims), [str(share) for share in told])
        self.assertEqual(told_shares("chance", Fraction(111), claims, [1] * 8), told)


class Order(unittest.TestCase):
    def test_ordinary(self):
        self.assertEqual(shared("order", 250, OLD), ["100", "150", "0"])

    def test_order_is_that_of_the_groups_line(self):
        text = "person a claims 100\nperson b claims 200\nperson c claims 300\ngroup g by order of c a b"
        self.assertEqual(run(sharing(text), [WATER, 350], [SHARES])[-1], [0, 50, 1, 0, 1, 300, 1, 350, 1])


class All(unittest.TestCase):
    def test_without_water(self):
        for rule in RULES:
            self.assertEqual(shared(rule, 0, OLD), ["0", "0", "0"], rule)

    def test_more_water_than_is_claimed(self):
        for rule in RULES:
            for water in (600, 601, 30000000):
                self.assertEqual(shared(rule, water, OLD), ["100", "200", "300"], rule)

    def test_without_claims(self):
        for rule in RULES:
            self.assertEqual(shared(rule, 30000000, (0, 0, 0)), ["0", "0", "0"], rule)

    def test_greatest_claims(self):
        for rule in RULES:
            self.assertEqual(shared(rule, 4000004, (1000000,) * 8), ["1000001/2"] * 8 if rule != "order"
                             else ["1000000"] * 4 + ["4", "0", "0", "0"], rule)


class Nested(unittest.TestCase):
    def test_a_fraction_is_shared_on(self):
        text = ("person a claims 10\nperson b claims 10\ngroup f by halves of a b\n"
                "person c claims 20\nperson d claims 20\ngroup g by even of c f d\n")
        calls = [sharing(text), [WATER, 10], [SHARES], [PROOF, 2], [PROOF, 5], [SHARE, 2], [SHARE, 0]]
        self.assertEqual(run(*calls)[2:], [
            [0, 5, 3, 5, 3, 10, 3, 10, 3, 10, 3, 10, 1], [0, 0, 5, 3], [0, 0, 10, 3], [0, 10, 3], [0, 5, 3],
        ])

    def make(self, chance):
        claims = chance.choice([(0, 1), (0, 5), (0, 1000), (0, 1000000)])
        lines = []
        free = []
        for count in range(chance.randint(1, 12)):
            name = "abcdefghijklm"[count]
            if len(free) > 1 and chance.random() < 0.4:
                members = [free.pop(chance.randrange(len(free))) for place in range(chance.randint(1, min(6, len(free))))]
                lines.append(f"group {name} by {chance.choice(RULES)} of {' '.join(members)}")
            else:
                lines.append(f"person {name} claims {chance.randint(*claims)}")
            free.append(name)
            if chance.random() < 0.5:
                lines[-1] += f" weighs {chance.choice([1, 2, 3, 7, 100])}"
        while len(free) > 1:
            members = [free.pop(0) for place in range(min(6, len(free)))]
            name = "z" + members[0][-7:]
            lines.append(f"group {name} by {chance.choice(RULES)} of {' '.join(members)}")
            free.append(name)
        return "\n".join(lines)

    def check(self, parties, water, changes):
        claims, shares, proofs = told_all(parties, water)
        names = [party[0] for party in parties]
        asked = [[PROOF, names.index(name)] for name in proofs]
        given = run(*changes, [WATER, water], [CLAIMS], [SHARES], *asked)[len(changes) + 1:]
        self.assertEqual(given[0], [0] + claims)
        self.assertEqual(as_fractions(given[1]), shares)
        for upper, lower in zip(given[1][1::2], given[1][2::2]):
            self.assertEqual((upper, lower), Fraction(upper, lower).as_integer_ratio())
        for answer, name in zip(given[2:], proofs):
            kind, level = proofs[name]
            self.assertEqual(answer, [0, kind, level.numerator, level.denominator], (parties, water, name))

    def test_many(self):
        chance = random.Random(11)
        for count in range(400):
            text = self.make(chance)
            parties = told_parties(text.encode())
            self.assertIsInstance(parties, list, text)
            changes = [sharing(text)]
            for water_count in range(3):
                claimed = sum([party[2] for party in parties])
                self.check(parties, chance.choice([0, claimed // 2, claimed, chance.randint(0, claimed + 5)]), changes)
                place = chance.randrange(len(parties))
                name, weight, claim, rule, members = parties[place]
                if members:
                    rule = chance.choice(RULES)
                    changes.append([RULE, place, RULES.index(rule)])
                else:
                    claim = chance.randint(0, 9)
                    changes.append([CLAIM, place, claim])
                parties[place] = (name, weight, claim, rule, members)


if __name__ == "__main__":
    unittest.main()
