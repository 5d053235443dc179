"""print and counts."""

import unittest

from tests.helper import CLAIM, CLAIMS, COUNTS, PRINT, RULE, RULES, SHARES, WATER, run, sharing

TEXT = ("person a claims 10 weighs 2\nperson b claims 30\ngroup f by parts of b a weighs 100\nperson c claims 40\n"
        "group root by even of f c\n")


def printed(*calls):
    answer = run(*calls, [PRINT])[-1]
    assert answer[0] == 0 and answer[1] == len(answer) - 2
    return bytes(answer[2:]).decode()


class Print(unittest.TestCase):
    def test_ordinary(self):
        self.assertEqual(printed(sharing(TEXT)), TEXT)
        self.assertEqual(run(sharing(TEXT), [PRINT])[1], [0, len(TEXT)] + list(TEXT.encode()))

    def test_a_lone_person(self):
        self.assertEqual(run(sharing("person a claims 0"), [PRINT])[1], [0, 18] + list(b"person a claims 0\n"))

    def test_one_blank_between_words(self):
        text = "\n  person  a   claims 3  \n\n   \n group g  by halves of   a   weighs   7"
        self.assertEqual(printed(sharing(text)), "person a claims 3\ngroup g by halves of a weighs 7\n")

    def test_weights(self):
        text = "person a claims 3 weighs {0}\ngroup g by order of a weighs {0}\n"
        self.assertEqual(printed(sharing(text.format(1))), "person a claims 3\ngroup g by order of a\n")
        for weight in (2, 10, 99, 100):
            self.assertEqual(printed(sharing(text.format(weight))), text.format(weight))

    def test_members_in_their_order(self):
        text = "person c claims 1\nperson b claims 2\nperson a claims 3\ngroup g by chance of b c a\n"
        self.assertEqual(printed(sharing(text)), text)

    def test_claims_as_they_are_now(self):
        for claim in (0, 9, 1000000):
            self.assertEqual(printed(sharing(TEXT), [CLAIM, 0, claim], [WATER, 7]),
                             TEXT.replace("claims 10 ", f"claims {claim} "))

    def test_rules_as_they_are_now(self):
        for rule in range(6):
            self.assertEqual(printed(sharing(TEXT), [RULE, 2, rule]), TEXT.replace("parts", RULES[rule]))

    def test_behind_refusals(self):
        refused = ([CLAIM, 0, -1], [CLAIM, 2, 5], [RULE, 2, 6], [RULE, 0, 1], [WATER, -1], sharing("x"))
        self.assertEqual(printed(sharing(TEXT), *refused), TEXT)

    def test_read_again(self):
        changes = ([CLAIM, 1, 77], [RULE, 4, 3], [RULE, 2, 2])
        again = printed(sharing(TEXT), *changes)
        asked = ([WATER, 91], [SHARES], [CLAIMS], [PRINT], [COUNTS])
        self.assertEqual(run(sharing(again), *asked)[1:], run(sharing(TEXT), *changes, *asked)[4:])

    def test_longer_than_a_text_may_be(self):
        names = [f"{first}{second}aaaaaa" for first in "abcde" for second in "abcde"]
        text = "".join([f"person {name} claims 0 weighs 100\n" for name in names])
        tops = []
        for place in range(0, 25, 7):
            tops.append("t" + names[place][1:])
            tops[-1] = tops[-1][:-1] + "abcd"[len(tops) - 1]
            text += f"group {tops[-1]} by parts of {' '.join(names[place:place + 7])} weighs 100\n"
        text += f"group r by parts of {' '.join(tops)}\n"
        self.assertLessEqual(len(text), 2000)
        changes = [[CLAIM, place, 1000000] for place in range(25)] + [[RULE, 25 + place, 2] for place in range(5)]
        told = text.replace("claims 0", "claims 1000000").replace("parts", "losses")
        self.assertEqual(printed(sharing(text), *changes), told)
        self.assertEqual(run(sharing(text), *changes, [WATER, 30000000], [COUNTS])[-1], [0, 30, 25, 25000000, 30000000])


class Counts(unittest.TestCase):
    def test_ordinary(self):
        self.assertEqual(run(sharing(TEXT), [COUNTS], [WATER, 33], [COUNTS])[1::2], [[0, 5, 3, 80, 0], [0, 5, 3, 80, 33]])

    def test_more_water_than_is_claimed(self):
        self.assertEqual(run(sharing(TEXT), [WATER, 30000000], [COUNTS])[-1], [0, 5, 3, 80, 30000000])

    def test_claims_as_they_are_now(self):
        self.assertEqual(run(sharing(TEXT), [CLAIM, 1, 0], [COUNTS])[-1], [0, 5, 3, 50, 0])

    def test_a_lone_person(self):
        self.assertEqual(run(sharing("person a claims 6"), [WATER, 2], [COUNTS])[-1], [0, 1, 1, 6, 2])

    def test_behind_refusals(self):
        refused = ([WATER, -1], [WATER, 30000001], [CLAIM, 0, 1000001], sharing(""))
        self.assertEqual(run(sharing(TEXT), [WATER, 5], *refused, [COUNTS])[-1], [0, 5, 3, 80, 5])

    def test_a_new_sharing(self):
        self.assertEqual(run(sharing(TEXT), [WATER, 5], sharing("person a claims 6"), [COUNTS])[-1], [0, 1, 1, 6, 0])


if __name__ == "__main__":
    unittest.main()
