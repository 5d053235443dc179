"""The sharing's text: what is a party, and which line is the wrong one."""

import random
import unittest

from tests.helper import CLAIMS, SHARES, WATER, WORDS, run, sharing, told_parties

NAMES = [letter + other for letter in "abcdefgh" for other in "xzuv"]


def read(text):
    return run(sharing(text))[0]


def person(name, claim=1):
    return f"person {name} claims {claim}\n"


def group(name, *members):
    return f"group {name} by even of {' '.join(members)}\n"


class Lines(unittest.TestCase):
    def test_ordinary(self):
        self.assertEqual(read("person a claims 3\nperson b claims 4\ngroup g by even of a b\n"), [0, 3, 7])

    def test_one_person_is_the_root(self):
        self.assertEqual(read("person a claims 3\n"), [0, 1, 3])

    def test_groups_in_groups(self):
        text = "person a claims 3\ngroup f by parts of a\nperson b claims 4\ngroup g by order of b f\n"
        self.assertEqual(run(sharing(text), [CLAIMS]), [[0, 4, 7], [0, 3, 3, 4, 7]])

    def test_last_line_end_may_be_missing(self):
        self.assertEqual(read("person a claims 3"), [0, 1, 3])
        self.assertEqual(read("person a claims 3\ngroup g by even of a"), [0, 2, 3])

    def test_no_party(self):
        self.assertEqual(read(""), [1, 1])
        self.assertEqual(read("\n"), [1, 2])
        self.assertEqual(read(" "), [1, 2])
        self.assertEqual(read("\n\n  "), [1, 4])
        self.assertEqual(read("\n\n  \n"), [1, 4])

    def test_lines_without_words(self):
        self.assertEqual(read("\n   \nperson a claims 3\n\n"), [0, 1, 3])
        self.assertEqual(read("\n   \nperson a claims x\n\n"), [1, 3])

    def test_blanks_between_words(self):
        self.assertEqual(read("  person   a claims  3  "), [0, 1, 3])

    def test_only_byte_32_is_blank(self):
        for sign in "\t\r\x00\x0b\x0c\x85\xa0":
            self.assertEqual(read("person a claims 3" + sign), [1, 1])
            self.assertEqual(read("person" + sign + "a claims 3"), [1, 1])
            self.assertEqual(read(sign + "\nperson a claims 3"), [1, 1])

    def test_first_wrong_line_counts(self):
        self.assertEqual(read("person a claims 3\nx\ny\n"), [1, 2])
        self.assertEqual(read("person a claims 3\nperson b claims 3\n\nperson a claims 3\nx\n"), [1, 4])

    def test_as_many_lines_as_bytes(self):
        self.assertEqual(read("\n" * 2000), [1, 2001])
        self.assertEqual(read("\n" * 1983 + "person a claims 3"), [0, 1, 3])


class Words(unittest.TestCase):
    def test_wrong_forms(self):
        for line in (
            "person", "person a", "person a claims", "person a claims 3 4", "person a claim 3", "Person a claims 3",
            "person a claims 3 weighs", "person a claims 3 weigh 3", "person a claims weighs 3", "a claims 3",
            "person a claims 3 weighs 3 weighs 3", "weighs 3", "person weighs 3", "weighs", "person a 3 claims",
            "person a claims 3 3 weighs", "claims a person 3", "group person a claims 3", "person a claims 3?",
        ):
            self.assertEqual(read(line), [1, 1], line)

    def test_wrong_group_forms(self):
        for line in (
            "group g", "group g by even", "group g by even of", "group g by even a", "group g of a by even",
            "group g by evens of a", "group g by of a", "group by even of a", "group g even of a",
            "group g by even of weighs 3", "group g by even of a weighs", "group g by even of a weighs 2 weighs 2",
            "group g by even of weighs 2 a", "group g by person of a", "group g by even of a 3",
            "person g by even of a", "group g claims 3", "group g by g of a", "group g by even of of a",
        ):
            self.assertEqual(read("person a claims 3\n" + line), [1, 2], line)

    def test_all_rules_are_known(self):
        for rule in WORDS[6:]:
            self.assertEqual(read(f"person a claims 3\ngroup g by {rule} of a"), [0, 2, 3])
        for word in WORDS[:6]:
            self.assertEqual(read(f"person a claims 3\ngroup g by {word} of a"), [1, 2])

    def test_claims(self):
        self.assertEqual(read("person a claims 0"), [0, 1, 0])
        self.assertEqual(read("person a claims 1000000"), [0, 1, 1000000])
        for claim in ("1000001", "12345678", "123456789", "00", "01", "00000001", "000000001", "-1", "+1", "1.", "x",
                      "1x", "0x1", "1_0", "\xb2"):
            self.assertEqual(read(f"person a claims {claim}"), [1, 1], claim)

    def test_weights(self):
        self.assertEqual(read("person a claims 3 weighs 1"), [0, 1, 3])
        self.assertEqual(read("person a claims 3 weighs 100"), [0, 1, 3])
        self.assertEqual(read("person a claims 3\ngroup g by even of a weighs 100"), [0, 2, 3])
        for weight in ("0", "101", "01", "00", "-1", "x", "12345678", "123456789", "000000001"):
            self.assertEqual(read(f"person a claims 3 weighs {weight}"), [1, 1], weight)
            self.assertEqual(read(f"person a claims 3\ngroup g by even of a weighs {weight}"), [1, 2], weight)

    def test_weight_is_1_where_none_is_told(self):
        text = "person a claims 30 weighs 2\nperson b claims 30\ngroup g by even of a b"
        self.assertEqual(run(sharing(text), [WATER, 9], [SHARES])[-1], [0, 6, 1, 3, 1, 9, 1])

    def test_a_groups_weight(self):
        text = "person a claims 30\ngroup f by even of a weighs 5\nperson b claims 30\ngroup g by even of f b"
        self.assertEqual(run(sharing(text), [WATER, 12], [SHARES])[-1], [0, 10, 1, 10, 1, 2, 1, 12, 1])


class Names(unittest.TestCase):
    def test_lengths(self):
        self.assertEqual(read(person("a")), [0, 1, 1])
        self.assertEqual(read(person("abcdwxyz")), [0, 1, 1])
        self.assertEqual(read(person("abcdwxyza")), [1, 1])

    def test_letters(self):
        for name in ("A", "aB", "a1", "1", "a_", "a-b", "{", "`", "\xe4", "a\xff"):
            self.assertEqual(read(person(name)), [1, 1], name)

    def test_words_that_are_no_names(self):
        self.assertEqual(len(WORDS), 12)
        for word in WORDS:
            self.assertEqual(read(person(word)), [1, 1], word)
            self.assertEqual(read(person("a") + group(word, "a")), [1, 2], word)
            self.assertEqual(read(person(word + "s")), [0, 1, 1], word)

    def test_unlike_the_others(self):
        self.assertEqual(read(person("a") + person("a")), [1, 2])
        self.assertEqual(read(person("a") + group("a", "a")), [1, 2])
        self.assertEqual(read(person("a") + group("g", "a") + person("g")), [1, 3])


class Members(unittest.TestCase):
    def test_up_to_8(self):
        eight = "".join([person(name) for name in NAMES[:8]])
        self.assertEqual(read(eight + group("g", *NAMES[:8])), [0, 9, 8])
        nine = eight + person(NAMES[8])
        self.assertEqual(read(nine + group("g", *NAMES[:9])), [1, 10])

    def test_told_before(self):
        self.assertEqual(read(group("g", "a") + person("a")), [1, 1])
        self.assertEqual(read(person("a") + group("g", "g")), [1, 2])
        self.assertEqual(read(person("a") + group("g", "a", "b") + person("b")), [1, 2])

    def test_unlike(self):
        self.assertEqual(read(person("a") + group("g", "a", "a")), [1, 2])

    def test_no_other_groups(self):
        self.assertEqual(read(person("a") + group("f", "a") + group("g", "a", "f")), [1, 3])
        self.assertEqual(read(person("a") + group("f", "a") + group("g", "f")), [0, 3, 1])

    def test_all_but_the_root(self):
        self.assertEqual(read(person("a") + person("b")), [1, 3])
        self.assertEqual(read(person("a") + person("b") + group("g", "b") + "\n \n"), [1, 6])
        self.assertEqual(read(person("a") + group("g", "a") + person("b")), [1, 4])
        self.assertEqual(read(person("a") + group("g", "a") + "person b claims 1"), [1, 4])

    def test_at_most_30_parties(self):
        text = "".join([person(name) for name in NAMES[:25]])
        tops = []
        for place in range(0, 25, 7):
            tops.append("t" + NAMES[place])
            text += group(tops[-1], *NAMES[place:min(place + 7, 25)])
        thirty = text + group("root", *tops)
        self.assertEqual(read(thirty), [0, 30, 25])
        self.assertEqual(read(thirty + "\n \n"), [0, 30, 25])
        self.assertEqual(read(thirty + group("more", "root")), [1, 31])
        self.assertEqual(read(thirty + "\n" + person("more") + "x"), [1, 32])
        self.assertEqual(read("".join([person(name) for name in NAMES[:31]])), [1, 31])
        self.assertEqual(read("".join([person(name) for name in NAMES[:30]])), [1, 31])


class MadeTexts(unittest.TestCase):
    """Many made texts against a second reading of the document."""

    def make(self, chance):
        lines = []
        free = []
        for count in range(chance.randint(1, 9)):
            name = chance.choice(NAMES)
            if free and chance.random() < 0.5:
                size = chance.randint(1, min(8, len(free)))
                members = [free.pop(chance.randrange(len(free))) for place in range(size)]
                line = f"group {name} by {chance.choice(WORDS[6:])} of {' '.join(members)}"
            else:
                line = f"person {name} claims {chance.choice([0, 7, 1000000, 1000001])}"
            free.append(name)
            lines.append(line + chance.choice(["", "", " weighs 9", " weighs 100", " "]))
        if chance.random() < 0.7:
            lines.append(f"group zz by even of {' '.join(free[:9])}")
        return "\n".join(lines) + chance.choice(["", "\n", "\n\n"])

    def harm(self, chance, text):
        place = chance.randrange(len(text))
        new = chance.choice(["", " ", "\n", "a", "0", "\t", "\xe9", "weighs 3", "of "])
        return text[:place] + new + text[place + chance.randint(0, 1):]

    def test_many(self):
        chance = random.Random(7)
        right = 0
        for count in range(3000):
            text = self.make(chance)
            for harmed in range(chance.choice([0, 0, 0, 1, 2])):
                text = self.harm(chance, text)
            told = told_parties(text.encode("latin-1"))
            answer = read(text)
            if isinstance(told, int):
                self.assertEqual(answer, [1, told], text)
            else:
                right += 1
                self.assertEqual(answer, [0, len(told), sum([party[2] for party in told])], text)
        self.assertGreater(right, 300)
        self.assertLess(right, 2700)


if __name__ == "__main__":
    unittest.main()
