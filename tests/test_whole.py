"""Whole lists of calls of all eighteen kinds, in every order, against the second reckoning; and the greatest ones."""

import random
import time
import unittest

from droughtshares.sharing import answers
from tests.helper import (
    CLAIM, CLAIMS, CORE, COUNTS, IFCLAIM, IFWATER, LEAST, LEAVE, PRINT, PROOF, RULE, RULES, RULES_OF, SHARE, SHARES,
    SPLIT, SURE, WATER, Told, as_fractions, run, sharing, split_answers, sure,
)

HUGE = 1000000000000000000
LETTERS = "abcdefghijklmnopqrstuvwxyz"
KINDS = range(18)


def make_text(chance, most_claimed, most_parties, most_members):
    """A right text; its groups take in what no other has, and the root all that is left."""
    names = chance.sample([first + second for first in LETTERS for second in "cdg"], 30)
    lines = []
    free = []
    for count in range(chance.randint(1, most_parties)):
        if len(free) > 1 and chance.random() < 0.3 or len(free) > most_members - 1:
            size = chance.randint(2, min(most_members, len(free)))
            members = [free.pop(chance.randrange(len(free))) for place in range(size)]
            line = f"group {names[count]} by {chance.choice(RULES)} of {' '.join(members)}"
        else:
            line = f"person {names[count]} claims {chance.choice([0, most_claimed, chance.randint(0, most_claimed)])}"
        free.append(names[count])
        lines.append(line + chance.choice(["", " weighs 1", " weighs 2", " weighs 7", " weighs 100"]))
    if len(free) > 1 or chance.random() < 0.3:
        lines.append(f"group root by {chance.choice(RULES)} of {' '.join(free)}")
    return "\n".join(lines) + chance.choice(["", "\n"])


class Maker:
    """Makes calls for what the second reckoning holds, some of them wrong."""

    def __init__(self, chance, most_claimed, most_parties, most_members):
        self.chance = chance
        self.sizes = (most_claimed, most_parties, most_members)
        self.told = Told()
        self.rest = {"many": 10, "least": 4}

    def number(self, right):
        """Mostly one of the right ones."""
        if right and self.chance.random() < 0.9:
            return self.chance.choice(list(right))
        return self.chance.choice([-1, 0, 1, 2, 5, 29, 30, 1000001, 30000001, HUGE, -HUGE])

    def upto(self, highest):
        if self.chance.random() < 0.1:
            return self.chance.choice([-1, highest + 1, HUGE, -HUGE])
        return self.chance.choice([0, highest, self.chance.randint(0, highest)])

    def water(self):
        claimed = sum(party[2] for party in self.told.parties or [])
        return self.upto(self.chance.choice([claimed, claimed, claimed + 3, 30000000]))

    def claim(self):
        return self.chance.choice([self.upto(self.sizes[0]), self.upto(self.sizes[0]), -1, 1000001])

    def text(self):
        text = make_text(self.chance, *self.sizes)
        if self.chance.random() < 0.3:
            place = self.chance.randrange(len(text))
            text = text[:place] + self.chance.choice(["", " ", "\n", "x"]) + text[place + 1:]
        return sharing(text)

    def call(self, kind):
        parties = self.told.parties or []
        persons = [number for number, party in enumerate(parties) if not party[4]]
        groups = [number for number, party in enumerate(parties) if party[4]]
        group = self.number(groups)
        members = self.told.members(group) if group in groups else persons
        party = self.number(range(len(parties)))
        person = self.number(persons)
        if kind == SURE:
            some = [member for member in sorted(members) if self.chance.random() < 0.5][:8]
            some += [self.number(members)] if self.chance.random() < 0.1 and len(some) < 8 else []
            return [SURE, group, len(some)] + some
        if kind == SPLIT:
            member = self.number(members)
            return [SPLIT, group, member, self.upto(parties[member][2] if member in persons else 5)]
        if kind == LEAST:
            claims = self.told.claims() if parties else []
            return [LEAST, party, self.upto(claims[party] if 0 <= party < len(claims) else 5)]
        if kind in (WATER, IFWATER):
            return [WATER, self.water()] if kind == WATER else [IFWATER, party, self.water()]
        if kind in (CLAIM, IFCLAIM):
            return [kind, person, self.claim()]
        made = {RULE: [RULE, group, self.upto(5)], SHARE: [SHARE, party], LEAVE: [LEAVE, group, self.number(members)],
                PROOF: [PROOF, group], CORE: [CORE, group], RULES_OF: [RULES_OF, group]}
        return self.text() if kind == 0 else made.get(kind, [kind])

    def kind(self, kinds):
        kind = self.chance.choice(kinds)
        if kind in (CORE, RULES_OF):
            self.rest["many"] -= 1
            return kind if self.rest["many"] >= 0 else SHARES
        if kind == LEAST:
            self.rest["least"] -= 1
            return kind if self.rest["least"] >= 0 else COUNTS
        return kind

    def calls(self, count, kinds):
        """The calls, and what is asked of them."""
        made = [self.text()] if self.chance.random() < 0.9 else []
        wanted = [self.told.answer(call) for call in made]
        size = sum(map(len, made))
        while len(made) < count:
            call = self.call(self.kind(kinds))
            if size + len(call) > 17000:
                break
            size += len(call)
            made.append(call)
            wanted.append(self.told.answer(call))
        return made, wanted


class Made(unittest.TestCase):
    def check(self, seed, lists, sizes, kinds):
        chance = random.Random(seed)
        answered = {}
        for count in range(lists):
            made, wanted = Maker(chance, *sizes).calls(chance.choice([1, 5, 30, 120]), kinds)
            given = run(*made)
            self.assertEqual(len(given), len(wanted))
            for place, call in enumerate(made):
                self.assertEqual(given[place], wanted[place], made[:place + 1])
                answered.setdefault(call[0], []).append(given[place][0])
        for kind in kinds:
            self.assertIn(0, answered[kind], kind)
            if kind not in (0, SHARES, CLAIMS, PRINT, COUNTS):
                self.assertIn(-1, answered[kind], kind)
        return answered

    def test_small_claims(self):
        answered = self.check(1, 300, (6, 9, 5), list(KINDS) + [WATER, CLAIM, RULE])
        for kind in KINDS:
            self.assertIn(1 if kind == 0 else -9, answered[kind], kind)

    def test_great_claims(self):
        kinds = [kind for kind in KINDS if kind != LEAST]
        self.check(2, 200, (1000000, 12, 5), kinds + [WATER, CLAIM, RULE])

    def test_many_parties(self):
        kinds = [kind for kind in KINDS if kind not in (0, LEAST)]
        self.check(3, 60, (1000, 29, 6), kinds + [WATER, CLAIM, RULE])

    def test_great_groups(self):
        kinds = [kind for kind in KINDS if kind not in (0, LEAST)]
        self.check(4, 20, (1000000, 14, 8), kinds + [WATER])


def chain_text(rule, members):
    """30 parties: groups in groups, each with so many members but the last."""
    lines = []
    inner = []
    while len(lines) < 30:
        names = list(inner)
        while len(names) < members and len(lines) < 29:
            names.append(LETTERS[len(lines) % 26] + "cd"[len(lines) // 26])
            lines.append(f"person {names[-1]} claims {1000000 - len(lines) * 7919} weighs {100 - len(lines)}")
        inner = [LETTERS[len(lines) % 26] + "cd"[len(lines) // 26]]
        lines.append(f"group {inner[0]} by {rule} of {' '.join(names)} weighs {len(lines) + 1}")
    return "\n".join(lines)


class Greatest(unittest.TestCase):
    def test_in_a_short_time(self):
        begun = time.monotonic()
        for rule in RULES:
            for members in (2, 8):
                text = sharing(chain_text(rule, members))
                calls = [text, [WATER, 12345677]] + [[LEAST, 0, 700001]] * 4 + [[CORE, 29], [RULES_OF, members]] * 5
                calls += [[SHARES], [SPLIT, members, 1, 333333], [LEAVE, members, 1], [IFWATER, 0, 9999991],
                          [IFCLAIM, 0, 1], [PRINT], [COUNTS], [PROOF, members]] * 13
                given = run(*calls)
                self.assertEqual(len(given), 120)
                self.assertEqual(given[0][:2], [0, 30])
                water = given[2][1]
                least = run(text, [IFWATER, 0, water], [IFWATER, 0, water - 1])
                self.assertGreaterEqual(as_fractions(least[1])[0], 700001)
                self.assertLess(as_fractions(least[2])[0], 700001)
                self.assertEqual(given[16:24], given[-8:])
        self.assertLess(time.monotonic() - begun, 60)

    def test_17000_numbers(self):
        text = chain_text("halves", 8)
        text += "\n" * (2000 - len(text))
        handed = sharing(text) * 8 + sure(8, *range(8)) * 80 + [SPLIT, 8, 0, 7] * 24 + [COUNTS] * 8
        self.assertEqual(len(handed), 17000)
        given = split_answers(answers(handed))
        self.assertEqual(len(given), 120)
        self.assertEqual(given[:8], [given[0]] * 8)
        self.assertEqual(given[8:112], [[0, 0, 1, 0, 1]] * 80 + [[0, 0, 1]] * 24)
        self.assertEqual(given[112:], [[0, 30, 26] + given[0][2:] + [0]] * 8)


if __name__ == "__main__":
    unittest.main()
