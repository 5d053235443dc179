"""Calls written for reading, and a second reckoning of what the document asks, by other ways."""

import re
from fractions import Fraction
from functools import lru_cache
from itertools import combinations, permutations

from droughtshares.sharing import answers

RULES = ("parts", "even", "losses", "halves", "chance", "order")
WORDS = ("person", "group", "claims", "weighs", "by", "of") + RULES

WATER, CLAIM, RULE, SHARES, SHARE, CLAIMS, PROOF, SURE = range(1, 9)
CORE, LEAVE, SPLIT, IFWATER, IFCLAIM, RULES_OF, LEAST, PRINT, COUNTS = range(9, 18)


def sharing(text):
    row = list(text.encode("latin-1"))
    return [0, len(row)] + row


def sure(group, *members):
    return [SURE, group, len(members)] + list(members)


def split_answers(flat):
    each = []
    place = 0
    while place < len(flat):
        size = flat[place]
        each.append(flat[place + 1:place + 1 + size])
        place += 1 + size
    assert place == len(flat)
    return each


def run(*calls):
    """Each call's answer; a call is a list of its numbers."""
    handed = []
    for call in calls:
        handed.extend(call)
    return split_answers(answers(handed))


def as_fractions(answer):
    """The fractions behind an answer's 0."""
    assert answer[0] == 0
    return [Fraction(upper, lower) for upper, lower in zip(answer[1::2], answer[2::2])]


def shared(rule, water, claims, weights=None):
    """What the members of one group get by a rule, as texts such as 10 or 100/3."""
    return [str(share) for share in as_fractions(run(*one_group(rule, water, claims, weights), [SHARES])[-1])[:-1]]


def proven(rule, water, claims, weights=None):
    calls = one_group(rule, water, claims, weights)
    return run(*calls, [PROOF, len(claims)])[-1]


def one_group(rule, water, claims, weights=None):
    weights = weights or [1] * len(claims)
    lines = []
    names = []
    for place, claim in enumerate(claims):
        names.append("abcdefgh"[place] + "x")
        lines.append(f"person {names[-1]} claims {claim} weighs {weights[place]}\n")
    lines.append(f"group all by {rule} of {' '.join(names)}\n")
    return [sharing("".join(lines)), [WATER, water]]


def told_even_level(amount, limits, weights):
    """Walks up the steps of c over w till the water is spent."""
    left = Fraction(amount)
    level = Fraction(0)
    steps = sorted(set(Fraction(limit) / weight for limit, weight in zip(limits, weights)))
    for step in steps:
        open_weight = sum(w for limit, w in zip(limits, weights) if Fraction(limit) / w >= step)
        if left < (step - level) * open_weight:
            return level + left / open_weight
        left -= (step - level) * open_weight
        level = step
    return level


def told_even(amount, limits, weights):
    level = told_even_level(amount, limits, weights)
    return [min(Fraction(limit), level * weight) for limit, weight in zip(limits, weights)]


def told_order(amount, claims, order):
    got = [Fraction(0)] * len(claims)
    for place in order:
        got[place] = min(Fraction(claims[place]), amount)
        amount -= got[place]
    return got


def told_chance(amount, claims):
    """All orders one by one; where they are too many: whoever comes first takes, then the others come by chance."""
    places = range(len(claims))
    if len(claims) <= 5:
        runs = [told_order(amount, claims, order) for order in permutations(places)]
        return [sum(column) / len(runs) for column in zip(*runs)]

    @lru_cache(maxsize=None)
    def mean(coming):
        left = max(Fraction(0), amount - sum(claims[place] for place in places if place not in coming))
        got = {place: Fraction(0) for place in coming}
        for first in coming:
            got[first] += min(claims[first], left)
            for place, share in mean(tuple(other for other in coming if other != first)).items():
                got[place] += share
        return {place: share / len(coming) for place, share in got.items()}

    shares = mean(tuple(places))
    return [shares[place] for place in places]


def told_shares(rule, amount, claims, weights):
    claimed = sum(claims)
    half = [Fraction(claim, 2) for claim in claims]
    if rule == "parts":
        return [claim * amount / claimed if claimed else Fraction(0) for claim in claims]
    if rule == "even":
        return told_even(amount, claims, weights)
    if rule == "losses":
        return [c - lost for c, lost in zip(claims, told_even(claimed - amount, claims, weights))]
    if rule == "halves" and amount * 2 <= claimed:
        return told_even(amount, half, weights)
    if rule == "halves":
        return [c - lost for c, lost in zip(claims, told_even(claimed - amount, half, weights))]
    if rule == "order":
        return told_order(amount, claims, range(len(claims)))
    return told_chance(amount, claims)


def told_proof(rule, amount, claims, weights):
    claimed = sum(claims)
    half = [Fraction(claim, 2) for claim in claims]
    if rule == "even":
        return (0, told_even_level(amount, claims, weights))
    if rule == "losses":
        return (1, told_even_level(claimed - amount, claims, weights))
    if amount * 2 <= claimed:
        return (0, told_even_level(amount, half, weights))
    return (1, told_even_level(claimed - amount, half, weights))


NAME = b"[a-z]{1,8}"
NUMBER = b"(?:0|[1-9][0-9]{0,7})"
WEIGHS = b"(?: weighs (" + NUMBER + b"))?"
PERSON = re.compile(b"person (" + NAME + b") claims (" + NUMBER + b")" + WEIGHS)
GROUP = re.compile(b"group (" + NAME + b") by (" + "|".join(RULES).encode() + b") of ((?:" + NAME + b" )*?" + NAME
                   + b")" + WEIGHS)


def told_party(line, parties):
    """A line's party as (name, weight, claim, rule, member names), None if it's wrong."""
    person = PERSON.fullmatch(line)
    group = GROUP.fullmatch(line)
    found = person or group
    if not found:
        return None
    name = found.group(1).decode()
    weight = int(found.group(3 if person else 4) or b"1")
    if name in WORDS or name in [party[0] for party in parties] or not 1 <= weight <= 100 or len(parties) >= 30:
        return None
    if person:
        claim = int(person.group(2))
        return (name, weight, claim, None, []) if claim <= 1000000 else None
    members = group.group(3).decode().split(" ")
    taken = [member for party in parties for member in party[4]]
    free = [party[0] for party in parties if party[0] not in taken]
    if len(members) > 8 or len(set(members)) < len(members) or not set(members) <= set(free):
        return None
    return (name, weight, 0, group.group(2).decode(), members)


def told_parties(text):
    """The parties, or the wrong line's number."""
    lines = re.findall(rb"[^\n]*\n|[^\n]+", bytes(text))
    parties = []
    for count, line in enumerate(lines, 1):
        line = re.sub(b" +", b" ", line.rstrip(b"\n")).strip(b" ")
        if line:
            party = told_party(line, parties)
            if party is None:
                return count
            parties.append(party)
    members = [member for party in parties for member in party[4]]
    if not parties or any(party[0] not in members for party in parties[:-1]):
        return len(lines) + 1
    return parties


def told_all(parties, water):
    """Each party's claim and share, and the groups' proofs by name."""
    claims = {}
    for name, weight, claim, rule, members in parties:
        claims[name] = sum([claims[member] for member in members]) if members else claim
    weights = {party[0]: party[1] for party in parties}
    shares = {parties[-1][0]: Fraction(min(water, claims[parties[-1][0]]))}
    proofs = {}
    for name, weight, claim, rule, members in reversed(parties):
        if members:
            given = (shares[name], [claims[member] for member in members], [weights[member] for member in members])
            shares.update(zip(members, told_shares(rule, *given)))
            if rule in ("even", "losses", "halves"):
                proofs[name] = told_proof(rule, *given)
    names = [party[0] for party in parties]
    return ([claims[name] for name in names], [shares[name] for name in names], proofs)


def told_text(parties):
    lines = []
    for name, weight, claim, rule, members in parties:
        line = f"group {name} by {rule} of {' '.join(members)}" if members else f"person {name} claims {claim}"
        lines.append(line + (f" weighs {weight}" if weight > 1 else "") + "\n")
    return "".join(lines)


def flat(*fractions):
    return [number for each in fractions for number in Fraction(each).as_integer_ratio()]


class Refused(Exception):
    """The refusal's number."""


def ask(right, refusal=-1):
    if not right:
        raise Refused(refusal)


class Told:
    """A second reckoning of the calls. A call is a list of its numbers, as it is handed in."""

    CALLS = ("sharing water claim rule shares share claims proof sure core leave split ifwater ifclaim rules least "
             "print counts").split()

    def __init__(self):
        self.parties = None
        self.water = 0

    def answer(self, call):
        name = self.CALLS[call[0]]
        try:
            ask(self.parties is not None or name == "sharing", -9)
            return getattr(self, "tell_" + name)(*call[1:])
        except Refused as refused:
            return [refused.args[0]]

    def ask_party(self, number, sort=None):
        ask(0 <= number < len(self.parties))
        ask(sort is None or sort == ("group" if self.parties[number][4] else "person"))

    def ask_range(self, number, highest):
        ask(0 <= number <= highest)

    def members(self, group):
        self.ask_party(group, "group")
        names = [party[0] for party in self.parties]
        return [names.index(member) for member in self.parties[group][4]]

    def changed(self, number, claim=None, rule=None):
        name, weight, old_claim, old_rule, members = self.parties[number]
        new = (name, weight, old_claim if claim is None else claim, old_rule if rule is None else RULES[rule], members)
        return self.parties[:number] + [new] + self.parties[number + 1:]

    def claims(self):
        return told_all(self.parties, 0)[0]

    def shares(self):
        return told_all(self.parties, self.water)[1]

    def given(self, group, share, pairs):
        """What those with these claims and weights get of a share by the group's rule."""
        if not pairs:
            return []
        return told_shares(self.parties[group][3], share, [pair[0] for pair in pairs], [pair[1] for pair in pairs])

    def tell_sharing(self, size, *text):
        told = told_parties(text)
        if isinstance(told, int):
            return [1, told]
        self.parties = told
        self.water = 0
        return [0, len(told), self.claims()[-1]]

    def tell_water(self, water):
        self.ask_range(water, 30000000)
        self.water = water
        return [0]

    def tell_claim(self, person, claim):
        self.ask_party(person, "person")
        self.ask_range(claim, 1000000)
        self.parties = self.changed(person, claim=claim)
        return [0]

    def tell_rule(self, group, rule):
        self.ask_party(group, "group")
        self.ask_range(rule, 5)
        self.parties = self.changed(group, rule=rule)
        return [0]

    def tell_shares(self):
        return [0] + flat(*self.shares())

    def tell_share(self, party):
        self.ask_party(party)
        return [0] + flat(self.shares()[party])

    def tell_claims(self):
        return [0] + self.claims()

    def tell_proof(self, group):
        self.ask_party(group, "group")
        proofs = told_all(self.parties, self.water)[2]
        ask(self.parties[group][0] in proofs, -4)
        kind, level = proofs[self.parties[group][0]]
        return [0, kind] + flat(level)

    def tell_sure(self, group, size, *some):
        ask(list(some) == sorted(set(some)) and set(some) <= set(self.members(group)))
        claims, shares = self.claims(), self.shares()
        others = sum(claims[member] for member in self.members(group) if member not in some)
        return [0] + flat(max(0, shares[group] - others), sum(shares[member] for member in some))

    def tell_core(self, group):
        members = self.members(group)
        sets = [some for size in range(len(members) + 1) for some in combinations(members, size)]
        claims, shares = self.claims(), self.shares()
        least = None
        for some in sets:
            others = sum(claims[member] for member in members if member not in some)
            over = sum(shares[member] for member in some) - max(0, shares[group] - others)
            least = over if least is None else min(least, over)
        return [0, len(sets)] + flat(least)

    def tell_leave(self, group, member):
        members = self.members(group)
        ask(member in members)
        members.remove(member)
        claims, shares = self.claims(), self.shares()
        pairs = [(claims[number], self.parties[number][1]) for number in members]
        told = [0, len(members)]
        for number, share in zip(members, self.given(group, shares[group] - shares[member], pairs)):
            told += [number] + flat(share)
        return told

    def tell_split(self, group, member, claim):
        members = self.members(group)
        ask(member in members)
        self.ask_party(member, "person")
        claims = self.claims()
        self.ask_range(claim, claims[member])
        pairs = []
        for number in members:
            weight = self.parties[number][1]
            pairs += [(claim, weight), (claims[member] - claim, weight)] if number == member \
                else [(claims[number], weight)]
        place = members.index(member)
        return [0] + flat(sum(self.given(group, self.shares()[group], pairs)[place:place + 2]))

    def tell_ifwater(self, party, water):
        self.ask_party(party)
        self.ask_range(water, 30000000)
        return [0] + flat(told_all(self.parties, water)[1][party])

    def tell_ifclaim(self, person, claim):
        self.ask_party(person, "person")
        self.ask_range(claim, 1000000)
        return [0] + flat(told_all(self.changed(person, claim=claim), self.water)[1][person])

    def tell_rules(self, group):
        told = [0]
        members = self.members(group)
        for rule in range(6):
            shares = told_all(self.changed(group, rule=rule), self.water)[1]
            told += flat(*[shares[member] for member in members])
        return told

    def tell_least(self, party, wanted):
        """From below, one by one: only for small claims."""
        self.ask_party(party)
        self.ask_range(wanted, self.claims()[party])
        water = 0
        while told_all(self.parties, water)[1][party] < wanted:
            water += 1
        return [0, water]

    def tell_print(self):
        text = told_text(self.parties).encode()
        return [0, len(text)] + list(text)

    def tell_counts(self):
        persons = [party for party in self.parties if not party[4]]
        return [0, len(self.parties), len(persons), sum(party[2] for party in persons), self.water]
