"""Calls written for reading, and a second reckoning of what the document asks, by other ways."""

import re
from fractions import Fraction
from itertools import permutations

from droughtshares.sharing import answers

RULES = ("parts", "even", "losses", "halves", "chance", "order")
WORDS = ("person", "group", "claims", "weighs", "by", "of") + RULES

WATER, CLAIM, RULE, SHARES, SHARE, CLAIMS, PROOF, SURE = range(1, 9)


def sharing(text):
    row = list(text.encode("latin-1"))
    return [0, len(row)] + row


def sure(group, *members):
    return [SURE, group, len(members)] + list(members)


def split_answers(flat):
    each = []
    place = 0
    while place < len(flat):
        size = flat[place]
        each.append(flat[place + 1:place + 1 + size])
        place += 1 + size
    assert place == len(flat)
    return each


def run(*calls):
    """Each call's answer; a call is a list of its numbers."""
    handed = []
    for call in calls:
        handed.extend(call)
    return split_answers(answers(handed))


def as_fractions(answer):
    """The fractions behind an answer's 0."""
    assert answer[0] == 0
    return [Fraction(upper, lower) for upper, lower in zip(answer[1::2], answer[2::2])]


def shared(rule, water, claims, weights=None):
    """What the members of one group get by a rule, as texts such as 10 or 100/3."""
    return [str(share) for share in as_fractions(run(*one_group(rule, water, claims, weights), [SHARES])[-1])[:-1]]


def proven(rule, water, claims, weights=None):
    calls = one_group(rule, water, claims, weights)
    return run(*calls, [PROOF, len(claims)])[-1]


def one_group(rule, water, claims, weights=None):
    weights = weights or [1] * len(claims)
    lines = []
    names = []
    for place, claim in enumerate(claims):
        names.append("abcdefgh"[place] + "x")
        lines.append(f"person {names[-1]} claims {claim} weighs {weights[place]}\n")
    lines.append(f"group all by {rule} of {' '.join(names)}\n")
    return [sharing("".join(lines)), [WATER, water]]


def told_even_level(amount, limits, weights):
    """Walks up the steps of c over w till the water is spent."""
    left = Fraction(amount)
    level = Fraction(0)
    steps = sorted(set(Fraction(limit) / weight for limit, weight in zip(limits, weights)))
    for step in steps:
        open_weight = sum(w for limit, w in zip(limits, weights) if Fraction(limit) / w >= step)
        if left < (step - level) * open_weight:
            return level + left / open_weight
        left -= (step - level) * open_weight
        level = step
    return level


def told_even(amount, limits, weights):
    level = told_even_level(amount, limits, weights)
    return [min(Fraction(limit), level * weight) for limit, weight in zip(limits, weights)]


def told_order(amount, claims, order):
    got = [Fraction(0)] * len(claims)
    for place in order:
        got[place] = min(Fraction(claims[place]), amount)
        amount -= got[place]
    return got


def told_shares(rule, amount, claims, weights):
    claimed = sum(claims)
    half = [Fraction(claim, 2) for claim in claims]
    if rule == "parts":
        return [claim * amount / claimed if claimed else Fraction(0) for claim in claims]
    if rule == "even":
        return told_even(amount, claims, weights)
    if rule == "losses":
        return [c - lost for c, lost in zip(claims, told_even(claimed - amount, claims, weights))]
    if rule == "halves" and amount * 2 <= claimed:
        return told_even(amount, half, weights)
    if rule == "halves":
        return [c - lost for c, lost in zip(claims, told_even(claimed - amount, half, weights))]
    if rule == "order":
        return told_order(amount, claims, range(len(claims)))
    orders = list(permutations(range(len(claims))))
    runs = [told_order(amount, claims, order) for order in orders]
    return [sum(column) / len(orders) for column in zip(*runs)]


def told_proof(rule, amount, claims, weights):
    claimed = sum(claims)
    half = [Fraction(claim, 2) for claim in claims]
    if rule == "even":
        return (0, told_even_level(amount, claims, weights))
    if rule == "losses":
        return (1, told_even_level(claimed - amount, claims, weights))
    if amount * 2 <= claimed:
        return (0, told_even_level(amount, half, weights))
    return (1, told_even_level(claimed - amount, half, weights))


NAME = b"[a-z]{1,8}"
NUMBER = b"(?:0|[1-9][0-9]{0,7})"
WEIGHS = b"(?: weighs (" + NUMBER + b"))?"
PERSON = re.compile(b"person (" + NAME + b") claims (" + NUMBER + b")" + WEIGHS)
GROUP = re.compile(b"group (" + NAME + b") by (" + "|".join(RULES).encode() + b") of ((?:" + NAME + b" )*?" + NAME
                   + b")" + WEIGHS)


def told_party(line, parties):
    """A line's party as (name, weight, claim, rule, member names), None if it's wrong."""
    person = PERSON.fullmatch(line)
    group = GROUP.fullmatch(line)
    found = person or group
    if not found:
        return None
    name = found.group(1).decode()
    weight = int(found.group(3 if person else 4) or b"1")
    if name in WORDS or name in [party[0] for party in parties] or not 1 <= weight <= 100 or len(parties) >= 30:
        return None
    if person:
        claim = int(person.group(2))
        return (name, weight, claim, None, []) if claim <= 1000000 else None
    members = group.group(3).decode().split(" ")
    taken = [member for party in parties for member in party[4]]
    free = [party[0] for party in parties if party[0] not in taken]
    if len(members) > 8 or len(set(members)) < len(members) or not set(members) <= set(free):
        return None
    return (name, weight, 0, group.group(2).decode(), members)


def told_parties(text):
    """The parties, or the wrong line's number."""
    lines = re.findall(rb"[^\n]*\n|[^\n]+", bytes(text))
    parties = []
    for count, line in enumerate(lines, 1):
        line = re.sub(b" +", b" ", line.rstrip(b"\n")).strip(b" ")
        if line:
            party = told_party(line, parties)
            if party is None:
                return count
            parties.append(party)
    members = [member for party in parties for member in party[4]]
    if not parties or any(party[0] not in members for party in parties[:-1]):
        return len(lines) + 1
    return parties
