"""Persons and groups, their claims and their shares.

Parties stand in a list; a party's number is its place there. A group's
members stand before it, and the last party is the root.
"""

from droughtshares.ratios import greater, minus, plus, total, whole
from droughtshares.rules import proof_by, shares_by


class Party:
    """A person has no members; a group's claim is that of its members, so its own stays 0."""

    def __init__(self, name, weight, claim, rule, members):
        self.name = name
        self.weight = weight
        self.claim = claim
        self.rule = rule
        self.members = members

    def is_group(self):
        return len(self.members) > 0


def make_person(name, weight, claim):
    return Party(name, weight, claim, 0, [])


def make_group(name, weight, rule, members):
    return Party(name, weight, 0, rule, members)


def with_claim(parties, number, claim):
    """The parties as they would be with another claim of one person; those handed in stay as they are."""
    person = parties[number]
    changed = list(parties)
    changed[number] = make_person(person.name, person.weight, claim)
    return changed


def all_claims(parties):
    claims = []
    for party in parties:
        if party.is_group():
            claims.append(sum([claims[member] for member in party.members]))
        else:
            claims.append(party.claim)
    return claims


def member_claims(parties, group):
    claims = all_claims(parties)
    return [claims[member] for member in parties[group].members]


def member_weights(parties, group):
    return [parties[member].weight for member in parties[group].members]


def all_shares(parties, water):
    claims = all_claims(parties)
    root = len(parties) - 1
    shares = [whole(0) for party in parties]
    shares[root] = whole(min(water, claims[root]))
    for number in range(root, -1, -1):
        party = parties[number]
        if party.is_group():
            wanted = [claims[member] for member in party.members]
            given = shares_by(party.rule, shares[number], wanted, member_weights(parties, number))
            for member, share in zip(party.members, given):
                shares[member] = share
    return shares


def group_proof(parties, water, group):
    share = all_shares(parties, water)[group]
    return proof_by(parties[group].rule, share, member_claims(parties, group), member_weights(parties, group))


def left_over(share, others_claim):
    return greater(minus(share, whole(others_claim)), whole(0))


def sure_of(parties, water, group, some):
    """What some members of the group could make sure of without the others."""
    claims = all_claims(parties)
    share = all_shares(parties, water)[group]
    others = [claims[member] for member in parties[group].members if member not in some]
    return left_over(share, sum(others))


def got_together(parties, water, some):
    shares = all_shares(parties, water)
    return total([shares[member] for member in some])


def excesses(parties, water, group):
    """Of each set of the group's members: what they get together less what they could make sure of."""
    claims = all_claims(parties)
    shares = all_shares(parties, water)
    sets = [(whole(0), claims[group])]
    for member in parties[group].members:
        sets = sets + [(plus(got, shares[member]), others - claims[member]) for got, others in sets]
    return [minus(got, left_over(shares[group], others)) for got, others in sets]
