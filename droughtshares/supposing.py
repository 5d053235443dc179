"""What would be: if a member left or came as two, by another rule, with other water."""

from droughtshares.parties import all_claims, all_shares, member_claims, member_weights
from droughtshares.ratios import at_most, minus, plus, whole
from droughtshares.rules import RULE_NAMES, shares_by


def shares_without(parties, water, group, gone):
    """Of each member that is left: its number, and its share of what is left."""
    claims = all_claims(parties)
    shares = all_shares(parties, water)
    left = [member for member in parties[group].members if member != gone]
    wanted = [claims[member] for member in left]
    weights = [parties[member].weight for member in left]
    given = shares_by(parties[group].rule, minus(shares[group], shares[gone]), wanted, weights)
    return list(zip(left, given))


def share_as_two(parties, water, group, member, claim):
    """What two persons get together in the member's place, the first of them with this claim."""
    claims = member_claims(parties, group)
    weights = member_weights(parties, group)
    place = parties[group].members.index(member)
    weight = weights[place]
    claims = claims[:place] + [claim, claims[place] - claim] + claims[place + 1:]
    weights = weights[:place] + [weight, weight] + weights[place + 1:]
    given = shares_by(parties[group].rule, all_shares(parties, water)[group], claims, weights)
    return plus(given[place], given[place + 1])


def shares_by_each_rule(parties, water, group):
    """A group's own share doesn't hang on its rule, so only its members' are found anew."""
    share = all_shares(parties, water)[group]
    claims = member_claims(parties, group)
    weights = member_weights(parties, group)
    given = []
    for rule in range(len(RULE_NAMES)):
        given.extend(shares_by(rule, share, claims, weights))
    return given


def least_water(parties, number, wanted):
    """By no rule does more water make a share less, and with the root's claim all get theirs: so halving finds it."""
    lowest = 0
    highest = all_claims(parties)[-1]
    while lowest < highest:
        middle = (lowest + highest) // 2
        if at_most(whole(wanted), all_shares(parties, middle)[number]):
            highest = middle
        else:
            lowest = middle + 1
    return lowest
