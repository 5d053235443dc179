"""The sharing, written as a text that could be read again."""

from droughtshares.rules import RULE_NAMES


def words_for(parties, party):
    if party.is_group():
        names = [parties[member].name for member in party.members]
        words = ["group", party.name, "by", RULE_NAMES[party.rule], "of"] + names
    else:
        words = ["person", party.name, "claims", str(party.claim)]
    if party.weight != 1:
        words.extend(["weighs", str(party.weight)])
    return words


def write_sharing(parties):
    """The text's bytes, as numbers."""
    lines = [" ".join(words_for(parties, party)) + "\n" for party in parties]
    return [ord(sign) for sign in "".join(lines)]
