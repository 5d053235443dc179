"""The sharing's text, read into parties."""

from droughtshares.parties import make_group, make_person
from droughtshares.rules import RULE_NAMES

LETTERS = "abcdefghijklmnopqrstuvwxyz"
DIGITS = "0123456789"
UNKNOWN = "?"
KEPT_WORDS = ("person", "group", "claims", "weighs", "by", "of")
LONGEST_NAME = 8
LONGEST_NUMBER = 8
NO_NUMBER = -1
MOST_CLAIMED = 1000000
MOST_WEIGHT = 100
MOST_MEMBERS = 8
MOST_PARTIES = 30


def as_text(numbers):
    """No word of a right line holds another byte than these, so all others may look alike."""
    signs = {}
    for sign in LETTERS + DIGITS + " \n":
        signs[ord(sign)] = sign
    return "".join([signs.get(number, UNKNOWN) for number in numbers])


def lines_of(text):
    lines = text.split("\n")
    if lines[-1] == "":
        lines.pop()
    return lines


def words_of(line):
    return [word for word in line.split(" ") if word != ""]


def number_of(word):
    if not word.isdigit() or len(word) > LONGEST_NUMBER:
        return NO_NUMBER
    if len(word) > 1 and word[0] == "0":
        return NO_NUMBER
    return int(word)


def is_name(word):
    if len(word) > LONGEST_NAME or word in KEPT_WORDS or word in RULE_NAMES:
        return False
    return all([sign in LETTERS for sign in word])


def names_of(parties):
    return [party.name for party in parties]


def taken_members(parties):
    taken = []
    for party in parties:
        taken.extend(party.members)
    return taken


def read_members(words, parties):
    """The members' numbers; None if they can't be a new group's."""
    if not 1 <= len(words) <= MOST_MEMBERS:
        return None
    names = names_of(parties)
    taken = taken_members(parties)
    members = []
    for word in words:
        if word not in names:
            return None
        member = names.index(word)
        if member in taken or member in members:
            return None
        members.append(member)
    return members


def read_person(words, weight):
    if len(words) != 4 or words[2] != "claims":
        return None
    claim = number_of(words[3])
    if not 0 <= claim <= MOST_CLAIMED:
        return None
    return make_person(words[1], weight, claim)


def read_group(words, weight, parties):
    if len(words) < 6 or words[2] != "by" or words[4] != "of":
        return None
    if words[3] not in RULE_NAMES:
        return None
    members = read_members(words[5:], parties)
    if members is None:
        return None
    return make_group(words[1], weight, RULE_NAMES.index(words[3]), members)


def read_party(words, parties):
    """The party that a line's words tell behind these parties; None if the line is wrong."""
    weight = 1
    if len(words) > 2 and words[-2] == "weighs":
        weight = number_of(words[-1])
        words = words[:-2]
    if not 1 <= weight <= MOST_WEIGHT or len(parties) == MOST_PARTIES:
        return None
    if len(words) < 2 or not is_name(words[1]) or words[1] in names_of(parties):
        return None
    if words[0] == "person":
        return read_person(words, weight)
    if words[0] == "group":
        return read_group(words, weight, parties)
    return None


def has_root(parties):
    if len(parties) == 0:
        return False
    taken = taken_members(parties)
    return all([number in taken for number in range(len(parties) - 1)])


def read_sharing(numbers):
    """The parties and 0; or none and the number of the line that is wrong."""
    lines = lines_of(as_text(numbers))
    parties = []
    for count, line in enumerate(lines, start=1):
        words = words_of(line)
        if len(words) > 0:
            party = read_party(words, parties)
            if party is None:
                return ([], count)
            parties.append(party)
    if not has_root(parties):
        return ([], len(lines) + 1)
    return (parties, 0)
