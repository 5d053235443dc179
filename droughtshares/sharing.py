"""The calls on a sharing, and their answers."""

from droughtshares.parties import all_claims, all_shares, excesses, got_together, group_proof, sure_of, with_claim
from droughtshares.ratios import least_of
from droughtshares.reading import MOST_CLAIMED, read_sharing
from droughtshares.rules import RULE_NAMES, has_level
from droughtshares.supposing import least_water, share_as_two, shares_by_each_rule, shares_without
from droughtshares.writing import write_sharing

NO_SHARING = -9
OUT_OF_RANGE = -1
OTHER_RULE = -4
DONE = 0
WRONG_TEXT = 1
MOST_WATER = 30000000

SHARING = 0
SURE = 8
NUMBER_COUNTS = (0, 1, 2, 2, 0, 1, 0, 1, 1, 1, 2, 3, 2, 2, 1, 2, 0, 0)


class Drought:
    """What the calls on one object change; without parties there is no sharing yet."""

    def __init__(self):
        self.parties = []
        self.water = 0

    def has_party(self, number):
        return 0 <= number < len(self.parties)

    def has_person(self, number):
        return self.has_party(number) and not self.parties[number].is_group()

    def has_group(self, number):
        return self.has_party(number) and self.parties[number].is_group()

    def has_member(self, group, number):
        return self.has_group(group) and number in self.parties[group].members


def flat(ratios):
    numbers = []
    for each in ratios:
        numbers.extend(each)
    return numbers


def is_rising(numbers):
    return all([left < right for left, right in zip(numbers, numbers[1:])])


def answer_sharing(drought, numbers, row):
    told = read_sharing(row)
    if told[1] > 0:
        return [WRONG_TEXT, told[1]]
    drought.parties = told[0]
    drought.water = 0
    return [DONE, len(drought.parties), all_claims(drought.parties)[-1]]


def answer_water(drought, numbers, row):
    if not 0 <= numbers[0] <= MOST_WATER:
        return [OUT_OF_RANGE]
    drought.water = numbers[0]
    return [DONE]


def answer_claim(drought, numbers, row):
    if not drought.has_person(numbers[0]) or not 0 <= numbers[1] <= MOST_CLAIMED:
        return [OUT_OF_RANGE]
    person = drought.parties[numbers[0]]
    person.claim = numbers[1]
    return [DONE]


def answer_rule(drought, numbers, row):
    if not drought.has_group(numbers[0]) or not 0 <= numbers[1] < len(RULE_NAMES):
        return [OUT_OF_RANGE]
    group = drought.parties[numbers[0]]
    group.rule = numbers[1]
    return [DONE]


def answer_shares(drought, numbers, row):
    return [DONE] + flat(all_shares(drought.parties, drought.water))


def answer_share(drought, numbers, row):
    if not drought.has_party(numbers[0]):
        return [OUT_OF_RANGE]
    return [DONE] + list(all_shares(drought.parties, drought.water)[numbers[0]])


def answer_claims(drought, numbers, row):
    return [DONE] + all_claims(drought.parties)


def answer_proof(drought, numbers, row):
    if not drought.has_group(numbers[0]):
        return [OUT_OF_RANGE]
    if not has_level(drought.parties[numbers[0]].rule):
        return [OTHER_RULE]
    proof = group_proof(drought.parties, drought.water, numbers[0])
    return [DONE, proof[0]] + list(proof[1])


def answer_sure(drought, numbers, row):
    if not drought.has_group(numbers[0]) or not is_rising(row):
        return [OUT_OF_RANGE]
    group = drought.parties[numbers[0]]
    if not all([number in group.members for number in row]):
        return [OUT_OF_RANGE]
    sure = sure_of(drought.parties, drought.water, numbers[0], row)
    got = got_together(drought.parties, drought.water, row)
    return [DONE] + flat([sure, got])


def answer_core(drought, numbers, row):
    if not drought.has_group(numbers[0]):
        return [OUT_OF_RANGE]
    found = excesses(drought.parties, drought.water, numbers[0])
    return [DONE, len(found)] + list(least_of(found))


def answer_leave(drought, numbers, row):
    if not drought.has_member(numbers[0], numbers[1]):
        return [OUT_OF_RANGE]
    left = shares_without(drought.parties, drought.water, numbers[0], numbers[1])
    told = [DONE, len(left)]
    for member, share in left:
        told.append(member)
        told.extend(share)
    return told


def answer_split(drought, numbers, row):
    if not drought.has_member(numbers[0], numbers[1]) or not drought.has_person(numbers[1]):
        return [OUT_OF_RANGE]
    if not 0 <= numbers[2] <= drought.parties[numbers[1]].claim:
        return [OUT_OF_RANGE]
    return [DONE] + list(share_as_two(drought.parties, drought.water, numbers[0], numbers[1], numbers[2]))


def answer_if_water(drought, numbers, row):
    if not drought.has_party(numbers[0]) or not 0 <= numbers[1] <= MOST_WATER:
        return [OUT_OF_RANGE]
    return [DONE] + list(all_shares(drought.parties, numbers[1])[numbers[0]])


def answer_if_claim(drought, numbers, row):
    if not drought.has_person(numbers[0]) or not 0 <= numbers[1] <= MOST_CLAIMED:
        return [OUT_OF_RANGE]
    supposed = with_claim(drought.parties, numbers[0], numbers[1])
    return [DONE] + list(all_shares(supposed, drought.water)[numbers[0]])


def answer_rules(drought, numbers, row):
    if not drought.has_group(numbers[0]):
        return [OUT_OF_RANGE]
    return [DONE] + flat(shares_by_each_rule(drought.parties, drought.water, numbers[0]))


def answer_least(drought, numbers, row):
    if not drought.has_party(numbers[0]) or not 0 <= numbers[1] <= all_claims(drought.parties)[numbers[0]]:
        return [OUT_OF_RANGE]
    return [DONE, least_water(drought.parties, numbers[0], numbers[1])]


def answer_print(drought, numbers, row):
    written = write_sharing(drought.parties)
    return [DONE, len(written)] + written


def answer_counts(drought, numbers, row):
    persons = [party for party in drought.parties if not party.is_group()]
    return [DONE, len(drought.parties), len(persons), all_claims(drought.parties)[-1], drought.water]


BY_CALL = (
    answer_sharing,
    answer_water,
    answer_claim,
    answer_rule,
    answer_shares,
    answer_share,
    answer_claims,
    answer_proof,
    answer_sure,
    answer_core,
    answer_leave,
    answer_split,
    answer_if_water,
    answer_if_claim,
    answer_rules,
    answer_least,
    answer_print,
    answer_counts,
)


def answer(drought, call, numbers, row):
    if call != SHARING and len(drought.parties) == 0:
        return [NO_SHARING]
    return BY_CALL[call](drought, numbers, row)


def answers(calls):
    drought = Drought()
    answered = []
    place = 0
    while place < len(calls):
        call = calls[place]
        row_place = place + 1 + NUMBER_COUNTS[call]
        numbers = calls[place + 1:row_place]
        row = []
        place = row_place
        if call == SHARING or call == SURE:
            place = row_place + 1 + calls[row_place]
            row = calls[row_place + 1:place]
        told = answer(drought, call, numbers, row)
        answered.append(len(told))
        answered.extend(told)
    return answered
