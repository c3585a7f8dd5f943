"""Fields of plants that have two kinds each: the calls on one object, and what each answers."""

from restsquares.shares import (
    generations_to_rest,
    is_at_rest,
    lack_of_mixed,
    later_weights,
    left_by_halves,
    pair_count,
    pair_place,
    rarest_kind,
    share_expected,
    share_mixed,
    share_of_kind,
    share_of_pair,
    weights_by_any,
    weights_crossed,
    weights_together,
)

NO_FIELD = -2
NO_PLANTS = -6
NOT_STARTED = -11
TOO_FEW = -12
WRONG = -22
FULL = -28
NO_ANSWER = -33

FEWEST_KINDS = 2
MOST_KINDS = 4
MOST_FIELDS = 6
MOST_OF_A_PAIR = 100
MOST_OF_HUNDRED = 100
MOST_GENERATIONS = 3
MOST_HALVES = 10

START = 0
FIELD = 1

# How many numbers each call tells, by the call's number; that of field is told in the list itself.
TOLD_COUNTS = (1, 0, 4, 4, 3, 2, 3, 5, 1, 1, 1, 1, 2, 2, 4, 2, 1, 1, 2, 0)


# The object that one list of calls is about; that it has no kinds tells that it isn't started.
class Garden:
    def __init__(self):
        self.kinds = 0
        self.fields = []


def is_no_field(garden, f):
    return f >= len(garden.fields)


def is_no_kind(garden, asked_kinds):
    return any([i >= garden.kinds for i in asked_kinds])


# What refuses a call that asks for shares, or 0; the first one named in the document is answered.
# So all that the first field is refused for goes ahead of what the second one is.
def shares_refusal(garden, asked_fields, asked_kinds):
    for f in asked_fields:
        if is_no_field(garden, f):
            return NO_FIELD
        if sum(garden.fields[f]) == 0:
            return NO_PLANTS
    if is_no_kind(garden, asked_kinds):
        return WRONG
    return 0


# What refuses a put and a take alike, or 0.
def change_refusal(garden, f, asked_kinds, n):
    if is_no_field(garden, f):
        return NO_FIELD
    if is_no_kind(garden, asked_kinds) or n == 0:
        return WRONG
    return 0


def one_if(holds):
    # A whole number is asked for, never True or False.
    return 1 if holds else 0


def answer_start(garden, told):
    kinds = told[0]
    if kinds < FEWEST_KINDS or kinds > MOST_KINDS:
        return [WRONG]
    garden.kinds = kinds
    garden.fields = []
    return [0]


def answer_field(garden, told):
    if len(told) != pair_count(garden.kinds) or max(told) > MOST_OF_A_PAIR:
        return [WRONG]
    if len(garden.fields) == MOST_FIELDS:
        return [FULL]
    garden.fields.append(list(told))
    return [len(garden.fields) - 1]


def answer_put(garden, told):
    n = told[3]
    refusal = change_refusal(garden, told[0], told[1:3], n)
    if refusal != 0:
        return [refusal]
    plants = garden.fields[told[0]]
    place = pair_place(garden.kinds, told[1], told[2])
    if plants[place] + n > MOST_OF_A_PAIR:
        return [WRONG]
    plants[place] = plants[place] + n
    return [plants[place]]


def answer_take(garden, told):
    n = told[3]
    refusal = change_refusal(garden, told[0], told[1:3], n)
    if refusal != 0:
        return [refusal]
    plants = garden.fields[told[0]]
    place = pair_place(garden.kinds, told[1], told[2])
    if plants[place] < n:
        return [TOO_FEW]
    plants[place] = plants[place] - n
    return [plants[place]]


def answer_share(garden, told):
    refusal = shares_refusal(garden, told[:1], told[1:])
    if refusal != 0:
        return [refusal]
    plants = garden.fields[told[0]]
    return [0] + share_of_pair(garden.kinds, plants, told[1], told[2])


def answer_kind(garden, told):
    refusal = shares_refusal(garden, told[:1], told[1:])
    if refusal != 0:
        return [refusal]
    plants = garden.fields[told[0]]
    return [0] + share_of_kind(garden.kinds, plants, told[1])


def answer_next(garden, told):
    refusal = shares_refusal(garden, told[:1], told[1:])
    if refusal != 0:
        return [refusal]
    children = weights_by_any(garden.kinds, garden.fields[told[0]])
    return [0] + share_of_pair(garden.kinds, children, told[1], told[2])


def answer_after(garden, told):
    s = told[1]
    n = told[2]
    refusal = shares_refusal(garden, told[:1], told[3:])
    if refusal != 0:
        return [refusal]
    if s > MOST_OF_HUNDRED or n > MOST_GENERATIONS:
        return [WRONG]
    later = later_weights(garden.kinds, garden.fields[told[0]], s, n)
    return [0] + share_of_pair(garden.kinds, later, told[3], told[4])


def answer_mixed(garden, told):
    refusal = shares_refusal(garden, told[:1], [])
    if refusal != 0:
        return [refusal]
    return [0] + share_mixed(garden.kinds, garden.fields[told[0]])


def answer_expected(garden, told):
    refusal = shares_refusal(garden, told[:1], [])
    if refusal != 0:
        return [refusal]
    return [0] + share_expected(garden.kinds, garden.fields[told[0]])


def answer_lack(garden, told):
    refusal = shares_refusal(garden, told[:1], [])
    if refusal != 0:
        return [refusal]
    plants = garden.fields[told[0]]
    expected = share_expected(garden.kinds, plants)
    if expected[0] == 0:
        return [NO_ANSWER]
    return [0] + lack_of_mixed(share_mixed(garden.kinds, plants), expected)


def answer_rest(garden, told):
    refusal = shares_refusal(garden, told[:1], [])
    if refusal != 0:
        return [refusal]
    return [one_if(is_at_rest(garden.kinds, garden.fields[told[0]]))]


def answer_soon(garden, told):
    n = told[1]
    refusal = shares_refusal(garden, told[:1], [])
    if refusal != 0:
        return [refusal]
    if n > MOST_GENERATIONS:
        return [WRONG]
    found = generations_to_rest(garden.kinds, garden.fields[told[0]], n)
    if found is None:
        return [NO_ANSWER]
    return [found]


def answer_together(garden, told):
    refusal = shares_refusal(garden, told[:2], [])
    if refusal != 0:
        return [refusal]
    plants = weights_together(garden.fields[told[0]], garden.fields[told[1]])
    return [0] + share_expected(garden.kinds, plants) + share_mixed(garden.kinds, plants)


def answer_cross(garden, told):
    refusal = shares_refusal(garden, told[:2], told[2:])
    if refusal != 0:
        return [refusal]
    children = weights_crossed(garden.kinds, garden.fields[told[0]], garden.fields[told[1]])
    return [0] + share_of_pair(garden.kinds, children, told[2], told[3])


def answer_cross_next(garden, told):
    refusal = shares_refusal(garden, told[:2], [])
    if refusal != 0:
        return [refusal]
    children = weights_crossed(garden.kinds, garden.fields[told[0]], garden.fields[told[1]])
    behind = weights_by_any(garden.kinds, children)
    return [one_if(is_at_rest(garden.kinds, children)), one_if(is_at_rest(garden.kinds, behind))]


def answer_rarest(garden, told):
    refusal = shares_refusal(garden, told[:1], [])
    if refusal != 0:
        return [refusal]
    plants = garden.fields[told[0]]
    i = rarest_kind(garden.kinds, plants)
    return [i] + share_of_kind(garden.kinds, plants, i)


def answer_size(garden, told):
    if is_no_field(garden, told[0]):
        return [NO_FIELD]
    return [sum(garden.fields[told[0]])]


def answer_half(garden, told):
    s = told[0]
    n = told[1]
    if s > MOST_OF_HUNDRED or n > MOST_HALVES:
        return [WRONG]
    return [0] + left_by_halves(s, n)


def answer_state(garden, told):
    return [garden.kinds, len(garden.fields)]


# By the call's number.
ANSWERERS = (
    answer_start,
    answer_field,
    answer_put,
    answer_take,
    answer_share,
    answer_kind,
    answer_next,
    answer_after,
    answer_mixed,
    answer_expected,
    answer_lack,
    answer_rest,
    answer_soon,
    answer_together,
    answer_cross,
    answer_cross_next,
    answer_rarest,
    answer_size,
    answer_half,
    answer_state,
)


def answer_of(garden, number, told):
    if garden.kinds == 0 and number != START:
        return [NOT_STARTED]
    answerer = ANSWERERS[number]
    return answerer(garden, told)


def told_begin(calls, place):
    # A row has its length before it, and field alone has a row.
    if calls[place] == FIELD:
        return place + 2
    return place + 1


def told_count(calls, place):
    if calls[place] == FIELD:
        return calls[place + 1]
    return TOLD_COUNTS[calls[place]]


# The answers to the calls, laid behind one another, each with its length before it.
def answers(calls):
    garden = Garden()
    given = []
    place = 0
    while place < len(calls):
        begin = told_begin(calls, place)
        end = begin + told_count(calls, place)
        answer = answer_of(garden, calls[place], calls[begin:end])
        given.append(len(answer))
        given.extend(answer)
        place = end
    return given
