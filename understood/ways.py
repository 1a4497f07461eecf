"""The ways in which the least message that is wanted can be built.

A want is a pair of form numbers: a message of the first form that is none of the second one's, or, where NO_FORM
stands for the second, any message of the first.

A way is a triple: the parts of its own, the numbers that it begins with, and its steps. A step is a pair: the numbers
that stand ahead of a message within, and the want that this message meets. Where each step takes the least message
that meets its want, each way gives a message that meets the want it is a way to, and the least of all such is among
them.
"""

from understood.forms import CHOICE, LIST, NUM, RECORD, TEXT

NO_FORM = -1


def any_of(number):
    return (number, NO_FORM)


def num_way(value):
    return (1, [NUM, value], [])


def text_way(size):
    return (1 + size, [TEXT, size] + [0] * size, [])


def list_way(wants):
    return (1, [LIST, len(wants)], [([], want) for want in wants])


def record_way(named_wants):
    return (1, [RECORD, len(named_wants)], [([name], want) for name, want in named_wants])


def choice_way(name, want):
    return (1, [CHOICE, name], [([], want)])


def must_be_there(fields):
    return [field for field in fields if field[1] == 0]


def ways_to_any(form):
    if form[0] == NUM:
        return [num_way(form[1])]
    if form[0] == TEXT:
        return [text_way(0)]
    if form[0] == LIST:
        return [list_way([any_of(form[1])] * form[2])]
    if form[0] == RECORD:
        return [record_way([(field[0], any_of(field[2])) for field in must_be_there(form[1])])]
    return [choice_way(one[0], any_of(one[1])) for one in form[1]]


def least_outside(lo, hi, other_lo, other_hi):
    if lo < other_lo or lo > other_hi:
        return lo
    if hi > other_hi:
        return other_hi + 1
    return None


def ways_outside_num(form, other):
    value = least_outside(form[1], form[2], other[1], other[2])
    if value is None:
        return []
    return [num_way(value)]


def ways_outside_text(form, other):
    size = least_outside(0, form[1], 0, other[1])
    if size is None:
        return []
    return [text_way(size)]


# One message within that the other doesn't take is enough, whether or not it takes the size. All else being the same,
# the earliest row has it first if it is earlier than the least ones beside it, and last if it is later.
def ways_within_list(form, other):
    size = max(1, form[2])
    if size > form[3]:
        return []
    refused = [(form[1], other[1])]
    rest = [any_of(form[1])] * (size - 1)
    return [list_way(refused + rest), list_way(rest + refused)]


def ways_outside_list(form, other):
    ways = ways_within_list(form, other)
    size = least_outside(form[2], form[3], other[2], other[3])
    if size is not None:
        ways.append(list_way([any_of(form[1])] * size))
    return ways


def fewest_lack_one(fields, other_fields):
    sent = [field[0] for field in must_be_there(fields)]
    for field in must_be_there(other_fields):
        if field[0] not in sent:
            return True
    return False


# To be refused for one field, a message needs this one and those that must be there, nothing else.
def way_by_field(fields, name, want):
    named_wants = []
    for field in fields:
        if field[0] == name:
            named_wants.append((name, want))
        elif field[1] == 0:
            named_wants.append((field[0], any_of(field[2])))
    return record_way(named_wants)


def ways_outside_record(form, other):
    if fewest_lack_one(form[1], other[1]):
        return ways_to_any(form)
    taken = dict([(field[0], field[2]) for field in other[1]])
    ways = []
    for field in form[1]:
        want = (field[2], taken.get(field[0], NO_FORM))
        ways.append(way_by_field(form[1], field[0], want))
    return ways


def ways_outside_choice(form, other):
    taken = dict(other[1])
    return [choice_way(one[0], (one[1], taken.get(one[0], NO_FORM))) for one in form[1]]


def ways_outside(form, other):
    if form[0] != other[0]:
        return ways_to_any(form)
    if form[0] == NUM:
        return ways_outside_num(form, other)
    if form[0] == TEXT:
        return ways_outside_text(form, other)
    if form[0] == LIST:
        return ways_outside_list(form, other)
    if form[0] == RECORD:
        return ways_outside_record(form, other)
    return ways_outside_choice(form, other)


def ways_to(told, want):
    if want[1] == NO_FORM:
        return ways_to_any(told[want[0]])
    return ways_outside(told[want[0]], told[want[1]])
