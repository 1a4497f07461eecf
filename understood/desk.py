"""The desk: takes the calls on one new object, one behind another, and gives back what they answer."""

from understood.forms import Forms
from understood.reader import Reader

BEGIN = 0
NUM = 1
TEXT = 2
LIST = 3
RECORD = 4


class UnknownCall(ValueError):
    pass


def answer_num(reader, forms):
    lo = reader.number()
    hi = reader.number()
    return [forms.tell_num(lo, hi)]


def answer_list(reader, forms):
    of = reader.number()
    lo = reader.number()
    hi = reader.number()
    return [forms.tell_list(of, lo, hi)]


def answer_call(reader, forms):
    call = reader.number()
    if call == BEGIN:
        return [forms.begin()]
    if call == NUM:
        return answer_num(reader, forms)
    if call == TEXT:
        return [forms.tell_text(reader.number())]
    if call == LIST:
        return answer_list(reader, forms)
    if call == RECORD:
        return [forms.tell_record(reader.row())]
    raise UnknownCall(f"no call has the number {call}")


def answers(calls):
    reader = Reader(calls)
    forms = Forms()
    given = []
    while reader.has_more():
        answered = answer_call(reader, forms)
        given.append(len(answered))
        given.extend(answered)
    return given
