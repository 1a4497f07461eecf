"""The desk: takes the calls on one new object, one behind another, and gives back what they answer."""

from understood.forms import Forms
from understood.questions import Questions
from understood.reader import Reader

BEGIN = 0
NUM = 1
TEXT = 2
LIST = 3
RECORD = 4
CHOICE = 5
IS = 6
SOME = 7
WITHIN = 8


class UnknownCall(ValueError):
    pass


def answer_num(reader, forms):
    lo = reader.number()
    hi = reader.number()
    return [forms.tell_num(lo, hi)]


def answer_list(reader, forms):
    of = reader.number()
    lo = reader.number()
    hi = reader.number()
    return [forms.tell_list(of, lo, hi)]


def answer_is(reader, questions):
    number = reader.number()
    return questions.answer_is(number, reader.row())


def answer_within(reader, questions):
    number = reader.number()
    other = reader.number()
    return questions.answer_within(number, other)


def answer_call(reader, forms, questions):
    call = reader.number()
    if call == BEGIN:
        return [questions.begin()]
    if call == NUM:
        return answer_num(reader, forms)
    if call == TEXT:
        return [forms.tell_text(reader.number())]
    if call == LIST:
        return answer_list(reader, forms)
    if call == RECORD:
        return [forms.tell_record(reader.row())]
    if call == CHOICE:
        return [forms.tell_choice(reader.row())]
    if call == IS:
        return answer_is(reader, questions)
    if call == SOME:
        return questions.answer_some(reader.number())
    if call == WITHIN:
        return answer_within(reader, questions)
    raise UnknownCall(f"no call has the number {call}")


def answers(calls):
    reader = Reader(calls)
    forms = Forms()
    questions = Questions(forms)
    given = []
    while reader.has_more():
        answered = answer_call(reader, forms, questions)
        given.append(len(answered))
        given.extend(answered)
    return given
