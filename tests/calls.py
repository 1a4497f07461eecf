"""Writes calls as the interface wants them, and reads what is given back."""

from understood.desk import answers

GREATEST = 4294967295
BEGIN = [0]


def num(lo, hi):
    return [1, lo, hi]


def text(most):
    return [2, most]


def list_of(of, lo, hi):
    return [3, of, lo, hi]


def record(*fields):
    """Each field: (its name, 1 if it may be missing or else 0, its form)."""
    row = [number for field in fields for number in field]
    return [4, len(row)] + row


def named(names, form=0):
    """A record whose fields have these names and must all be there."""
    return record(*[(name, 0, form) for name in names])


def choice(*choices):
    """Each choice: (its name, its form)."""
    row = [number for one in choices for number in one]
    return [5, len(row)] + row


def is_one(form, row):
    return [6, form, len(row)] + list(row)


def some(form):
    return [7, form]


def within(form, other):
    return [8, form, other]


def joined(calls):
    return [number for call in calls for number in call]


def ask(*calls):
    """What each of the calls behind a begin answers."""
    given = answers(joined((BEGIN,) + calls))
    split = []
    place = 0
    while place < len(given) and given[place] > 0:
        end = place + 1 + given[place]
        split.append(given[place + 1:end])
        place = end
    if place != len(given) or split[:1] != [[0]] or len(split) != 1 + len(calls):
        raise AssertionError(f"not one answer for each call: {given}")
    return split[1:]


def ask_one(call):
    """What the call answers where nothing has been told yet."""
    return ask(call)[0]


def ask_full(call):
    """What the call answers where there are 16 forms already."""
    return ask(*([num(0, 0)] * 16 + [call]))[-1]


def ask_of(forms, *questions):
    """What the questions answer behind these forms, which are all taken."""
    told = ask(*forms, *questions)
    if told[:len(forms)] != [[k] for k in range(len(forms))]:
        raise AssertionError(f"not all forms are taken: {told[:len(forms)]}")
    return told[len(forms):]


def difference(given, expected):
    """Where two long lists first differ, or None: unittest's own picture of it can take minutes."""
    if given == expected:
        return None
    place = 0
    while given[place:place + 1] == expected[place:place + 1]:
        place += 1
    return place, given[place:place + 4], expected[place:place + 4]
