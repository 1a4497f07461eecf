"""The forms that have been told: which are taken, which are refused, and what is kept of each."""

MOST_FORMS = 16
HIGHEST_FORM = 15
MOST_BYTES = 100
LONGEST_LIST = 32
MOST_NAMES = 8
HIGHEST_NAME = 63

# The refusals, as the document numbers them.
OUT_OF_BOUNDS = -22
NO_ROOM = -28

# A form begins with the number that its messages begin with.
NUM = 0
TEXT = 1
LIST = 2
RECORD = 3
CHOICE = 4


# A form that is referred to need not have been told yet, so only the greatest number a form can have is asked.
def can_be_form(number):
    return number <= HIGHEST_FORM


def fields_in(row):
    return [(row[k], row[k + 1], row[k + 2]) for k in range(0, len(row), 3)]


def choices_in(row):
    return [(row[k], row[k + 1]) for k in range(0, len(row), 2)]


def names_rise(names):
    for k in range(1, len(names)):
        if names[k] <= names[k - 1]:
            return False
    return True


def names_are_good(names):
    if len(names) > MOST_NAMES:
        return False
    for name in names:
        if name > HIGHEST_NAME:
            return False
    return names_rise(names)


def can_be_forms(numbers):
    for number in numbers:
        if not can_be_form(number):
            return False
    return True


def fields_are_good(fields):
    return names_are_good([field[0] for field in fields]) and can_be_forms([field[2] for field in fields])


def choices_are_good(choices):
    if len(choices) == 0:
        return False
    return names_are_good([one[0] for one in choices]) and can_be_forms([one[1] for one in choices])


def forms_referred_to(form):
    if form[0] == LIST:
        return [form[1]]
    if form[0] == RECORD:
        return [field[2] for field in form[1]]
    if form[0] == CHOICE:
        return [one[1] for one in form[1]]
    return []


# Each form is judged by itself before room is asked for: where both refusals are due, the first named is answered.
class Forms:
    def __init__(self):
        self.told = []

    def begin(self):
        self.told = []
        return 0

    def has_form(self, number):
        return number < len(self.told)

    def refer_to_told_ones(self):
        for form in self.told:
            for number in forms_referred_to(form):
                if not self.has_form(number):
                    return False
        return True

    def keep(self, form):
        if len(self.told) >= MOST_FORMS:
            return NO_ROOM
        self.told.append(form)
        return len(self.told) - 1

    def tell_num(self, lo, hi):
        if lo > hi:
            return OUT_OF_BOUNDS
        return self.keep((NUM, lo, hi))

    def tell_text(self, most):
        if most > MOST_BYTES:
            return OUT_OF_BOUNDS
        return self.keep((TEXT, most))

    def tell_list(self, of, lo, hi):
        if not can_be_form(of) or lo > hi or hi > LONGEST_LIST:
            return OUT_OF_BOUNDS
        return self.keep((LIST, of, lo, hi))

    def tell_record(self, row):
        fields = fields_in(row)
        if not fields_are_good(fields):
            return OUT_OF_BOUNDS
        return self.keep((RECORD, tuple(fields)))

    def tell_choice(self, row):
        choices = choices_in(row)
        if not choices_are_good(choices):
            return OUT_OF_BOUNDS
        return self.keep((CHOICE, tuple(choices)))
