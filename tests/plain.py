"""Plain ways of going through the messages of small random forms, which is, some and within are held against."""

from tests.calls import choice, list_of, num, record, text

MOST_PARTS = 200
MOST_ROWS = 4000
# Two texts of one length are taken by the same forms, so two bytes stand for all 256.
BYTES = (0, 255)
CALLS = {"num": num, "text": text, "list": list_of, "record": record, "choice": choice}


class TooMany(Exception):
    """There are more messages than a test should go through."""


def optional_subsets(fields):
    """Each way of leaving out fields that may be missing."""
    chosen = [[]]
    for field in fields:
        with_it = [fields_there + [field] for fields_there in chosen]
        chosen = with_it + chosen if field[1] else with_it
    return chosen


class Plain:
    """All the messages of forms, such as ("num", 0, 3), part by part."""

    def __init__(self, forms):
        self.forms = forms
        self.found = {}

    def rows(self, form, parts):
        """All the messages of a form with just so many parts."""
        if (form, parts) not in self.found:
            rows = self.build(self.forms[form], parts) if parts > 0 else []
            if len(rows) > MOST_ROWS:
                raise TooMany
            self.found[form, parts] = rows
        return self.found[form, parts]

    def build(self, form, parts):
        kind, *told = form
        if kind == "num":
            return [[0, value] for value in range(told[0], told[1] + 1)] if parts == 1 else []
        if kind == "text":
            return self.texts(parts - 1) if parts - 1 <= told[0] else []
        if kind == "list":
            of, lo, hi = told
            return [[2, size] + rest for size in range(lo, hi + 1)
                    for rest in self.sequences([([], of)] * size, parts - 1)]
        if kind == "record":
            return [[3, len(there)] + rest for there in optional_subsets(told)
                    for rest in self.sequences([([name], of) for name, _, of in there], parts - 1)]
        return [[4, name] + rest for name, of in told for rest in self.rows(of, parts - 1)]

    def texts(self, size):
        rows = [[1, size]]
        for _ in range(size):
            rows = [row + [byte] for row in rows for byte in BYTES]
        return rows

    def sequences(self, steps, parts):
        """All ways of one message behind another, each with numbers ahead of it, with just so many parts in all."""
        if not steps:
            return [[]] if parts == 0 else []
        (ahead, of), *rest = steps
        rows = []
        for first in range(1, parts - len(rest) + 1):
            following = self.sequences(rest, parts - first)
            if following:
                rows += [ahead + row + behind for row in self.rows(of, first) for behind in following]
            if len(rows) > MOST_ROWS:
                raise TooMany
        return rows


class Misfit(Exception):
    pass


def read(forms, form, row, place):
    """Goes through one message of a form: where it ends and how many parts it has; Misfit if it's none."""
    kind, *told = forms[form]
    if row[place:place + 1] != [list(CALLS).index(kind)] or place + 1 == len(row):
        raise Misfit
    size = row[place + 1]
    place += 2
    if kind == "num":
        if not told[0] <= size <= told[1]:
            raise Misfit
        return place, 1
    if kind == "text":
        there = row[place:place + size]
        if size > told[0] or len(there) < size or max(there, default=0) > 255:
            raise Misfit
        return place + size, 1 + size
    steps = {"list": list_steps, "record": record_steps, "choice": choice_steps}[kind](told, size)
    return read_steps(forms, steps, row, place)


def list_steps(told, size):
    if not told[1] <= size <= told[2]:
        raise Misfit
    return [[(None, told[0])] * size]


def record_steps(told, size):
    return [[(name, of) for name, _, of in there] for there in optional_subsets(told) if len(there) == size]


def choice_steps(told, name):
    return [[(None, of)] for known, of in told if known == name]


def read_steps(forms, several, row, start):
    """Goes through the one of several rows of steps that fits."""
    for steps in several:
        try:
            place, parts = start, 1
            for name, of in steps:
                if name is not None:
                    if row[place:place + 1] != [name]:
                        raise Misfit
                    place += 1
                place, more = read(forms, of, row, place)
                parts += more
            return place, parts
        except Misfit:
            continue
    raise Misfit


def plainly_is(forms, form, row):
    try:
        place, parts = read(forms, form, row, 0)
    except Misfit:
        return False
    return place == len(row) and parts <= MOST_PARTS


def random_names(chance):
    return sorted(chance.sample(range(4), chance.randint(0, 3)))


def random_form(chance, size):
    kind = chance.choice(["num", "text", "list", "list", "record", "record", "choice", "choice"])
    of = chance.randrange(size)
    if kind == "num":
        lo = chance.randint(0, 2)
        return kind, lo, lo + chance.randint(0, 2)
    if kind == "text":
        return kind, chance.randint(0, 2)
    if kind == "list":
        lo = chance.choice([0, 0, 1, 2])
        return kind, of, lo, lo + chance.randint(0, 2)
    if kind == "record":
        return (kind, *[(name, chance.randint(0, 1), chance.randrange(size)) for name in random_names(chance)])
    return (kind, *[(name, chance.randrange(size)) for name in random_names(chance) or [0]])


def changed_form(chance, form, size):
    """A form that is nearly the same: the pairs that are worth asking for seldom come about otherwise."""
    kind, *told = form
    if kind == "num":
        return kind, told[0], told[1] + chance.randint(0, 1)
    if kind == "text":
        return kind, min(2, told[0] + chance.randint(0, 1))
    if kind == "list":
        return kind, chance.choice([told[0], chance.randrange(size)]), told[1], told[2] + chance.randint(0, 1)
    at = chance.randrange(len(told)) if told else 0
    if told and kind == "record":
        told[at] = (told[at][0], chance.randint(0, 1), chance.choice([told[at][2], chance.randrange(size)]))
    elif told:
        told[at] = (told[at][0], chance.choice([told[at][1], chance.randrange(size)]))
    return (kind, *told)


def random_forms(chance, size):
    forms = [random_form(chance, size)]
    while len(forms) < size:
        if chance.random() < 0.5:
            forms.append(changed_form(chance, chance.choice(forms), size))
        else:
            forms.append(random_form(chance, size))
    return forms


def calls_of(forms):
    return [CALLS[kind](*told) for kind, *told in forms]


def all_rows(forms, most):
    """The messages of each form with each number of parts, as far as they're not too many."""
    plain = Plain(forms)
    found = {form: {} for form in range(len(forms))}
    for parts in range(1, most + 1):
        try:
            rows = [plain.rows(form, parts) for form in range(len(forms))]
        except TooMany:
            break
        for form in range(len(forms)):
            found[form][parts] = rows[form]
    return found


def spoilt(chance, row):
    row = list(row)
    at = chance.randrange(len(row))
    way = chance.randrange(4)
    if way == 0:
        row[at] = chance.randint(0, 5)
    elif way == 1:
        row.insert(at, chance.randint(0, 5))
    elif way == 2:
        row.pop(at)
    else:
        other = chance.randrange(len(row))
        row[at], row[other] = row[other], row[at]
    return row
