"""Tells whether a row of numbers is a message of a form."""

from understood.forms import LIST, NUM, RECORD, TEXT

MOST_PARTS = 200
HIGHEST_BYTE = 255

# What can be due next in a row: a whole message, or the rest of a record's fields.
MESSAGE = 0
FIELDS = 1


class NoMessage(ValueError):
    pass


def pass_over(fields):
    for field in fields:
        if field[1] == 0:
            raise NoMessage("a field is missing that may not be")


# Messages are nested deeper than calls should be, so what is still due is kept in a list, the next of it last.
class Walk:
    def __init__(self, told, numbers):
        self.told = told
        self.numbers = numbers
        self.place = 0
        self.parts = 0
        self.due = []

    def take(self):
        if self.place >= len(self.numbers):
            raise NoMessage("the row ends too early")
        taken = self.numbers[self.place]
        self.place = self.place + 1
        return taken

    def take_within(self, lo, hi):
        taken = self.take()
        if taken < lo or taken > hi:
            raise NoMessage("a number is out of its bounds")
        return taken

    def add_parts(self, more):
        self.parts = self.parts + more
        if self.parts > MOST_PARTS:
            raise NoMessage("there are too many parts")

    def take_bytes(self, most):
        size = self.take_within(0, most)
        self.add_parts(size)
        for k in range(size):
            self.take_within(0, HIGHEST_BYTE)

    def take_choice(self, choices):
        name = self.take()
        for one in choices:
            if one[0] == name:
                self.due.append((MESSAGE, one[1]))
                return
        raise NoMessage("no choice has the name")

    def take_message(self, form):
        self.take_within(form[0], form[0])
        self.add_parts(1)
        if form[0] == NUM:
            self.take_within(form[1], form[2])
        elif form[0] == TEXT:
            self.take_bytes(form[1])
        elif form[0] == LIST:
            size = self.take_within(form[2], form[3])
            self.due.extend([(MESSAGE, form[1])] * size)
        elif form[0] == RECORD:
            size = self.take_within(0, len(form[1]))
            self.due.append((FIELDS, form[1], size))
        else:
            self.take_choice(form[1])

    # Of the fields only those behind the one that was there last are handed on, so the names have to rise.
    def take_fields(self, fields, left):
        if left == 0:
            pass_over(fields)
            return
        name = self.take()
        names = [field[0] for field in fields]
        if name not in names:
            raise NoMessage("no field that may come now has the name")
        at = names.index(name)
        pass_over(fields[:at])
        self.due.append((FIELDS, fields[at + 1:], left - 1))
        self.due.append((MESSAGE, fields[at][2]))

    def take_all(self, number):
        self.due.append((MESSAGE, number))
        while len(self.due) > 0:
            following = self.due.pop()
            if following[0] == MESSAGE:
                self.take_message(self.told[following[1]])
            else:
                self.take_fields(following[1], following[2])
        if self.place < len(self.numbers):
            raise NoMessage("numbers are left over")


def is_message(told, number, numbers):
    try:
        Walk(told, numbers).take_all(number)
    except NoMessage:
        return False
    return True
