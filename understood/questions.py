"""What is asked of the forms: whether a row is a message, the least message, and whether each is another's too."""

from understood.least import Least
from understood.messages import is_message
from understood.ways import any_of

# The refusals, as the document numbers them.
NO_FORM_THERE = -2
NOT_ALL_TOLD = -61
HAS_NO_MESSAGE = -6


class Questions:
    def __init__(self, forms):
        self.forms = forms
        self.least = Least(forms.told)

    def begin(self):
        answered = self.forms.begin()
        self.least = Least(self.forms.told)
        return answered

    # Gives back 0 where nothing is refused.
    def refusal(self, numbers):
        for number in numbers:
            if not self.forms.has_form(number):
                return NO_FORM_THERE
        if not self.forms.refer_to_told_ones():
            return NOT_ALL_TOLD
        return 0

    def answer_is(self, number, numbers):
        refused = self.refusal([number])
        if refused < 0:
            return [refused]
        if is_message(self.forms.told, number, numbers):
            return [1]
        return [0]

    def answer_some(self, number):
        refused = self.refusal([number])
        if refused < 0:
            return [refused]
        message = self.least.message_for(any_of(number))
        if message is None:
            return [HAS_NO_MESSAGE]
        return [message[0]] + message[1]

    def answer_within(self, number, other):
        refused = self.refusal([number, other])
        if refused < 0:
            return [refused]
        message = self.least.message_for((number, other))
        if message is None:
            return [1]
        return [0] + message[1]
