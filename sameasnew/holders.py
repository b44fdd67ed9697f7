"""Holders, which call functions by letters."""

from sameasnew.bounds import check_call
from sameasnew.errors import AtWork


class Holder:
    """The calls of a holder that were answered, and the letter of the one that waits, or None."""

    def __init__(self, number):
        self.number = number
        self.waiting = None
        self.answered = []

    def begin(self, module, name, arguments):
        """Begins a call; its number."""
        if self.waiting is not None:
            raise AtWork("a call waits for its answer")
        check_call(module, name, arguments)
        count = len(self.answered)
        self.waiting = ("call", self.number, count, module, name, tuple(arguments))
        return count

    def wanted(self):
        """The letter that the holder wants to send, or None."""
        return self.waiting

    def hear(self, letter):
        """Hears an answer; whether it counted."""
        if self.waiting is None or letter[:3] != ("answer",) + self.waiting[1:3]:
            return False
        self.answered.append(self.waiting[3:] + letter[3:])
        self.waiting = None
        return True

    def done(self):
        """The list of tuples of module, name, arguments, version and result of the calls that were answered."""
        return list(self.answered)
