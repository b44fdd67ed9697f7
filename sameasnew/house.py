"""Houses: loaders whose updates and calls are kept on a disk."""

from sameasnew.bounds import check_call
from sameasnew.errors import OutOfRange
from sameasnew.loader import Loader
from sameasnew.log import open_log
from sameasnew.records import COUNT_MOST, HOLDERS_MOST


class House:
    """A log, the loader to which its records lead, and the last answer that each holder was given."""

    def __init__(self, disk):
        self.log = open_log(disk)
        records = self.log.records()
        self.loader = Loader(records[0][1])
        self.answers = {}
        self.repeat(records)

    def update(self, changes):
        """Changes sources, and appends this if it is applied; a tuple "applied" and the version, or "rejected"."""
        self.log.check_open()
        kind, found = self.loader.work_out(changes)
        if kind == "rejected":
            return (kind, found)
        self.log.append(records_of(changes))
        return self.loader.apply(found)

    def receive(self, letter):
        """The answer to the letter of a call, or None."""
        self.log.check_open()
        check_letter(letter)
        holder, number = letter[1], letter[2]
        last = self.answers.get(holder)
        if last is not None and number == last[2]:
            return last
        expected = 0 if last is None else last[2] + 1
        # The record of a call is the same tuple as its letter.
        if number != expected or not self.log.room([letter]):
            return None
        self.log.append([letter])
        self.log.sync()
        return self.answer(letter)

    def sync(self):
        """Makes all updates and calls outlast a power cut; how many records there are."""
        self.log.sync()
        return len(self.log.records())

    def version(self):
        """How many updates were applied."""
        return self.loader.version()

    def sources(self):
        """The rising tuple of tuples of module and text."""
        return self.loader.sources()

    def program(self):
        """The program as the loader tells it."""
        return self.loader.program()

    def records(self):
        """The list of the records of the log."""
        return self.log.records()

    def free_blocks(self):
        """How many blocks of the disk are left."""
        return self.log.free_blocks()

    def is_open(self):
        """Whether the power was not cut since the house was opened."""
        return self.log.is_open()

    def repeat(self, records):
        """Makes the updates and calls of these records, in order."""
        changes = []
        for record in records:
            if record[0] == "text":
                changes.append((record[1], record[2]))
            elif record[0] == "remove":
                changes.append((record[1], None))
            elif record[0] == "update":
                self.loader.update(tuple(changes))
                changes = []
            elif record[0] == "call":
                self.answer(record)

    def answer(self, letter):
        """Does the call of a letter; its answer."""
        _, holder, number, module, name, arguments = letter
        result = self.loader.call(module, name, arguments)
        self.answers[holder] = ("answer", holder, number, self.loader.version(), result)
        return self.answers[holder]


def records_of(changes):
    """The list of the records of an update with these changes."""
    rows = [("remove", module) if text is None else ("text", module, text) for module, text in changes]
    return rows + [("update", len(rows))]


def check_letter(letter):
    """The parts of the letter of a call must be within their bounds."""
    _, holder, number, module, name, arguments = letter
    if not 0 <= holder < HOLDERS_MOST:
        raise OutOfRange("holder")
    if not 0 <= number <= COUNT_MOST:
        raise OutOfRange("number")
    check_call(module, name, arguments)
