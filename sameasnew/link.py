"""Links: a house and its holders, with the letters between them."""

from sameasnew.disks import Disk
from sameasnew.errors import NoLetter, NotOpen, OutOfRange
from sameasnew.holders import Holder
from sameasnew.house import House
from sameasnew.log import format_disk
from sameasnew.records import HOLDERS_MOST


class Link:
    """A disk, the house that was opened on it, holders, and a row of letters, the eldest first."""

    def __init__(self, entries, holders, blocks):
        if not 1 <= holders <= HOLDERS_MOST:
            raise OutOfRange("holders")
        self.disk = Disk(blocks)
        format_disk(self.disk, entries)
        self.house = House(self.disk)
        self.holders = [Holder(number) for number in range(holders)]
        self.row = []

    def begin(self, holder, module, name, arguments):
        """Begins a call of a holder; its number."""
        return self.holder_of(holder).begin(module, name, arguments)

    def done(self, holder):
        """The list of what a holder has done."""
        return self.holder_of(holder).done()

    def wanted(self, holder):
        """The letter that a holder wants to send, or None."""
        return self.holder_of(holder).wanted()

    def send(self, holder):
        """Puts the letter that a holder wants to send at the end of the row; whether there was one."""
        letter = self.wanted(holder)
        if letter is None:
            return False
        self.row.append(letter)
        return True

    def letters(self):
        """The list of the letters in the row."""
        return list(self.row)

    def drop(self, at):
        """Removes the letter with this index."""
        self.take_letter(at)

    def duplicate(self, at):
        """Puts a second letter like the one with this index at the end of the row."""
        self.row.append(self.letter_at(at))

    def deliver(self, at):
        """Delivers the letter with this index; whether a call was answered, or an answer counted."""
        letter = self.take_letter(at)
        if letter[0] == "answer":
            return self.holders[letter[1]].hear(letter)
        answer = self.house.receive(letter) if self.is_open() else None
        if answer is None:
            return False
        self.row.append(answer)
        return True

    def update(self, changes):
        """An update of the house."""
        return self.open_house().update(changes)

    def sync(self):
        """Makes all that the house has done outlast a power cut; how many records there are."""
        return self.open_house().sync()

    def version(self):
        """The version of the house."""
        return self.open_house().version()

    def sources(self):
        """The sources of the house."""
        return self.open_house().sources()

    def program(self):
        """The program of the house."""
        return self.open_house().program()

    def records(self):
        """The records of the house."""
        return self.open_house().records()

    def is_open(self):
        """Whether the house is open."""
        return self.house.is_open()

    def cut_power(self, torn):
        """Cuts the power of the disk."""
        self.disk.cut_power(torn)

    def schedule_cut(self, many, torn):
        """Schedules a cut of the power of the disk."""
        self.disk.schedule_cut(many, torn)

    def reopen(self):
        """Opens a new house on the disk; its version."""
        self.house = House(self.disk)
        return self.house.version()

    def holder_of(self, number):
        """The holder with this number, which there must be."""
        if not 0 <= number < len(self.holders):
            raise OutOfRange("holder")
        return self.holders[number]

    def letter_at(self, at):
        """The letter with this index, which there must be."""
        if not 0 <= at < len(self.row):
            raise NoLetter("the row has no letter at this index")
        return self.row[at]

    def take_letter(self, at):
        """The letter with this index, which is removed from the row."""
        letter = self.letter_at(at)
        del self.row[at]
        return letter

    def open_house(self):
        """The house, which must be open."""
        if not self.is_open():
            raise NotOpen("the house is not open")
        return self.house
