"""What tests of logs and houses need: disks with given blocks, and all that they have."""

from sameasnew.blocks import encode_record
from sameasnew.disks import Disk
from sameasnew.errors import PowerCut
from sameasnew.records import write_record

ZEROS = [0] * 32


def contents(disk):
    return [disk.read(at) for at in range(disk.size())]


def lay(blocks, size=60):
    """A disk of this size with these blocks at its beginning."""
    disk = Disk(size)
    for at, block in enumerate(blocks):
        disk.write(at, block)
    disk.flush()
    return disk


def blocks_of(records, first=0):
    """The blocks of records with numbers from the first one on."""
    return [block for number, record in enumerate(records, start=first)
            for block in encode_record(number, write_record(record))]


def until_cut(*actions):
    """Does one action after the other, until the power is cut; how many were done."""
    for many, action in enumerate(actions):
        try:
            action()
        except PowerCut:
            return many
    return len(actions)


def schedules():
    """Numbers of writes and flushes, and lists of torn bytes: whole, torn and lost ones."""
    for many in range(14):
        for torn in ([], [32] * 40, [32, 0] * 20, [0, 32] * 20, [31] * 40, [1, 32, 16, 32, 0] * 8, [32] * 3,
                     [0] * 3 + [32] * 40):
            yield many, torn
