"""Logs: rows of records that lie on a disk."""

from sameasnew.blocks import PIECES_MOST, decode_piece, encode_record
from sameasnew.bounds import check_entries
from sameasnew.disks import BLOCK
from sameasnew.errors import LogFull, NotKept, NotOpen
from sameasnew.lines import has_twice
from sameasnew.records import read_record, write_record


class Log:
    """The records on a disk that lie in its first blocks; open_log makes it."""

    def __init__(self, disk, rows, used):
        self.disk = disk
        self.rows = list(rows)
        self.used = used
        self.cuts = disk.cut_count()

    def records(self):
        """The list of the records."""
        return list(self.rows)

    def append(self, rows):
        """Appends these records; how many there are then."""
        self.check_open()
        blocks = blocks_of(rows, len(self.rows))
        if len(blocks) > self.free_blocks():
            raise LogFull("too few blocks are left")
        for at, block in enumerate(blocks, start=self.used):
            self.disk.write(at, block)
        self.used += len(blocks)
        self.rows.extend(rows)
        return len(self.rows)

    def room(self, rows):
        """Whether there are as many blocks left as these records need."""
        return len(blocks_of(rows, len(self.rows))) <= self.free_blocks()

    def sync(self):
        """Flushes the disk, so that all that was appended outlasts a power cut."""
        self.check_open()
        self.disk.flush()

    def free_blocks(self):
        """How many blocks are left."""
        return self.disk.size() - self.used

    def is_open(self):
        """Whether the power was not cut since the log was opened."""
        return self.disk.cut_count() == self.cuts

    def check_open(self):
        """The log must be open."""
        if not self.is_open():
            raise NotOpen("the power was cut since the log was opened")


def blocks_of(rows, first):
    """The list of the blocks of records, of which the first one has this number."""
    return [block for number, record in enumerate(rows, start=first)
            for block in encode_record(number, write_record(record))]


def format_disk(disk, entries):
    """Makes a log of a disk that has no records but the entries."""
    check_entries(entries)
    blocks = blocks_of([("entries", tuple(entries))], 0)
    for at, block in enumerate(blocks):
        disk.write(at, block)
    clear(disk, len(blocks))


def clear(disk, first):
    """Writes zeros to all blocks from this one on, and flushes."""
    for at in range(first, disk.size()):
        disk.write(at, [0] * BLOCK)
    disk.flush()


def open_log(disk):
    """The log of a disk, cleared of all that does not belong to it."""
    records, ends = readable(disk)
    if records == []:
        raise NotKept("the disk holds no log")
    whole = count_whole(records)
    used = ends[whole - 1]
    clear(disk, used)
    return Log(disk, records[:whole], used)


def readable(disk):
    """The list of the records that can be read from block 0 on, and that of the indexes behind their blocks."""
    records = []
    ends = []
    at = 0
    record = record_at(disk, at, records)
    while record is not None:
        at += len(blocks_of([record], 0))
        records.append(record)
        ends.append(at)
        record = record_at(disk, at, records)
    return records, ends


def record_at(disk, at, before):
    """The record whose blocks lie from this one on, where these records are before it, or None."""
    text = text_at(disk, at, len(before))
    record = None if text is None else read_record(text)
    return record if record is not None and fits(record, before) else None


def text_at(disk, at, number):
    """The text that is stored, as the record with this number, in just the blocks from this one on, or None."""
    first = None if at == disk.size() else decode_piece(disk.read(at))
    if first is None:
        return None
    many = first[1]
    if many > min(PIECES_MOST, disk.size() - at):
        return None
    blocks = [disk.read(place) for place in range(at, at + many)]
    pieces = [decode_piece(block) for block in blocks]
    if None in pieces:
        return None
    text = "".join([piece[3] for piece in pieces])
    return text if encode_record(number, text) == blocks else None


def fits(record, before):
    """Whether this may be the next record behind these, but for texts and removes without their update."""
    if (record[0] == "entries") != (before == []):
        return False
    return record[0] != "call" or record[2] == len([row for row in before if row[0] == "call" and row[1] == record[1]])


def count_whole(records):
    """How many records there are before the first text or remove without its update, or update without its changes."""
    whole = 0
    changed = []
    for at, record in enumerate(records, start=1):
        if record[0] in ("text", "remove"):
            changed.append(record[1])
            continue
        expected = record[1] if record[0] == "update" else 0
        if len(changed) != expected or has_twice(changed):
            return whole
        whole = at
        changed = []
    return whole
