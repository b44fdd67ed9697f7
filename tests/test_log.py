import inspect
import unittest

from laying import ZEROS, blocks_of, contents, lay, schedules, until_cut
from reading import Numbers, error_of, interface

from sameasnew import log
from sameasnew.blocks import encode_record
from sameasnew.disks import Disk
from sameasnew.errors import LogFull, NotKept, NotOpen
from sameasnew.log import Log, format_disk, open_log

ENTRIES = ("entries", ("a",))
TEXT = ("text", "a", "let x = 1\nhold \"something\"")
CALL = ("call", 0, 0, "a", "f", (1, "s"))


def call(holder, number):
    return ("call", holder, number, "a", "f", ())


class Interface(unittest.TestCase):
    def test_arguments(self):
        for function, names in ((format_disk, ["disk", "entries"]), (open_log, ["disk"])):
            self.assertEqual(list(inspect.signature(function).parameters), names)
            self.assertEqual(function.__module__, log.__name__)

    def test_methods(self):
        found = interface(Log)
        for name, names in (("records", []), ("append", ["rows"]), ("room", ["rows"]), ("sync", []),
                            ("free_blocks", [])):
            self.assertEqual(found[name], names)
        self.assertEqual(Log.__module__, log.__name__)


class Formatting(unittest.TestCase):
    def test_a_new_disk(self):
        for entries in (("a",), ("abcdef", "b", "c"), ("abcdef", "ghijkl", "mnopqr")):
            with self.subTest(entries):
                disk = Disk(8)
                self.assertIsNone(format_disk(disk, entries))
                blocks = blocks_of([("entries", entries)])
                self.assertEqual(contents(disk), blocks + [ZEROS] * (8 - len(blocks)))
                self.assertEqual((disk.pending_count(), disk.cut_count()), (0, 0))
                self.assertEqual(open_log(disk).records(), [("entries", entries)])

    def test_what_was_there_is_zeroed(self):
        disk = lay(blocks_of([ENTRIES, TEXT, ("update", 1)] + [call(0, number) for number in range(20)]), 40)
        disk.write(39, [7] * 32)
        format_disk(disk, ("b",))
        self.assertEqual(contents(disk), blocks_of([("entries", ("b",))]) + [ZEROS] * 39)
        self.assertEqual(disk.pending_count(), 0)

    def test_each_block_is_written_once(self):
        disk = Disk(8)
        disk.schedule_cut(9, [])
        format_disk(disk, ("a",))
        self.assertEqual(error_of(disk.flush), "PowerCut")
        self.assertEqual(open_log(disk).records(), [ENTRIES])

    def test_wrong_entries(self):
        for entries in ((), ("a", "b", "c", "d"), ("a", "a"), ("let",), ("",), ("A",), ("abcdefg",), ("a", "b|c")):
            disk = lay([[5] * 32] * 8, 8)
            self.assertEqual(error_of(format_disk, disk, entries), "entries")
            self.assertEqual((contents(disk), disk.pending_count()), ([[5] * 32] * 8, 0))
            disk.schedule_cut(0, [])
            self.assertEqual(error_of(format_disk, disk, entries), "entries")

    def test_power_cuts(self):
        for many in range(9):
            disk = Disk(8)
            disk.schedule_cut(many, [])
            self.assertEqual(error_of(format_disk, disk, ("a",)), "PowerCut")
            self.assertEqual(error_of(open_log, disk), "NotKept")


class Opening(unittest.TestCase):
    def check(self, blocks, records, size=60):
        """Of these blocks, so many records can be read; zeros stand behind them, and opening again gives the same."""
        disk = lay(blocks, size)
        for _ in range(2):
            self.assertEqual(open_log(disk).records(), records)
            kept = blocks_of(records)
            self.assertEqual(contents(disk), kept + [ZEROS] * (size - len(kept)))
            self.assertEqual(disk.pending_count(), 0)
        disk.cut_power([])
        found = open_log(disk)
        self.assertEqual(found.records(), records)
        self.assertEqual(found.free_blocks(), size - len(kept))

    def whole(self, *records):
        with self.subTest(records):
            self.check(blocks_of(records), list(records))
            self.check(blocks_of(records) + [[83] * 32, [7] * 32], list(records))

    def cut_short(self, many, *records):
        """Only the first ones of these records are not left out."""
        with self.subTest(records):
            self.check(blocks_of(records), list(records[:many]))

    def no_log(self, blocks, size=60):
        """There is none, and nothing changes."""
        disk = lay(blocks, size)
        before = contents(disk)
        self.assertEqual(error_of(open_log, disk), "NotKept")
        self.assertEqual((contents(disk), disk.pending_count()), (before, 0))

    def test_whole_logs(self):
        self.whole(ENTRIES)
        self.whole(("entries", ("abcdef", "ghijkl", "mnopqr")))
        self.whole(ENTRIES, ("update", 0))
        self.whole(ENTRIES, ("update", 0), ("update", 0))
        self.whole(ENTRIES, TEXT, ("update", 1))
        self.whole(ENTRIES, TEXT, ("remove", "b"), ("text", "c", ""), ("update", 3))
        self.whole(ENTRIES, TEXT, ("update", 1), TEXT, ("update", 1), ("update", 0), ("remove", "a"), ("update", 1))
        self.whole(ENTRIES, *[("text", name, name * 30) for name in "abcdefgh"], ("update", 8))
        self.whole(ENTRIES, call(0, 0))
        self.whole(ENTRIES, call(2, 0), call(0, 0), call(2, 1), call(0, 1), call(0, 2), call(1, 0))
        self.whole(ENTRIES, call(0, 0), TEXT, ("update", 1), call(0, 1), ("update", 0), call(0, 2))
        self.whole(ENTRIES, ("text", "a", "x" * 600), ("update", 1), call(0, 0))
        self.whole(ENTRIES, ("text", "a", "\n\n\n"), ("update", 1))

    def test_a_disk_that_is_full(self):
        for records in ([ENTRIES] + [("update", 0)] * 7, [ENTRIES] + [call(0, number) for number in range(7)],
                        [ENTRIES, ("text", "a", "x" * 113), ("update", 1), ("update", 0)]):
            blocks = blocks_of(records)
            self.assertEqual(len(blocks), 8)
            self.check(blocks, records, 8)
        records = [ENTRIES] + [("update", 0)] * 399
        self.check(blocks_of(records), records, 400)

    def test_a_record_that_goes_beyond_the_disk(self):
        self.check(blocks_of([ENTRIES, ("update", 0), ("text", "a", "x" * 140), ("update", 1)])[:8],
                   [ENTRIES, ("update", 0)], 8)
        records = [ENTRIES] + [("update", 0)] * 6
        self.check(blocks_of(records + [("text", "a", "x" * 30)])[:8], records, 8)

    def test_no_log(self):
        self.no_log([])
        self.no_log([], 8)
        self.no_log([[83] * 32] * 8, 8)
        self.no_log([[1] * 32])
        self.no_log([ZEROS] + blocks_of([ENTRIES]))
        self.no_log([ZEROS] + blocks_of([ENTRIES], 1))

    def test_a_first_record_that_is_none(self):
        for record in (TEXT, ("update", 0), ("remove", "a"), call(0, 0)):
            self.no_log(blocks_of([record]))
            self.no_log(blocks_of([record, ENTRIES]))
        self.no_log(blocks_of([ENTRIES], 1))
        self.no_log(blocks_of([ENTRIES], 256))
        for text in ("entries", "entries ", "entries a a", "entries a b c d", "entries let", "entries A", "entries a ",
                     "Entries a", " entries a", "e"):
            self.no_log(encode_record(0, text))

    def test_a_first_record_that_is_torn(self):
        blocks = blocks_of([("entries", ("abcdef", "ghijkl", "mnopqr"))])
        self.assertEqual(len(blocks), 2)
        for at in range(2):
            for many in range(32):
                torn = list(blocks)
                torn[at] = blocks[at][:many] + [0] * (32 - many)
                self.no_log(torn)

    def test_other_numbers(self):
        first = blocks_of([ENTRIES, call(0, 0)])
        for number in (0, 1, 3, 258, 513):
            self.check(first + blocks_of([call(0, 1)], number) + blocks_of([call(0, 2)], 3), [ENTRIES, call(0, 0)])
        self.check(first + blocks_of([call(0, 1)], 2), [ENTRIES, call(0, 0), call(0, 1)])

    def test_numbers_over_255(self):
        records = [ENTRIES] + [("update", 0)] * 300
        self.check(blocks_of(records), records, 400)
        self.check(blocks_of(records[:256]) + blocks_of([("update", 0)], 0), records[:256], 400)

    def test_texts_that_are_no_records(self):
        first = blocks_of([ENTRIES, call(0, 0)])
        for text in ("call 0 1 a f ", "call 0 1  a f", "call 0 01 a f", "call 3 0 a f", "call 0 1 a f 1 2 3 4",
                     "update 9",
                     "update 00", "update", "text A let", "remove a b", "nothing", " "):
            self.check(first + encode_record(2, text) + blocks_of([call(0, 1)], 3), [ENTRIES, call(0, 0)])
        text = "text a " + "x" * 601
        self.check(first + encode_record(2, text) + blocks_of([("update", 1)], 3), [ENTRIES, call(0, 0)])

    def test_calls_with_other_numbers(self):
        self.cut_short(1, ENTRIES, call(0, 1))
        self.cut_short(2, ENTRIES, call(0, 0), call(0, 0))
        self.cut_short(2, ENTRIES, call(0, 0), call(0, 2), call(0, 1))
        self.cut_short(2, ENTRIES, call(0, 0), call(1, 1), call(1, 0))
        self.cut_short(5, ENTRIES, call(0, 0), call(1, 0), call(0, 1), call(1, 1), call(1, 1))
        self.cut_short(4, ENTRIES, call(0, 0), TEXT, ("update", 1), call(0, 0))

    def test_entries_once_more(self):
        self.cut_short(1, ENTRIES, ENTRIES)
        self.cut_short(2, ENTRIES, call(0, 0), ("entries", ("b",)), call(0, 1))
        self.cut_short(1, ENTRIES, TEXT, ENTRIES, ("update", 1))
        self.cut_short(1, ENTRIES, ENTRIES, ("update", 0))

    def test_updates_that_count_otherwise(self):
        for many in range(9):
            if many != 2:
                self.cut_short(1, ENTRIES, TEXT, ("remove", "b"), ("update", many))
                self.cut_short(2, ENTRIES, call(0, 0), TEXT, ("remove", "b"), ("update", many), call(0, 1),
                               ("update", 0))
            if many:
                self.cut_short(1, ENTRIES, ("update", many))
                self.cut_short(2, ENTRIES, ("update", 0), ("update", many), ("update", 0))
        self.cut_short(3, ENTRIES, TEXT, ("update", 1), ("remove", "b"), ("update", 2), call(0, 0))
        self.cut_short(3, ENTRIES, TEXT, ("update", 1), TEXT, ("update", 0))
        names = [("remove", name) for name in "abcdefghi"]
        self.cut_short(1, ENTRIES, *names, ("update", 8))
        self.cut_short(1, ENTRIES, *names, ("update", 0))

    def test_updates_that_have_a_module_twice(self):
        self.cut_short(1, ENTRIES, TEXT, TEXT, ("update", 2))
        self.cut_short(1, ENTRIES, TEXT, ("remove", "a"), ("update", 2), call(0, 0))
        self.cut_short(1, ENTRIES, ("remove", "a"), ("remove", "b"), ("remove", "a"), ("update", 3))
        # Also if an update had these modules before.
        self.whole(ENTRIES, TEXT, ("update", 1), ("remove", "a"), ("update", 1))

    def test_texts_without_an_update(self):
        self.cut_short(1, ENTRIES, TEXT)
        self.cut_short(1, ENTRIES, ("remove", "a"))
        self.cut_short(1, ENTRIES, TEXT, call(0, 0))
        self.cut_short(1, ENTRIES, TEXT, call(0, 0), ("update", 1))
        self.cut_short(1, ENTRIES, TEXT, call(0, 0), ("remove", "a"), ("update", 1))
        self.cut_short(2, ENTRIES, call(0, 0), TEXT, ("remove", "b"))
        self.cut_short(5, ENTRIES, TEXT, ("update", 1), call(0, 0), ("update", 0), ("remove", "a"), TEXT)

    def test_pieces(self):
        blocks = blocks_of([ENTRIES, call(0, 0), TEXT, ("update", 1), call(0, 1)])
        first = [ENTRIES, call(0, 0)]
        start = len(blocks_of(first))
        self.assertEqual(len(blocks_of([TEXT])), 2)
        self.check(blocks, [ENTRIES, call(0, 0), TEXT, ("update", 1), call(0, 1)])
        # Missing, exchanged, doubled, zeroed.
        self.check(blocks[:start] + blocks[start + 1:], first)
        self.check(blocks[:start + 1] + blocks[start + 2:], first)
        self.check(blocks[:start] + [blocks[start + 1], blocks[start]] + blocks[start + 2:], first)
        self.check(blocks[:start + 1] + blocks[start:], first)
        self.check(blocks[:start + 1] + [ZEROS] + blocks[start + 2:], first)
        self.check(blocks[:start] + [ZEROS] + blocks[start + 1:], first)
        self.check(blocks[:start] + [ZEROS] + blocks[start:], first)
        # Of another count, number or index, each in the first and in the last piece.
        for at in (start, start + 1):
            for place, byte in ((1, 2), (2, 1), (2, 3), (2, 4), (3, 1), (4, 1), (4, 3)):
                other = [list(block) for block in blocks]
                other[at][place] = byte
                self.check(other, first)

    def test_a_shorter_piece_that_is_not_the_last_one(self):
        text = "text a let x = 1"
        blocks = [[83, 0, 2, 0, 1, 10] + [ord(sign) for sign in text[:10]] + [0] * 15 + [83],
                  [83, 1, 2, 0, 1, 6] + [ord(sign) for sign in text[10:]] + [0] * 19 + [83]]
        self.check(blocks_of([ENTRIES]) + blocks + blocks_of([("update", 1)], 2), [ENTRIES])
        self.check(blocks_of([ENTRIES]) + encode_record(1, text) + blocks_of([("update", 1)], 2),
                   [ENTRIES, ("text", "a", "let x = 1"), ("update", 1)])

    def test_an_end_of_the_record_that_is_a_record(self):
        """The pieces of one record are read together only."""
        blocks = blocks_of([ENTRIES]) + encode_record(1, "call 0 0 a f" + " " * 12 + "update 0")
        self.check(blocks, [ENTRIES])

    def test_drawn_bytes_behind(self):
        records = [ENTRIES, TEXT, ("update", 1), call(0, 0)]
        for first in range(1, 30):
            numbers = Numbers(first)
            rest = [[numbers.below(256) for _ in range(32)] for _ in range(20)]
            for block in rest:
                if numbers.below(2):
                    block[0] = block[31] = 83
            self.check(blocks_of(records) + rest, records)

    def test_any_byte_changed(self):
        records = [ENTRIES, TEXT, ("update", 1), call(0, 0)]
        ends = [len(blocks_of(records[:many])) for many in range(5)]
        for first in range(1, 200):
            numbers = Numbers(first)
            blocks = blocks_of(records)
            at, place = numbers.below(len(blocks)), numbers.below(32)
            byte = numbers.below(256)
            if blocks[at][place] == byte or 6 <= place < 6 + blocks[at][5]:
                continue
            blocks[at][place] = byte
            disk = lay(blocks)
            try:
                found = open_log(disk).records()
            except NotKept:
                found = []
            whole = max([many for many in (0, 1, 3, 4) if ends[many] <= at])
            self.assertEqual(found, records[:whole])

    def test_waiting_writes_count(self):
        disk = lay(blocks_of([ENTRIES]))
        for at, block in enumerate(blocks_of([TEXT, ("update", 1), TEXT], 1), start=1):
            disk.write(at, block)
        self.assertEqual(open_log(disk).records(), [ENTRIES, TEXT, ("update", 1)])
        self.assertEqual(disk.pending_count(), 0)
        disk.cut_power([])
        self.assertEqual(open_log(disk).records(), [ENTRIES, TEXT, ("update", 1)])

    def test_how_many_writes_and_flushes_there_are(self):
        for records, size in (([ENTRIES], 8), ([ENTRIES, call(0, 0)], 8), ([ENTRIES] + [("update", 0)] * 7, 8)):
            behind = size - len(records)
            disk = lay(blocks_of(records), size)
            disk.schedule_cut(behind + 1, [])
            open_log(disk)
            self.assertEqual(error_of(disk.flush), "PowerCut")
            for many in range(behind + 1):
                disk.schedule_cut(many, [])
                self.assertEqual(error_of(open_log, disk), "PowerCut")

    def test_no_log_comes_before_a_power_cut(self):
        disk = Disk(8)
        disk.schedule_cut(0, [])
        self.assertEqual(error_of(open_log, disk), "NotKept")
        self.assertEqual(error_of(disk.flush), "PowerCut")


class Logs(unittest.TestCase):
    def setUp(self):
        self.disk = Disk(12)
        format_disk(self.disk, ("a",))
        self.log = open_log(self.disk)

    def test_appending(self):
        self.assertEqual(self.log.append([TEXT, ("update", 1)]), 3)
        self.assertEqual(self.log.append([]), 3)
        self.assertEqual(self.log.append([call(0, 0)]), 4)
        records = [ENTRIES, TEXT, ("update", 1), call(0, 0)]
        self.assertEqual(self.log.records(), records)
        self.assertEqual(contents(self.disk), blocks_of(records) + [ZEROS] * 7)
        self.assertEqual(self.disk.pending_count(), 4)

    def test_syncing(self):
        self.log.append([call(0, 0)])
        self.assertIsNone(self.log.sync())
        self.assertEqual(self.disk.pending_count(), 0)
        self.log.append([call(0, 1)])
        self.assertEqual(self.disk.pending_count(), 1)
        self.disk.cut_power([])
        self.assertEqual(open_log(self.disk).records(), [ENTRIES, call(0, 0)])

    def test_going_on_in_a_log_that_was_opened_again(self):
        self.log.append([TEXT, ("update", 1), call(0, 0)])
        self.log.sync()
        other = open_log(self.disk)
        self.assertEqual(other.append([call(0, 1)]), 5)
        other.sync()
        self.assertEqual(open_log(self.disk).records(), [ENTRIES, TEXT, ("update", 1), call(0, 0), call(0, 1)])

    def test_going_on_behind_what_was_left_out(self):
        self.log.append([call(0, 0), TEXT, ("remove", "b")])
        other = open_log(self.disk)
        self.assertEqual((other.records(), other.free_blocks()), ([ENTRIES, call(0, 0)], 10))
        other.append([("remove", "c"), ("update", 1)])
        self.assertEqual(open_log(self.disk).records(), [ENTRIES, call(0, 0), ("remove", "c"), ("update", 1)])

    def test_free_blocks_and_room(self):
        self.assertEqual(self.log.free_blocks(), 11)
        self.log.append([TEXT])
        self.assertEqual(self.log.free_blocks(), 9)
        for many, room in ((0, True), (1, True), (8, True), (9, True), (10, False), (11, False), (100, False)):
            self.assertIs(self.log.room([("update", 0)] * many), room)
        self.assertIs(self.log.room([("text", "a", "x" * 209)]), True)
        self.assertIs(self.log.room([("text", "a", "x" * 210)]), False)
        self.assertIs(self.log.room([TEXT] * 4 + [("update", 0)]), True)
        self.assertIs(self.log.room([TEXT] * 5), False)
        self.assertEqual((self.log.records(), self.disk.pending_count()), ([ENTRIES, TEXT], 2))

    def test_rows_for_which_there_is_no_room(self):
        self.log.append([call(0, 0)])
        for rows in ([("update", 0)] * 11, [TEXT] * 6, [("text", "a", "x" * 240)], [("update", 0)] * 9 + [TEXT]):
            with self.assertRaises(LogFull):
                self.log.append(rows)
            self.assertEqual(self.log.records(), [ENTRIES, call(0, 0)])
            self.assertEqual((self.log.free_blocks(), self.disk.pending_count()), (10, 1))
            self.assertEqual(contents(self.disk)[2:], [ZEROS] * 10)
        self.assertEqual(self.log.append([("update", 0)] * 10), 12)
        self.assertEqual(self.log.free_blocks(), 0)
        self.assertEqual(self.log.append([]), 12)
        self.assertEqual(error_of(self.log.append, [("update", 0)]), "LogFull")
        self.assertEqual(open_log(self.disk).records(), [ENTRIES, call(0, 0)] + [("update", 0)] * 10)

    def test_no_room_comes_before_a_power_cut(self):
        self.disk.schedule_cut(0, [])
        self.assertEqual(error_of(self.log.append, [("update", 0)] * 12), "LogFull")
        self.assertEqual(error_of(self.log.append, []), None)
        self.assertEqual(error_of(self.log.append, [("update", 0)]), "PowerCut")

    def test_not_open_behind_a_cut(self):
        self.disk.cut_power([])
        with self.assertRaises(NotOpen):
            self.log.append([call(0, 0)])
        with self.assertRaises(NotOpen):
            self.log.sync()
        self.assertEqual(error_of(self.log.append, [("update", 0)] * 12), "NotOpen")
        self.assertEqual(error_of(self.log.append, []), "NotOpen")
        self.assertEqual((self.disk.pending_count(), contents(self.disk)[1]), (0, ZEROS))
        self.assertEqual(open_log(self.disk).append([call(0, 0)]), 2)
        self.assertEqual(error_of(self.log.sync), "NotOpen")

    def test_not_open_behind_a_power_cut_of_its_own(self):
        for many, action in ((0, lambda: self.log.append([call(0, 0)])), (1, lambda: self.log.append([TEXT])),
                             (0, lambda: self.log.sync())):
            self.setUp()
            self.disk.schedule_cut(many, [])
            self.assertEqual(error_of(action), "PowerCut")
            for again in (lambda: self.log.append([]), self.log.sync):
                self.assertEqual(error_of(again), "NotOpen")

    def test_lists_are_not_kept(self):
        rows = [call(0, 0)]
        self.log.append(rows)
        rows.clear()
        self.assertEqual(self.log.records(), [ENTRIES, call(0, 0)])
        self.log.records().clear()
        self.log.records().append(TEXT)
        self.assertEqual(self.log.records(), [ENTRIES, call(0, 0)])
        self.assertEqual(self.log.append([call(0, 1)]), 3)
        self.assertEqual(open_log(self.disk).records(), [ENTRIES, call(0, 0), call(0, 1)])

    def test_what_is_passed_is_not_changed(self):
        rows = [call(0, 0), TEXT]
        self.log.append(rows)
        self.log.room(rows)
        self.assertEqual(rows, [call(0, 0), TEXT])


class Cuts(unittest.TestCase):
    """Rows that are appended and synced under cuts, and what is opened afterwards."""

    GROUPS = ([TEXT, ("update", 1)], [call(0, 0)], [("text", "a", "x" * 60), ("remove", "b"), ("update", 2)],
              [call(1, 0)],
              [("update", 0)], [call(0, 1)])

    def beginnings(self):
        """The records behind each group."""
        rows = [ENTRIES]
        found = [rows]
        for group in self.GROUPS:
            rows = rows + group
            found.append(rows)
        return found

    def opened(self, disk, least, most=None):
        """What is opened must be the beginning of at least so many groups; also if openings themselves are cut."""
        good = self.beginnings()[least:None if most is None else most + 1]
        for many, torn in ((3, [32] * 40), (0, []), (disk.size(), [0, 32, 7] * 20)):
            disk.schedule_cut(many, torn)
            self.assertIn(error_of(open_log, disk), ("PowerCut", None))
        disk.cut_power([])
        found = open_log(disk)
        self.assertIn(found.records(), good)
        self.assertEqual(contents(disk), blocks_of(found.records())
                         + [ZEROS] * (disk.size() - len(blocks_of(found.records()))))
        return found.records()

    def test_cuts_amid_appending(self):
        lengths = []
        for many, torn in schedules():
            disk = Disk(30)
            format_disk(disk, ("a",))
            one = open_log(disk)
            disk.schedule_cut(many, torn)
            done = until_cut(*[lambda group=group: one.append(group) for group in self.GROUPS])
            disk.cut_power(torn)
            self.assertEqual(error_of(one.sync), "NotOpen")
            lengths.append(len(self.opened(disk, 0, done + 1)))
        self.assertEqual((min(lengths), max(lengths)), (1, 10))

    def test_cuts_amid_appending_and_syncing(self):
        for many, torn in schedules():
            disk = Disk(30)
            format_disk(disk, ("a",))
            one = open_log(disk)
            disk.schedule_cut(many, torn)
            actions = [action for group in self.GROUPS for action in (lambda group=group: one.append(group), one.sync)]
            done = until_cut(*actions)
            disk.cut_power([])
            self.opened(disk, done // 2, (done + 1) // 2)

    def test_cuts_behind_all(self):
        for many, torn in schedules():
            disk = Disk(30)
            format_disk(disk, ("a",))
            one = open_log(disk)
            for at, group in enumerate(self.GROUPS):
                one.append(group)
                if at == many:
                    one.sync()
            disk.cut_power(torn)
            self.opened(disk, min(many + 1, 6) if many < 6 else 0)

    def test_cuts_amid_formatting(self):
        for many, torn in schedules():
            disk = Disk(12)
            disk.schedule_cut(many, torn)
            done = error_of(format_disk, disk, ("a",)) is None
            disk.cut_power(torn)
            if error_of(open_log, disk) == "NotKept":
                self.assertFalse(done)
                continue
            self.assertEqual(open_log(disk).records(), [ENTRIES])
            self.assertTrue(done or torn[:1] == [32])

    def test_cuts_amid_opening(self):
        for many, torn in schedules():
            for waiting in (False, True):
                disk = Disk(20)
                format_disk(disk, ("a",))
                one = open_log(disk)
                for group in self.GROUPS[:3]:
                    one.append(group)
                one.sync()
                one.append([TEXT])
                if not waiting:
                    one.sync()
                disk.schedule_cut(many, torn)
                error = error_of(open_log, disk)
                self.assertEqual(error, None if many > 20 - len(blocks_of(self.beginnings()[3])) else "PowerCut")
                disk.cut_power(torn)
                self.opened(disk, 3, 3)


if __name__ == "__main__":
    unittest.main()
