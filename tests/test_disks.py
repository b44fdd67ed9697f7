import unittest

from reading import Numbers, error_of, interface

from sameasnew import disks
from sameasnew.disks import BLOCK, BLOCKS_MOST, Disk
from sameasnew.errors import PowerCut

ZEROS = [0] * 32


def full(byte):
    """A block of this byte only."""
    return [byte] * 32


def mixed(*runs):
    """A block of runs of bytes, given as tuples of a byte and how many there are; with zeros behind them."""
    block = [byte for byte, many in runs for _ in range(many)]
    return block + [0] * (32 - len(block))


def contents(disk):
    return [disk.read(at) for at in range(disk.size())]


class Interface(unittest.TestCase):
    def test_constants(self):
        self.assertEqual((BLOCK, BLOCKS_MOST), (32, 400))

    def test_methods(self):
        found = interface(Disk)
        for name, names in (
            ("__init__", ["blocks"]), ("size", []), ("read", ["at"]), ("write", ["at", "block"]), ("flush", []),
            ("pending_count", []), ("cut_count", []), ("cut_power", ["torn"]), ("schedule_cut", ["many", "torn"]),
        ):
            with self.subTest(name):
                self.assertEqual(found[name], names)
        self.assertEqual(Disk.__module__, disks.__name__)


class New(unittest.TestCase):
    def test_sizes(self):
        for blocks in (8, 9, 399, 400):
            disk = Disk(blocks)
            self.assertEqual(disk.size(), blocks)
            self.assertEqual(contents(disk), [ZEROS] * blocks)
            self.assertEqual((disk.pending_count(), disk.cut_count()), (0, 0))

    def test_wrong_sizes(self):
        for blocks in (-8, -1, 0, 1, 7, 401, 1000):
            self.assertEqual(error_of(Disk, blocks), "blocks")


class Case(unittest.TestCase):
    def setUp(self):
        self.disk = Disk(8)

    def unchanged(self, error, function, *arguments):
        """The call raises this error, and nothing changes."""
        with self.subTest(arguments):
            before = contents(self.disk), self.disk.pending_count(), self.disk.cut_count()
            self.assertEqual(error_of(function, *arguments), error)
            self.assertEqual((contents(self.disk), self.disk.pending_count(), self.disk.cut_count()), before)

    def stored(self, expected):
        """What is stored at first indexes, when nothing waits any more."""
        self.disk.cut_power([])
        self.assertEqual(contents(self.disk), expected + [ZEROS] * (8 - len(expected)))


class Writes(Case):
    def test_a_write_waits_until_a_flush(self):
        self.assertIsNone(self.disk.write(0, full(7)))
        self.assertEqual(self.disk.pending_count(), 1)
        self.assertIsNone(self.disk.flush())
        self.assertEqual(self.disk.pending_count(), 0)
        self.disk.write(1, full(8))
        self.stored([full(7)])

    def test_reading_counts_waiting_writes(self):
        self.disk.write(3, full(7))
        self.assertEqual(self.disk.read(3), full(7))
        self.assertEqual(self.disk.read(2), ZEROS)
        self.disk.write(3, full(8))
        self.disk.write(2, full(9))
        self.assertEqual((self.disk.read(2), self.disk.read(3)), (full(9), full(8)))
        self.assertEqual(self.disk.pending_count(), 3)
        self.disk.flush()
        self.assertEqual((self.disk.read(2), self.disk.read(3)), (full(9), full(8)))
        self.disk.write(3, full(1))
        self.assertEqual((self.disk.read(2), self.disk.read(3)), (full(9), full(1)))

    def test_the_last_write_of_a_block_counts(self):
        for byte in (1, 2, 3):
            self.disk.write(0, full(byte))
        self.disk.flush()
        self.stored([full(3)])

    def test_a_flush_without_writes(self):
        self.disk.flush()
        self.disk.flush()
        self.assertEqual((self.disk.pending_count(), self.disk.cut_count()), (0, 0))

    def test_bytes_at_their_bounds(self):
        block = list(range(31)) + [255]
        self.disk.write(7, block)
        self.assertEqual(self.disk.read(7), block)

    def test_indexes_out_of_range(self):
        for at in (-8, -1, 8, 9, 400):
            self.unchanged("at", self.disk.read, at)
            self.unchanged("at", self.disk.write, at, full(1))
            self.unchanged("at", self.disk.write, at, [])

    def test_blocks_out_of_range(self):
        for block in ([], [0] * 31, [0] * 33, [256] + [0] * 31, [0] * 31 + [256], [0] * 31 + [-1],
                      [0] * 15 + [-1] + [0] * 16,
                      full(256)):
            self.unchanged("block", self.disk.write, 0, block)

    def test_lists_handed_in_are_not_kept(self):
        block = full(7)
        self.disk.write(0, block)
        block[0] = 8
        self.assertEqual(self.disk.read(0), full(7))
        block.clear()
        self.disk.flush()
        self.assertEqual(self.disk.read(0), full(7))

    def test_lists_handed_out_are_new(self):
        self.disk.read(0)[0] = 9
        self.assertEqual(self.disk.read(0), ZEROS)
        self.disk.write(0, full(7))
        self.disk.read(0)[0] = 9
        self.assertEqual(self.disk.read(0), full(7))
        self.disk.flush()
        self.disk.read(0).clear()
        self.assertEqual(self.disk.read(0), full(7))

    def test_blocks_are_apart(self):
        block = full(7)
        self.disk.write(0, block)
        self.disk.write(1, block)
        self.disk.flush()
        self.disk.write(0, full(8))
        self.disk.cut_power([5])
        self.assertEqual((self.disk.read(0), self.disk.read(1)), (mixed((8, 5), (7, 27)), full(7)))


class Cuts(Case):
    def write_all(self, *rows):
        for at, block in rows:
            self.disk.write(at, block)

    def test_what_waits_is_lost(self):
        self.write_all((0, full(1)), (1, full(2)))
        self.assertIsNone(self.disk.cut_power([]))
        self.assertEqual(contents(self.disk), [ZEROS] * 8)
        self.assertEqual((self.disk.pending_count(), self.disk.cut_count()), (0, 1))

    def test_what_was_flushed_remains(self):
        self.write_all((0, full(1)), (1, full(2)))
        self.disk.flush()
        self.write_all((0, full(3)))
        self.disk.cut_power([])
        self.assertEqual(contents(self.disk)[:3], [full(1), full(2), ZEROS])

    def test_first_bytes(self):
        for many in range(33):
            disk = Disk(8)
            disk.write(0, full(1))
            disk.flush()
            disk.write(0, full(2))
            disk.cut_power([many])
            self.assertEqual(disk.read(0), mixed((2, many), (1, 32 - many)))

    def test_shorter_lists(self):
        self.write_all((0, full(1)), (1, full(2)), (2, full(3)))
        self.disk.cut_power([32, 4])
        self.assertEqual(contents(self.disk)[:4], [full(1), mixed((2, 4)), ZEROS, ZEROS])

    def test_longer_lists(self):
        self.write_all((3, full(1)))
        self.disk.cut_power([4, 32, 32, 0, 7])
        self.assertEqual(contents(self.disk), [ZEROS] * 3 + [mixed((1, 4))] + [ZEROS] * 4)

    def test_a_number_for_each_write_and_not_for_each_block(self):
        self.write_all((5, full(1)), (2, full(2)), (4, full(3)))
        self.disk.cut_power([1, 2, 3])
        self.assertEqual(contents(self.disk)[2:6], [mixed((2, 2)), ZEROS, mixed((3, 3)), mixed((1, 1))])

    def test_two_writes_of_one_block(self):
        for first, second, block in ((8, 4, mixed((2, 4), (1, 4))), (4, 8, mixed((2, 8))), (32, 0, full(1)),
                                     (0, 32, full(2)),
                                     (32, 32, full(2)), (5, 5, mixed((2, 5)))):
            disk = Disk(8)
            disk.write(0, full(1))
            disk.write(0, full(2))
            disk.cut_power([first, second])
            self.assertEqual(disk.read(0), block)

    def test_each_cut_counts(self):
        for many in range(1, 4):
            self.disk.cut_power([])
            self.assertEqual(self.disk.cut_count(), many)

    def test_a_disk_can_be_used_behind_a_cut(self):
        self.disk.cut_power([])
        self.write_all((0, full(1)))
        self.assertEqual(self.disk.pending_count(), 1)
        self.disk.flush()
        self.stored([full(1)])

    def test_numbers_out_of_range(self):
        self.write_all((0, full(1)))
        for torn in ([33], [-1], [0, 33], [5, -1, 5], [0] * 9 + [33]):
            self.unchanged("torn", self.disk.cut_power, torn)
        self.assertIsNone(error_of(self.disk.cut_power, [0, 32] * 9))

    def test_the_list_is_not_changed(self):
        torn = [1, 2, 3]
        self.write_all((0, full(1)))
        self.disk.cut_power(torn)
        self.assertEqual(torn, [1, 2, 3])


class Scheduled(Case):
    def write(self, at=0, byte=1):
        return error_of(self.disk.write, at, full(byte))

    def flush(self):
        return error_of(self.disk.flush)

    def test_at_a_write(self):
        self.assertIsNone(self.disk.schedule_cut(0, []))
        self.assertEqual(self.disk.cut_count(), 0)
        with self.assertRaises(PowerCut):
            self.disk.write(0, full(1))
        self.assertEqual((self.disk.pending_count(), self.disk.cut_count()), (0, 1))
        self.stored([])

    def test_at_a_flush(self):
        self.write(0, 1)
        self.disk.schedule_cut(0, [])
        with self.assertRaises(PowerCut):
            self.disk.flush()
        self.assertEqual((self.disk.pending_count(), self.disk.cut_count()), (0, 1))
        self.stored([])

    def test_behind_more_writes_and_flushes(self):
        for many in range(9):
            self.disk = Disk(8)
            self.disk.schedule_cut(many, [])
            actions = [self.write, self.flush, self.write, self.write, self.flush, self.flush, self.write, self.write,
                       self.write]
            for at, action in enumerate(actions[:many + 1]):
                self.assertEqual(action(), "PowerCut" if at == many else None)
            self.assertEqual(self.disk.cut_count(), 1)

    def test_only_once(self):
        self.disk.schedule_cut(1, [])
        self.assertEqual([self.write() for _ in range(9)], [None, "PowerCut"] + [None] * 7)
        self.assertEqual((self.disk.pending_count(), self.disk.cut_count()), (7, 1))

    def test_what_waits_is_torn(self):
        self.disk.schedule_cut(2, [5, 32, 9])
        self.assertEqual([self.write(0, 1), self.write(1, 2), self.write(2, 3)], [None, None, "PowerCut"])
        self.assertEqual(contents(self.disk)[:4], [mixed((1, 5)), full(2), ZEROS, ZEROS])

    def test_what_waited_before_is_torn(self):
        self.write(3, 1)
        self.disk.schedule_cut(1, [5, 6])
        self.assertEqual([self.write(4, 2), self.flush()], [None, "PowerCut"])
        self.assertEqual(contents(self.disk)[3:5], [mixed((1, 5)), mixed((2, 6))])

    def test_the_write_at_the_cut_is_none_of_them(self):
        self.disk.schedule_cut(0, [32])
        self.write(0, 1)
        self.stored([])

    def test_what_was_flushed_remains(self):
        self.disk.schedule_cut(2, [])
        self.assertEqual([self.write(0, 1), self.flush(), self.flush()], [None, None, "PowerCut"])
        self.stored([full(1)])

    def test_scheduling_again_replaces_an_earlier_schedule(self):
        self.disk.schedule_cut(0, [32])
        self.disk.schedule_cut(2, [7])
        self.assertEqual([self.write(), self.write(1, 2), self.write()], [None, None, "PowerCut"])
        self.assertEqual(contents(self.disk)[:2], [mixed((1, 7)), ZEROS])
        self.disk.schedule_cut(5, [])
        self.disk.schedule_cut(0, [])
        self.assertEqual([self.flush(), self.flush()], ["PowerCut", None])

    def test_a_cut_ends_a_schedule(self):
        self.disk.schedule_cut(1, [])
        self.disk.cut_power([])
        self.assertEqual([self.write() for _ in range(5)], [None] * 5)
        self.assertEqual(self.disk.cut_count(), 1)

    def test_reading_does_not_count(self):
        self.disk.schedule_cut(1, [])
        contents(self.disk)
        self.disk.size(), self.disk.pending_count(), self.disk.cut_count()
        self.assertEqual([self.flush(), self.flush()], [None, "PowerCut"])

    def test_a_write_out_of_range_does_not_count(self):
        for many in (0, 1):
            self.disk.schedule_cut(many, [])
            for at, block in ((-1, full(1)), (8, full(1)), (0, []), (0, full(256)), (0, [0] * 33)):
                self.assertEqual(error_of(self.disk.write, at, block), "at" if at else "block")
            self.assertEqual([self.write() for _ in range(many + 1)], [None] * many + ["PowerCut"])

    def test_numbers_out_of_range(self):
        self.write(0, 1)
        for many in (-1, 100001, -100000):
            self.unchanged("many", self.disk.schedule_cut, many, [])
            self.unchanged("many", self.disk.schedule_cut, many, [33])
        for torn in ([33], [-1], [0, 32, 33]):
            self.unchanged("torn", self.disk.schedule_cut, 0, torn)
        self.assertEqual([self.write() for _ in range(3)], [None] * 3)
        self.assertIsNone(error_of(self.disk.schedule_cut, 100000, [0, 32]))

    def test_what_is_refused_leaves_the_schedule(self):
        self.disk.schedule_cut(1, [])
        self.assertEqual(error_of(self.disk.schedule_cut, -1, []), "many")
        self.assertEqual(error_of(self.disk.schedule_cut, 5, [33]), "torn")
        self.assertEqual(error_of(self.disk.cut_power, [33]), "torn")
        self.assertEqual([self.write(), self.write()], [None, "PowerCut"])

    def test_the_greatest_number(self):
        self.disk.schedule_cut(100000, [])
        for _ in range(100000):
            self.disk.flush()
        self.assertEqual(self.flush(), "PowerCut")

    def test_the_list_is_not_kept(self):
        torn = [4]
        self.disk.schedule_cut(1, torn)
        torn[0] = 9
        torn.append(8)
        self.assertEqual([self.write(0, 1), self.write(1, 2)], [None, "PowerCut"])
        self.assertEqual(contents(self.disk)[:2], [mixed((1, 4)), ZEROS])


class Beside(unittest.TestCase):
    """Drawn calls beside a plain description of a disk: what is stored, and what waits."""

    def test_drawn_calls(self):
        for first in range(1, 31):
            numbers = Numbers(first)
            disk = Disk(8)
            stored, waiting, cuts, left = [ZEROS] * 8, [], 0, None
            for _ in range(120):
                kind = numbers.below(12)
                torn = [numbers.one_of((0, 32, numbers.below(33))) for _ in range(numbers.below(7))]
                if kind == 0:
                    left = (numbers.below(6), torn)
                    disk.schedule_cut(*left)
                    continue
                at, block = numbers.below(8), [numbers.below(256) for _ in range(32)]
                if kind == 1:
                    disk.cut_power(torn)
                    cut = True
                else:
                    error = error_of(disk.write, at, block) if kind < 9 else error_of(disk.flush)
                    cut = left is not None and left[0] == 0
                    self.assertEqual(error, "PowerCut" if cut else None)
                    torn = left[1] if cut else None
                if cut:
                    for number, (place, written) in enumerate(waiting):
                        many = (torn + [0] * len(waiting))[number]
                        stored[place] = written[:many] + stored[place][many:]
                    waiting, cuts, left = [], cuts + 1, None
                else:
                    left = left and (left[0] - 1, left[1])
                    if kind < 9:
                        waiting.append((at, block))
                    else:
                        for place, written in waiting:
                            stored[place] = written
                        waiting = []
                seen = dict(enumerate(stored)) | dict(waiting)
                self.assertEqual(contents(disk), [seen[place] for place in range(8)])
                self.assertEqual((disk.pending_count(), disk.cut_count()), (len(waiting), cuts))


if __name__ == "__main__":
    unittest.main()
