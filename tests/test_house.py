import unittest

from drawing import drawn_call, drawn_changes
from laying import ZEROS, blocks_of, contents, lay, schedules
from reading import Numbers, error_of, interface

from sameasnew import house
from sameasnew.disks import Disk
from sameasnew.errors import NotOpen, PowerCut
from sameasnew.house import House
from sameasnew.loader import Loader
from sameasnew.log import format_disk, open_log

ENTRIES = ("entries", ("a",))
COUNT = "keep k = 0\nfn up(p) = set k = k + p\nfn bad() = 1 + \"a\"\nlet x = 1"


def disk_of(size=60, *entries):
    disk = Disk(size)
    format_disk(disk, entries or ("a",))
    return disk


def call(holder, number, *arguments, name="up", module="a"):
    return ("call", holder, number, module, name, arguments)


def told(one):
    """All that a house tells, and its loader."""
    return (one.version(), one.sources(), one.program(), one.records(), one.free_blocks())


class Interface(unittest.TestCase):
    def test_methods(self):
        found = interface(House)
        for name, names in (
            ("__init__", ["disk"]), ("update", ["changes"]), ("receive", ["letter"]), ("sync", []), ("version", []),
            ("sources", []), ("program", []), ("records", []), ("free_blocks", []),
        ):
            with self.subTest(name):
                self.assertEqual(found[name], names)
        self.assertEqual(House.__module__, house.__name__)


class Opening(unittest.TestCase):
    def test_a_new_disk(self):
        one = House(disk_of(20, "b", "a"))
        self.assertEqual(told(one), (0, (), ("loaded", (), (), (), (), ()), [("entries", ("b", "a"))], 19))

    def test_no_log(self):
        self.assertEqual(error_of(House, Disk(8)), "NotKept")
        disk = lay(blocks_of([("update", 0)]))
        disk.schedule_cut(0, [])
        self.assertEqual(error_of(House, disk), "NotKept")

    def test_power_cuts(self):
        for many in range(8):
            disk = disk_of(8)
            disk.schedule_cut(many, [])
            self.assertEqual(error_of(House, disk), "PowerCut")
            self.assertEqual(House(disk).records(), [ENTRIES])

    def test_updates_and_calls_of_the_log_are_made_in_order(self):
        records = [ENTRIES, call(0, 0, 5), ("text", "a", COUNT), ("update", 1), call(0, 1, 5), call(1, 0, 2),
                   call(0, 2, name="bad"),
                   ("text", "b", "let y = 1"), ("text", "a", COUNT + "\nimport y from b"), ("update", 2),
                   call(2, 0, 10),
                   ("update", 0), ("text", "a", COUNT), ("remove", "b"), ("update", 2), call(1, 1, 100)]
        disk = lay(blocks_of(records))
        one = House(disk)
        self.assertEqual(one.records(), records)
        self.assertEqual(one.version(), 4)
        self.assertEqual(one.sources(), (("a", COUNT),))
        self.assertEqual(one.program()[3], (("a", "k", 117),))
        for holder, number, version, result in (
            (0, 2, 1, ("fault", ("run", "", ("type",)))), (1, 1, 4, ("value", 117)), (2, 0, 2, ("value", 17)),
        ):
            self.assertEqual(one.receive(call(holder, number, 9)), ("answer", holder, number, version, result))
        self.assertEqual(one.records(), records)

    def test_an_update_of_the_log_that_would_be_rejected_changes_nothing(self):
        records = [ENTRIES, ("text", "a", COUNT), ("update", 1), ("text", "a", "do q"), ("update", 1), ("remove", "a"),
                   ("update", 1), call(0, 0, 3)]
        one = House(lay(blocks_of(records)))
        self.assertEqual((one.version(), one.sources()), (1, (("a", COUNT),)))
        self.assertEqual(one.records(), records)
        self.assertEqual(one.receive(call(0, 0)), ("answer", 0, 0, 1, ("value", 3)))

    def test_what_is_left_out_is_not_made(self):
        records = [ENTRIES, ("text", "a", COUNT), ("update", 1), call(0, 0, 3)]
        one = House(lay(blocks_of(records + [("text", "a", ""), call(0, 1, 4)])))
        self.assertEqual(one.records(), records)
        self.assertEqual((one.version(), one.program()[3]), (1, (("a", "k", 3),)))
        self.assertEqual(one.receive(call(0, 1, 5)), ("answer", 0, 1, 1, ("value", 8)))


class Updates(unittest.TestCase):
    def setUp(self):
        self.disk = disk_of(30)
        self.one = House(self.disk)

    def unchanged(self, error, changes):
        with self.subTest(changes):
            before = told(self.one), contents(self.disk), self.disk.pending_count()
            self.assertEqual(error_of(self.one.update, changes), error)
            self.assertEqual((told(self.one), contents(self.disk), self.disk.pending_count()), before)

    def test_applied(self):
        self.assertEqual(self.one.update((("b", "let"), ("a", "let x = 1\nlet y = 2"))), ("applied", 1))
        self.assertEqual(self.one.records(), [ENTRIES, ("text", "b", "let"), ("text", "a", "let x = 1\nlet y = 2"),
                                              ("update", 2)])
        self.assertEqual(self.one.update((("b", None),)), ("applied", 2))
        self.assertEqual(self.one.update(()), ("applied", 3))
        self.assertEqual(self.one.update((("z", None),)), ("applied", 4))
        self.assertEqual(self.one.records()[4:], [("remove", "b"), ("update", 1), ("update", 0), ("remove", "z"),
                                                  ("update", 1)])
        self.assertEqual(self.one.sources(), (("a", "let x = 1\nlet y = 2"),))
        self.assertEqual(self.one.version(), 4)
        self.assertEqual(self.one.program(), House(self.disk).program())

    def test_rejected(self):
        self.one.update((("a", COUNT),))
        for changes, fault in (((("a", None),), ("module", "a")), ((("a", "do q"),), ("name", "a", "q")),
                               ((("a", "let x = 1\ndo x + \"a\""),), ("run", "a", ("type",)))):
            before = told(self.one), self.disk.pending_count()
            self.assertEqual(self.one.update(changes), ("rejected", fault))
            self.assertEqual((told(self.one), self.disk.pending_count()), before)

    def test_refused(self):
        self.one.update((("a", COUNT),))
        self.unchanged("changes", (("a", ""), ("a", "")))
        self.unchanged("changes", (("let", ""),))
        self.unchanged("changes", tuple([(name, "x" * 601) for name in "abcdefghi"]))
        self.unchanged("text", (("a", "x" * 601),))

    def test_an_update_waits_until_a_flush(self):
        self.one.update((("a", COUNT),))
        self.assertEqual(self.disk.pending_count(), len(blocks_of([("text", "a", COUNT), ("update", 1)])))
        self.disk.cut_power([])
        self.assertEqual(House(self.disk).records(), [ENTRIES])

    def test_sync(self):
        self.assertEqual(self.one.sync(), 1)
        self.one.update((("a", COUNT),))
        self.assertEqual(self.one.sync(), 3)
        self.assertEqual(self.disk.pending_count(), 0)
        self.disk.cut_power([])
        self.assertEqual(House(self.disk).sources(), (("a", COUNT),))

    def test_no_room(self):
        self.one.update((("a", COUNT),))
        free = self.one.free_blocks()
        self.unchanged("LogFull", (("b", "x" * (24 * (free - 1) - 6)),))
        self.assertEqual(self.one.update((("b", "x" * (24 * (free - 1) - 7)),)), ("applied", 2))
        self.assertEqual(self.one.free_blocks(), 0)
        for changes in ((), (("b", None),), (("a", COUNT + "\n"),)):
            self.unchanged("LogFull", changes)
        # What is rejected needs no room, and what is refused is refused before.
        self.assertEqual(self.one.update((("a", "let"),)), ("rejected", ("line", "a", 1)))
        self.unchanged("text", (("a", "x" * 601),))

    def test_a_power_cut(self):
        for many in range(3):
            self.setUp()
            self.one.update((("a", "let x = 1"),))
            self.one.sync()
            before = self.one.version(), self.one.sources(), self.one.program()
            self.disk.schedule_cut(many, [32] * 9)
            error = error_of(self.one.update, (("a", "let x = 2"),))
            if many == 2:
                self.assertIsNone(error)
                self.assertEqual(self.one.sources(), (("a", "let x = 2"),))
            else:
                self.assertEqual(error, "PowerCut")
                self.assertEqual((self.one.version(), self.one.sources(), self.one.program()), before)
                self.assertEqual(House(self.disk).sources(), (("a", "let x = 1"),))

    def test_a_rejected_update_writes_nothing(self):
        self.disk.schedule_cut(0, [])
        self.assertEqual(self.one.update((("a", "let"),)), ("rejected", ("line", "a", 1)))
        self.assertEqual(error_of(self.one.update, (("a", ""),)), "PowerCut")

    def test_not_open(self):
        self.one.update((("a", COUNT),))
        self.disk.cut_power([])
        for changes in ((("a", ""),), (("a", "let"),), (("let", ""),), ()):
            self.unchanged("NotOpen", changes)
        with self.assertRaises(NotOpen):
            self.one.sync()
        self.assertEqual((self.one.version(), self.one.sources()), (1, (("a", COUNT),)))

    def test_a_power_cut_of_a_sync(self):
        self.one.update((("a", COUNT),))
        self.disk.schedule_cut(0, [32] * 20)
        with self.assertRaises(PowerCut):
            self.one.sync()
        self.assertEqual(error_of(self.one.sync), "NotOpen")
        self.assertEqual(House(self.disk).sources(), (("a", COUNT),))

    def test_lists_are_new(self):
        self.one.records().clear()
        self.one.records().append(("update", 0))
        self.assertEqual(self.one.records(), [ENTRIES])


class Letters(unittest.TestCase):
    def setUp(self):
        self.disk = disk_of(30)
        self.one = House(self.disk)
        self.one.update((("a", COUNT),))
        self.start = self.one.records()

    def answered(self, letter, *answer):
        with self.subTest(letter):
            self.assertEqual(self.one.receive(letter), ("answer",) + answer)

    def unanswered(self, *letters):
        for letter in letters:
            with self.subTest(letter):
                before = told(self.one), self.disk.pending_count()
                self.assertIsNone(self.one.receive(letter))
                self.assertEqual((told(self.one), self.disk.pending_count()), before)

    def refused(self, field, letter):
        with self.subTest(letter):
            before = told(self.one), self.disk.pending_count()
            self.assertEqual(error_of(self.one.receive, letter), field)
            self.assertEqual((told(self.one), self.disk.pending_count()), before)

    def test_calls(self):
        self.answered(call(0, 0, 2), 0, 0, 1, ("value", 2))
        self.answered(call(0, 1, 3), 0, 1, 1, ("value", 5))
        self.answered(call(2, 0, 1), 2, 0, 1, ("value", 6))
        self.answered(call(0, 2, name="k"), 0, 2, 1, ("value", 6))
        self.assertEqual(self.one.records(),
                         self.start + [call(0, 0, 2), call(0, 1, 3), call(2, 0, 1), call(0, 2, name="k")])

    def test_faults(self):
        for number, (letter, fault) in enumerate((
            (call(1, 0, module="b"), ("module", "b")), (call(1, 1, name="q"), ("name", "a", "q")),
            (call(1, 2, 1, 2), ("count", "a", "up")), (call(1, 3, "s"), ("run", "", ("type",))),
            (call(1, 4, name="bad"), ("run", "", ("type",))),
        )):
            self.answered(letter, 1, number, 1, ("fault", fault))
            self.assertEqual(self.one.records()[-1], letter)
        self.assertEqual(self.one.program()[3], (("a", "k", 0),))

    def test_before_the_first_update(self):
        self.one = House(disk_of())
        self.answered(call(0, 0, 2), 0, 0, 0, ("fault", ("module", "a")))
        self.assertEqual(self.one.records(), [ENTRIES, call(0, 0, 2)])

    def test_nothing_waits_behind_an_answer_of_a_new_call(self):
        self.assertGreater(self.disk.pending_count(), 0)
        for number in range(3):
            self.answered(call(0, number, 1), 0, number, 1, ("value", number + 1))
            self.assertEqual(self.disk.pending_count(), 0)
        self.disk.cut_power([])
        self.assertEqual(House(self.disk).records(), self.one.records())

    def test_the_last_number(self):
        self.answered(call(0, 0, 2), 0, 0, 1, ("value", 2))
        records = self.one.records()
        for letter in (call(0, 0, 2), call(0, 0, 7), call(0, 0, name="bad"), call(0, 0, 1, 2, 3, module="zz")):
            self.answered(letter, 0, 0, 1, ("value", 2))
        self.assertEqual((self.one.records(), self.one.program()[3]), (records, (("a", "k", 2),)))

    def test_the_answer_is_the_one_that_was_given(self):
        self.answered(call(0, 0, 2), 0, 0, 1, ("value", 2))
        self.answered(call(1, 0, "s"), 1, 0, 1, ("fault", ("run", "", ("type",))))
        self.one.update((("a", "fn up(p) = 99\nkeep k = 0"),))
        self.answered(call(0, 0, 2), 0, 0, 1, ("value", 2))
        self.answered(call(1, 0, "s"), 1, 0, 1, ("fault", ("run", "", ("type",))))
        self.answered(call(0, 1, 2), 0, 1, 2, ("value", 99))
        self.one.update((("a", ""),))
        for _ in range(3):
            # In a house that is opened anew, too.
            self.one = House(self.disk)
            self.answered(call(0, 1, 2), 0, 1, 2, ("value", 99))
            self.answered(call(1, 0, 1), 1, 0, 1, ("fault", ("run", "", ("type",))))
            self.unanswered(call(0, 0, 2))

    def test_giving_it_once_more_flushes_nothing(self):
        self.answered(call(0, 0, 2), 0, 0, 1, ("value", 2))
        self.one.update(())
        self.assertEqual(self.disk.pending_count(), 1)
        self.answered(call(0, 0, 2), 0, 0, 1, ("value", 2))
        self.assertEqual(self.disk.pending_count(), 1)

    def test_other_numbers(self):
        self.unanswered(call(0, 1, 2), call(0, 2, 2), call(0, 9999, 2))
        for number in range(3):
            self.answered(call(0, number, 1), 0, number, 1, ("value", number + 1))
        self.unanswered(call(0, 0, 1), call(0, 1, 1), call(0, 4, 1), call(0, 9999, 1), call(1, 1, 1), call(2, 2, 1))
        self.answered(call(0, 3, 1), 0, 3, 1, ("value", 4))

    def test_holders_are_apart(self):
        for number in range(3):
            for holder in (2, 0, 1):
                value = number * 3 + (2, 0, 1).index(holder) + 1
                self.answered(call(holder, number, 1), holder, number, 1, ("value", value))
        for holder in range(3):
            self.unanswered(call(holder, 0, 1), call(holder, 1, 1), call(holder, 4, 1))

    def test_out_of_bounds(self):
        good = ("call", 0, 0, "a", "up", (1,))
        for at, field, parts in (
            (1, "holder", (-1, 3, 100)), (2, "number", (-1, 10000)), (3, "module", ("", "A", "let", "abcdefg", "a b")),
            (4, "name", ("", "A", "let", "abcdefg", "a b")),
            (5, "arguments", ((1, 2, 3, 4), (100000,), (1, -100000), ("x" * 21,), ("\"",), (1, 2, 3, "a\"b"))),
        ):
            for part in parts:
                self.refused(field, good[:at] + (part,) + good[at + 1:])
                # Also if it is the last number that was answered.
                self.one.receive(call(1, 0))
                other = ("call", 1) + good[2:]
                self.refused(field, other[:at] + (part,) + other[at + 1:])

    def test_numbers_at_their_bounds(self):
        self.unanswered(call(2, 9999, 1))
        self.assertIsNotNone(self.one.receive(call(2, 0, 1)))

    def test_the_order_of_errors(self):
        bad = ("call", 3, 10000, "A", "let", (100000,))
        good = ("call", 0, 0, "a", "up", (1,))
        for at, field in enumerate(("holder", "number", "module", "name", "arguments"), start=1):
            self.refused(field, good[:at] + bad[at:])
        self.disk.cut_power([])
        self.refused("NotOpen", bad)
        self.refused("NotOpen", good)

    def test_no_room(self):
        self.one = House(disk_of(8))
        self.one.update((("a", COUNT),))
        self.one.sync()
        number = 0
        while self.one.free_blocks():
            self.answered(call(0, number, 1), 0, number, 1, ("value", number + 1))
            number += 1
        self.assertGreater(number, 0)
        program = self.one.program()
        self.unanswered(call(0, number, 1), call(1, 0, 1))
        self.assertEqual(self.one.program(), program)
        self.answered(call(0, number - 1, 1), 0, number - 1, 1, ("value", number))

    def test_no_room_for_a_longer_record(self):
        self.disk = disk_of(8)
        self.one = House(self.disk)
        self.one.update((("a", "fn f(p, q, r) = 1"), ("b", "x" * 24)))
        self.one.sync()
        self.assertEqual(self.one.free_blocks(), 3)
        long = call(0, 0, *["x" * 20] * 3, name="f")
        self.assertEqual(len(blocks_of([long])), 4)
        self.unanswered(long)
        self.answered(call(0, 0, name="f"), 0, 0, 1, ("fault", ("count", "a", "f")))

    def test_a_power_cut(self):
        for many in range(3):
            self.setUp()
            self.one.sync()
            self.disk.schedule_cut(many, [32] * 9)
            if many == 2:
                self.answered(call(0, 0, 2), 0, 0, 1, ("value", 2))
                continue
            before = self.one.program()
            self.assertEqual(error_of(self.one.receive, call(0, 0, 2)), "PowerCut")
            self.assertEqual(self.one.program(), before)
            self.assertEqual(error_of(self.one.receive, call(0, 0, 2)), "NotOpen")
            other = House(self.disk)
            self.assertEqual(other.program()[3], (("a", "k", 2 if many else 0),))
            # It is done once, whether it is there or not.
            self.assertEqual(other.receive(call(0, 0, 2)), ("answer", 0, 0, 1, ("value", 2)))
            self.assertEqual(other.program()[3], (("a", "k", 2),))


class BesideALoader(unittest.TestCase):
    """Drawn updates and letters: a house tells what a loader tells to which its records were given."""

    def check(self, one, loader, answers):
        self.assertEqual((one.version(), one.sources(), one.program()),
                         (loader.version(), loader.sources(), loader.program()))
        for holder, (number, answer) in answers.items():
            self.assertEqual(one.receive(("call", holder, number, "z", "z", ())), answer)

    def test_drawn_rows(self):
        applied = values = opened = full = 0
        for first in range(1, 25):
            numbers = Numbers(first)
            disk = disk_of(150, "a", "b")
            one, loader, records, answers = House(disk), Loader(("a", "b")), [("entries", ("a", "b"))], {}
            for _ in range(60):
                kind = numbers.below(8)
                if kind < 3:
                    changes = drawn_changes(numbers, dict(one.sources()))
                    rows = [("remove", name) if text is None else ("text", name, text) for name, text in changes]
                    rows.append(("update", len(rows)))
                    fitting = len(blocks_of(rows)) <= one.free_blocks()
                    if not fitting and loader.work_out(changes)[0] == "ready":
                        self.assertEqual(error_of(one.update, changes), "LogFull")
                        full += 1
                        continue
                    found = loader.update(changes)
                    self.assertEqual(one.update(changes), found)
                    if found[0] == "applied":
                        records += rows
                        applied += 1
                elif kind < 7:
                    holder = numbers.below(3)
                    number = answers[holder][0] + 1 if holder in answers else 0
                    letter = ("call", holder, number) + drawn_call(numbers)
                    if len(blocks_of([letter])) > one.free_blocks():
                        self.assertIsNone(one.receive(letter))
                        full += 1
                        continue
                    result = loader.call(*letter[3:])
                    answers[holder] = (number, ("answer", holder, number, loader.version(), result))
                    self.assertEqual(one.receive(letter), answers[holder][1])
                    self.assertEqual(disk.pending_count(), 0)
                    records.append(letter)
                    values += result[0] == "value"
                else:
                    one = House(disk)
                    opened += 1
                self.assertEqual(one.records(), records)
                self.assertEqual(one.free_blocks(), 150 - len(blocks_of(records)))
                self.check(one, loader, answers)
        self.assertGreater(min(applied, values, opened, full), 20)


class Cuts(unittest.TestCase):
    OTHER = COUNT.replace("k + p", "k + p + p")

    def actions(self, one, answers):
        """Updates, calls and syncs, in a row; the answers are put into the list."""
        return (
            lambda: one.update((("a", COUNT),)),
            lambda: answers.append(one.receive(call(0, 0, 2))),
            lambda: one.update((("b", "let"), ("a", self.OTHER))),
            lambda: one.update((("b", None),)),
            lambda: one.sync(),
            lambda: answers.append(one.receive(call(1, 0, 3))),
            lambda: answers.append(one.receive(call(0, 1, "s"))),
            lambda: one.update(()),
            lambda: answers.append(one.receive(call(0, 2, 4))),
        )

    GROUPS = (
        [("text", "a", COUNT), ("update", 1)], [call(0, 0, 2)],
        [("text", "b", "let"), ("text", "a", OTHER), ("update", 2)], [("remove", "b"), ("update", 1)], [],
        [call(1, 0, 3)], [call(0, 1, "s")], [("update", 0)], [call(0, 2, 4)],
    )

    # Behind so many of the actions, so many of them are flushed for sure.
    FLUSHED = (0, 0, 2, 2, 2, 5, 6, 7, 7, 9)

    def rows(self, many):
        """The records behind so many actions."""
        return [ENTRIES] + [record for group in self.GROUPS[:many] for record in group]

    def opened(self, disk, least, most):
        """A house, opened after some openings that are cut; behind these actions at least and at most."""
        for many, torn in ((2, [32] * 60), (0, []), (disk.size(), [0, 32, 7] * 20)):
            disk.schedule_cut(many, torn)
            self.assertIn(error_of(House, disk), ("PowerCut", None))
        disk.cut_power([])
        one = House(disk)
        self.assertIn(one.records(), [self.rows(many) for many in range(least, most + 1)])
        used = blocks_of(one.records())
        self.assertEqual(contents(disk), used + [ZEROS] * (disk.size() - len(used)))
        return one

    def test_cuts_amid_updates_calls_and_syncs(self):
        lengths = []
        for many in range(45):
            for torn in ([], [32] * 40, [32, 0] * 20, [0, 32] * 20, [31] * 40, [32] * 3, [16] + [32] * 40):
                disk = disk_of(40)
                one, answers, done = House(disk), [], 0
                disk.schedule_cut(many, torn)
                for action in self.actions(one, answers):
                    if error_of(action):
                        break
                    done += 1
                disk.cut_power(torn)
                for again in self.actions(one, []):
                    self.assertEqual(error_of(again), "NotOpen")
                other = self.opened(disk, self.FLUSHED[done], min(done + 1, 9))
                lengths.append(len(other.records()))
                self.check_answers(other, answers)
                self.assertEqual(other.receive(call(2, 0))[:3], ("answer", 2, 0))
        self.assertEqual((min(lengths), max(lengths)), (1, len(self.rows(9))))

    def check_answers(self, one, answers):
        """What was answered was done once, and is answered so for ever."""
        calls = [record[1:3] for record in one.records() if record[0] == "call"]
        for answer in answers:
            self.assertEqual(calls.count(answer[1:3]), 1)
        for holder, answer in {answer[1]: answer for answer in answers}.items():
            found = one.receive(call(holder, answer[2]))
            # A later call of the holder may have outlasted the cut, too.
            later = (holder, answer[2] + 1) in calls
            self.assertEqual(found, None if later else answer)

    def test_cuts_amid_opening(self):
        for many, torn in schedules():
            for waiting in (False, True):
                disk = disk_of(40)
                one, answers = House(disk), []
                for action in self.actions(one, answers)[:8]:
                    action()
                if not waiting:
                    one.sync()
                disk.schedule_cut(many, torn)
                error_of(House, disk)
                disk.cut_power(torn)
                self.check_answers(self.opened(disk, 7 if waiting else 8, 8), answers)


if __name__ == "__main__":
    unittest.main()
