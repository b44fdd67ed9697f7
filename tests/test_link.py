import unittest

from drawing import drawn_call, drawn_changes
from reading import Numbers, error_of, interface
from test_many_updates import with_values

from sameasnew import link
from sameasnew.errors import ModuleError, NoLetter, NotOpen, PowerCut
from sameasnew.link import Link
from sameasnew.loader import Loader

COUNT = "keep k = 0\nfn up(p) = set k = k + p\nfn bad() = 1 + \"a\"\nlet x = 1"
EMPTY = ("loaded", (), (), (), (), ())


def call(holder, number, *arguments, name="up"):
    return ("call", holder, number, "a", name, arguments)


class Interface(unittest.TestCase):
    def test_methods(self):
        found = interface(Link)
        for name, names in (
            ("__init__", ["entries", "holders", "blocks"]), ("begin", ["holder", "module", "name", "arguments"]),
            ("done", ["holder"]), ("wanted", ["holder"]), ("send", ["holder"]), ("letters", []), ("drop", ["at"]),
            ("duplicate", ["at"]), ("deliver", ["at"]), ("update", ["changes"]), ("sync", []), ("version", []),
            ("sources", []), ("program", []), ("records", []), ("is_open", []), ("cut_power", ["torn"]),
            ("schedule_cut", ["many", "torn"]), ("reopen", []),
        ):
            with self.subTest(name):
                self.assertEqual(found[name], names)
        self.assertEqual(Link.__module__, link.__name__)


class Making(unittest.TestCase):
    def test_a_new_link(self):
        for entries, holders, blocks in ((("a",), 1, 8), (("b", "a"), 2, 9), (("c", "a", "b"), 3, 400)):
            one = Link(entries, holders, blocks)
            self.assertEqual((one.version(), one.sources(), one.program()), (0, (), EMPTY))
            self.assertEqual((one.records(), one.letters()), ([("entries", entries)], []))
            self.assertIs(one.is_open(), True)
            for holder in range(holders):
                self.assertEqual((one.done(holder), one.wanted(holder)), ([], None))
            self.assertEqual(error_of(one.done, holders), "holder")

    def test_out_of_range(self):
        for holders in (-1, 0, 4, 100):
            self.assertEqual(error_of(Link, ("a",), holders, 20), "holders")
        for blocks in (-1, 0, 7, 401):
            self.assertEqual(error_of(Link, ("a",), 1, blocks), "blocks")
        for entries in ((), ("a", "a"), ("let",), ("a", "b", "c", "d")):
            self.assertEqual(error_of(Link, entries, 1, 20), "entries")

    def test_the_order_of_errors(self):
        self.assertEqual(error_of(Link, (), 4, 7), "holders")
        self.assertEqual(error_of(Link, (), 3, 7), "blocks")
        self.assertEqual(error_of(Link, (), 3, 8), "entries")
        self.assertEqual(error_of(Link, ("a",), 0, 401), "holders")

    def test_the_number_of_blocks(self):
        one = Link(("a",), 1, 8)
        for many in range(7):
            self.assertEqual(one.update(()), ("rejected", ("module", "a")))
        self.assertEqual(one.update((("a", ""),)), ("applied", 1))
        for many in range(5):
            one.update(())
        self.assertEqual(error_of(one.update, ()), "LogFull")
        self.assertEqual(len(one.records()), 8)


class Case(unittest.TestCase):
    def setUp(self):
        self.one = Link(("a",), 3, 60)
        self.one.update((("a", COUNT),))
        self.one.sync()

    def state(self):
        """All that can be told, whether the house is open or not."""
        one = self.one
        house = (one.version(), one.sources(), one.program(), one.records()) if one.is_open() else None
        return house, one.letters(), [(one.wanted(holder), one.done(holder)) for holder in range(3)]

    def unchanged(self, error, function, *arguments):
        with self.subTest(arguments):
            before = self.state()
            self.assertEqual(error_of(function, *arguments), error)
            self.assertEqual(self.state(), before)

    def begin(self, *holders):
        for holder in holders:
            self.one.begin(holder, "a", "up", (holder + 1,))


class Row(Case):
    def test_sending(self):
        self.assertIs(self.one.send(0), False)
        self.assertEqual(self.one.letters(), [])
        self.begin(1)
        self.assertIs(self.one.send(1), True)
        self.assertEqual(self.one.letters(), [call(1, 0, 2)])
        # The holder wants to send it until its answer is heard.
        self.assertIs(self.one.send(1), True)
        self.begin(0)
        self.assertIs(self.one.send(0), True)
        self.assertIs(self.one.send(2), False)
        self.assertEqual(self.one.letters(), [call(1, 0, 2), call(1, 0, 2), call(0, 0, 1)])

    def test_beginning_does_not_send(self):
        self.assertEqual(self.one.begin(2, "a", "up", (5,)), 0)
        self.assertEqual((self.one.letters(), self.one.wanted(2)), ([], call(2, 0, 5)))

    def test_holders_out_of_range(self):
        for holder in (-1, 3, 100):
            for function in (self.one.done, self.one.wanted, self.one.send):
                self.unchanged("holder", function, holder)
            self.unchanged("holder", self.one.begin, holder, "A", "let", (100000,))
        small = Link(("a",), 2, 8)
        self.assertEqual(error_of(small.send, 2), "holder")

    def test_errors_of_holders(self):
        self.unchanged("module", self.one.begin, 0, "A", "let", (100000,))
        self.unchanged("name", self.one.begin, 0, "a", "let", (100000,))
        self.unchanged("arguments", self.one.begin, 0, "a", "up", (100000,))
        self.begin(0)
        self.unchanged("AtWork", self.one.begin, 0, "A", "let", (100000,))

    def test_dropping(self):
        self.begin(0, 1, 2)
        for holder in range(3):
            self.one.send(holder)
        self.assertIsNone(self.one.drop(1))
        self.assertEqual(self.one.letters(), [call(0, 0, 1), call(2, 0, 3)])
        self.one.drop(1)
        self.one.drop(0)
        self.assertEqual(self.one.letters(), [])

    def test_duplicating(self):
        self.begin(0, 1)
        self.one.send(0)
        self.one.send(1)
        self.assertIsNone(self.one.duplicate(0))
        self.assertEqual(self.one.letters(), [call(0, 0, 1), call(1, 0, 2), call(0, 0, 1)])

    def test_no_letter(self):
        for many in range(3):
            for at in (-1, many, many + 1, -many - 1, 100):
                for function in (self.one.drop, self.one.duplicate, self.one.deliver):
                    self.unchanged("NoLetter", function, at)
            self.begin(many)
            self.one.send(many)
        with self.assertRaises(NoLetter):
            self.one.deliver(3)

    def test_lists_are_new(self):
        self.begin(0)
        self.one.send(0)
        self.one.letters().clear()
        self.one.records().clear()
        self.one.done(0).append("x")
        self.assertEqual((self.one.letters(), len(self.one.records()), self.one.done(0)), ([call(0, 0, 1)], 3, []))


class Delivering(Case):
    def test_calls_and_answers(self):
        self.begin(0)
        self.one.send(0)
        self.assertIs(self.one.deliver(0), True)
        self.assertEqual(self.one.letters(), [("answer", 0, 0, 1, ("value", 1))])
        self.assertEqual(self.one.done(0), [])
        self.assertIs(self.one.deliver(0), True)
        self.assertEqual(self.one.letters(), [])
        self.assertEqual((self.one.done(0), self.one.wanted(0)), ([("a", "up", (1,), 1, ("value", 1))], None))
        self.assertEqual(self.one.begin(0, "a", "bad", ()), 1)

    def test_answers_are_put_at_the_end(self):
        self.begin(0, 1, 2)
        for holder in range(3):
            self.one.send(holder)
        self.assertIs(self.one.deliver(1), True)
        self.assertEqual(self.one.letters(), [call(0, 0, 1), call(2, 0, 3), ("answer", 1, 0, 1, ("value", 2))])
        self.assertIs(self.one.deliver(0), True)
        self.assertEqual(self.one.letters(), [call(2, 0, 3), ("answer", 1, 0, 1, ("value", 2)),
                                              ("answer", 0, 0, 1, ("value", 3))])

    def test_letters_that_are_doubled(self):
        self.begin(0)
        self.one.send(0)
        self.one.duplicate(0)
        self.one.deliver(0)
        self.assertIs(self.one.deliver(0), True)
        self.assertEqual(self.one.letters(), [("answer", 0, 0, 1, ("value", 1))] * 2)
        self.assertIs(self.one.deliver(1), True)
        self.assertIs(self.one.deliver(0), False)
        self.assertEqual(self.one.letters(), [])
        self.assertEqual(self.one.program()[3], (("a", "k", 1),))
        self.assertEqual(self.one.records().count(call(0, 0, 1)), 1)
        self.assertEqual(len(self.one.done(0)), 1)

    def test_letters_that_are_late(self):
        self.begin(0)
        self.one.send(0)
        self.one.send(0)
        self.one.deliver(0)
        self.one.deliver(1)
        self.one.begin(0, "a", "up", (10,))
        self.one.send(0)
        self.assertEqual(self.one.letters(), [call(0, 0, 1), call(0, 1, 10)])
        self.one.duplicate(0)
        self.assertIs(self.one.deliver(0), True)
        self.assertIs(self.one.deliver(0), True)
        # An elder number than the last one is not answered.
        self.assertIs(self.one.deliver(0), False)
        self.assertEqual(self.one.letters(), [("answer", 0, 0, 1, ("value", 1)), ("answer", 0, 1, 1, ("value", 11))])
        self.assertIs(self.one.deliver(0), False)
        self.assertIs(self.one.deliver(0), True)
        self.assertEqual(self.one.done(0), [("a", "up", (1,), 1, ("value", 1)), ("a", "up", (10,), 1, ("value", 11))])

    def test_a_letter_that_was_lost_is_sent_again(self):
        self.begin(0)
        for _ in range(3):
            self.one.send(0)
            self.one.drop(0)
        self.one.send(0)
        self.one.deliver(0)
        self.one.drop(0)
        self.one.send(0)
        self.one.deliver(0)
        self.assertIs(self.one.deliver(0), True)
        self.assertEqual(self.one.done(0), [("a", "up", (1,), 1, ("value", 1))])

    def test_no_room(self):
        self.one = Link(("a",), 1, 8)
        self.one.update((("a", COUNT),))
        self.one.begin(0, "a", "up", ("x" * 20, "y" * 20, "z" * 20))
        self.one.send(0)
        self.assertIs(self.one.deliver(0), False)
        self.assertEqual(self.one.letters(), [])
        self.assertEqual(self.one.wanted(0)[1:3], (0, 0))

    def test_updates_between(self):
        self.begin(0, 1)
        self.one.send(0)
        self.one.send(1)
        self.one.deliver(0)
        self.one.update((("a", "keep k = 0\nfn up(p) = set k = k + p * 100"),))
        self.one.deliver(0)
        self.one.send(0)
        self.one.deliver(2)
        self.assertEqual(self.one.letters(), [("answer", 0, 0, 1, ("value", 1)), ("answer", 1, 0, 2, ("value", 201)),
                                              ("answer", 0, 0, 1, ("value", 1))])


class House(Case):
    def test_as_the_house(self):
        self.assertEqual(self.one.update((("b", "let x = 1"),)), ("applied", 2))
        self.assertEqual(self.one.update((("a", "let"),)), ("rejected", ("line", "a", 1)))
        self.assertEqual(self.one.sync(), 5)
        self.assertEqual(self.one.version(), 2)
        self.assertEqual(self.one.sources(), (("a", COUNT), ("b", "let x = 1")))
        self.assertEqual(self.one.program()[1:4], (("a",), (("a", "x", 1),), (("a", "k", 0),)))
        self.assertEqual(self.one.records()[3:], [("text", "b", "let x = 1"), ("update", 1)])
        self.unchanged("changes", self.one.update, (("a", ""), ("a", "")))
        self.unchanged("text", self.one.update, (("a", "x" * 601),))

    def test_not_open(self):
        self.begin(0)
        self.one.send(0)
        self.one.cut_power([])
        self.assertIs(self.one.is_open(), False)
        for function in (self.one.sync, self.one.version, self.one.sources, self.one.program, self.one.records):
            self.unchanged("NotOpen", function)
        for changes in ((), (("a", ""),), (("let", ""),), (("a", "x" * 601),)):
            self.unchanged("NotOpen", self.one.update, changes)
        with self.assertRaises(NotOpen):
            self.one.version()

    def test_holders_and_letters_remain(self):
        self.begin(0, 1)
        self.one.send(0)
        self.one.send(1)
        self.one.deliver(0)
        letters = self.one.letters()
        self.one.cut_power([])
        self.assertEqual(self.one.letters(), letters)
        self.assertEqual(self.one.wanted(0), call(0, 0, 1))
        self.assertIs(self.one.send(0), True)
        self.assertEqual(self.one.begin(2, "a", "up", (5,)), 0)
        # Answers can be delivered while the house is not open.
        self.assertIs(self.one.deliver(1), True)
        self.assertEqual(self.one.done(0), [("a", "up", (1,), 1, ("value", 1))])

    def test_a_call_is_lost_if_the_house_is_not_open(self):
        self.begin(0)
        self.one.send(0)
        self.one.cut_power([])
        self.assertIs(self.one.deliver(0), False)
        self.assertEqual(self.one.letters(), [])
        self.assertEqual(self.one.wanted(0), call(0, 0, 1))
        self.assertEqual(self.one.reopen(), 1)
        self.assertEqual(self.one.program()[3], (("a", "k", 0),))

    def test_reopening(self):
        self.begin(0)
        self.one.send(0)
        self.one.deliver(0)
        self.one.update((("b", ""),))
        self.one.cut_power([])
        self.assertEqual(self.one.reopen(), 1)
        self.assertIs(self.one.is_open(), True)
        self.assertEqual((self.one.sources(), self.one.program()[3]), ((("a", COUNT),), (("a", "k", 1),)))
        self.assertEqual(self.one.update((("c", ""),)), ("applied", 2))
        self.assertIs(self.one.deliver(0), True)
        self.one.send(0)
        self.assertEqual(self.one.letters(), [])

    def test_reopening_where_a_house_is_open(self):
        self.one.update((("b", ""),))
        records, program = self.one.records(), self.one.program()
        self.assertEqual(self.one.reopen(), 2)
        self.assertIs(self.one.is_open(), True)
        self.assertEqual((self.one.records(), self.one.program()), (records, program))
        # Opening has flushed what waited.
        self.one.cut_power([])
        self.assertEqual(self.one.reopen(), 2)

    def test_reopening_that_is_cut(self):
        for was_open in (True, False):
            self.setUp()
            if not was_open:
                self.one.cut_power([])
            self.one.schedule_cut(3, [32] * 9)
            with self.assertRaises(PowerCut):
                self.one.reopen()
            self.assertIs(self.one.is_open(), False)
            self.unchanged("NotOpen", self.one.version)
            self.assertEqual(self.one.reopen(), 1)

    def test_a_cut_while_a_call_is_delivered(self):
        for many in range(2):
            self.setUp()
            self.begin(0, 1)
            self.one.send(0)
            self.one.send(1)
            self.one.schedule_cut(many, [32])
            with self.assertRaises(PowerCut):
                self.one.deliver(0)
            # The letter is removed all the same.
            self.assertEqual(self.one.letters(), [call(1, 0, 2)])
            self.assertIs(self.one.is_open(), False)
            self.one.reopen()
            self.assertEqual(self.one.program()[3], (("a", "k", many),))
            self.one.send(0)
            self.assertIs(self.one.deliver(1), True)
            self.assertEqual(self.one.letters()[1], ("answer", 0, 0, 1, ("value", 1)))
            self.assertEqual(self.one.program()[3], (("a", "k", 1),))

    def test_a_cut_amid_an_update_and_a_sync(self):
        self.one.schedule_cut(0, [])
        self.assertEqual(error_of(self.one.update, (("b", ""),)), "PowerCut")
        self.assertIs(self.one.is_open(), False)
        self.one.reopen()
        self.one.update((("b", ""),))
        self.one.schedule_cut(0, [])
        self.assertEqual(error_of(self.one.sync), "PowerCut")
        self.assertIs(self.one.is_open(), False)
        self.assertEqual(self.one.reopen(), 1)

    def test_torn_numbers_and_schedules(self):
        self.unchanged("torn", self.one.cut_power, [33])
        self.unchanged("torn", self.one.schedule_cut, 0, [-1])
        self.unchanged("many", self.one.schedule_cut, -1, [-1])
        self.unchanged("many", self.one.schedule_cut, 100001, [])
        self.assertIsNone(self.one.cut_power([32, 0]))
        self.assertIsNone(self.one.schedule_cut(100000, []))

    def test_torn_updates(self):
        self.one.update((("b", ""),))
        self.one.cut_power([32, 32])
        self.assertEqual(self.one.reopen(), 2)
        self.one.update((("b", "do 1"),))
        self.one.cut_power([32, 31])
        self.assertEqual(self.one.reopen(), 2)


class Drawn(unittest.TestCase):
    """Letters that are lost, doubled and late, with updates and cuts; and what holds at the end."""

    def step(self, one, numbers, heard):
        """One drawn call of the link; errors of the package are let."""
        kind = numbers.below(24)
        row = len(one.letters())
        holder = numbers.below(3)
        torn = [numbers.one_of((0, 32, 32, numbers.below(33))) for _ in range(numbers.below(9))]
        if kind < 4:
            one.begin(holder, *drawn_call(numbers))
        elif kind < 9:
            one.send(holder)
        elif kind < 16:
            self.deliver(one, numbers.below(row) if row else 0, heard)
        elif kind == 16:
            one.drop(numbers.below(row) if row else -1)
        elif kind == 17:
            one.duplicate(numbers.below(row) if row else 1)
        elif kind < 20:
            one.update(drawn_changes(numbers, dict(one.sources())))
        elif kind == 20:
            one.sync()
        elif kind == 21:
            one.schedule_cut(numbers.below(40), torn)
        elif kind == 22 and numbers.below(3) == 0:
            one.cut_power(torn)
        else:
            one.reopen()

    def deliver(self, one, at, heard):
        """Delivers a letter; an answer must always be the same for the same call."""
        letter = (one.letters() + [None])[at]
        found = one.deliver(at)
        self.assertIs(type(found), bool)
        answer = one.letters()[-1] if letter[0] == "call" and found else letter
        if answer[0] == "answer":
            self.assertEqual(heard.setdefault(answer[1:3], answer), answer)

    def told_by_records(self, records):
        """The results and versions of the calls of these records, by holders; each update is loaded from scratch."""
        sources, kept, version, found, changes = {}, {}, 0, {0: [], 1: [], 2: []}, {}
        for record in records[1:]:
            if record[0] in ("text", "remove"):
                changes[record[1]] = record[2] if record[0] == "text" else None
            elif record[0] == "update":
                sources = {name: text for name, text in {**sources, **changes}.items() if text is not None}
                one = Loader(records[0][1])
                self.assertEqual(one.update(tuple(sources.items())), ("applied", 1))
                kept = {row[:2]: kept.get(row[:2], row[2]) for row in one.program()[3]}
                version, changes = version + 1, {}
            else:
                one = Loader(records[0][1])
                one.update(tuple(with_values(sources, [(*binding, value) for binding, value in kept.items()]).items()))
                result = one.call(*record[3:])
                kept = {row[:2]: row[2] for row in one.program()[3]}
                found[record[1]].append(record[3:] + (version, result))
        return found, version, sources, tuple([(*binding, value) for binding, value in kept.items()])

    def check(self, one, heard):
        """All that was answered is in the records once, and they lead to what was told."""
        one.reopen()
        records = one.records()
        found, version, sources, kept = self.told_by_records(records)
        self.assertEqual((one.version(), dict(one.sources()), one.program()[3]), (version, sources, kept))
        calls = [record[1:3] for record in records if record[0] == "call"]
        self.assertEqual(len(set(calls)), len(calls))
        for (holder, number), answer in heard.items():
            self.assertEqual(found[holder][number][3:], answer[3:])
        for holder in range(3):
            done = one.done(holder)
            self.assertEqual(found[holder][:len(done)], done)
            # A holder has at most one call more than it was told of.
            self.assertIn(len(found[holder]) - len(done), (0, 1))
        return sum([len(one.done(holder)) for holder in range(3)])

    def test_many(self):
        answered = cuts = 0
        for first in range(1, 41):
            numbers = Numbers(first)
            one, heard = Link(("a", "b"), 3, 400), {}
            while one.version() == 0:
                one.update(drawn_changes(numbers, {}))
            for _ in range(300):
                try:
                    self.step(one, numbers, heard)
                except ModuleError as error:
                    cuts += isinstance(error, PowerCut)
            one.cut_power([])
            answered += self.check(one, heard)
        self.assertGreater(answered, 300)
        self.assertGreater(cuts, 40)


if __name__ == "__main__":
    unittest.main()
