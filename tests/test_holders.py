import unittest

from reading import error_of, interface

from sameasnew import holders
from sameasnew.errors import AtWork
from sameasnew.holders import Holder

RESULT = ("value", 7)


class Interface(unittest.TestCase):
    def test_methods(self):
        found = interface(Holder)
        for name, names in (
            ("__init__", ["number"]), ("begin", ["module", "name", "arguments"]), ("wanted", []), ("hear", ["letter"]),
            ("done", []),
        ):
            with self.subTest(name):
                self.assertEqual(found[name], names)
        self.assertEqual(Holder.__module__, holders.__name__)


class Holders(unittest.TestCase):
    def setUp(self):
        self.holder = Holder(1)

    def unheard(self, *letters):
        for letter in letters:
            with self.subTest(letter):
                before = self.holder.wanted(), self.holder.done()
                self.assertIs(self.holder.hear(letter), False)
                self.assertEqual((self.holder.wanted(), self.holder.done()), before)

    def refused(self, error, *parts):
        with self.subTest(parts):
            before = self.holder.wanted(), self.holder.done()
            self.assertEqual(error_of(self.holder.begin, *parts), error)
            self.assertEqual((self.holder.wanted(), self.holder.done()), before)

    def test_at_first(self):
        self.assertIsNone(self.holder.wanted())
        self.assertEqual(self.holder.done(), [])
        self.unheard(("answer", 1, 0, 0, RESULT))

    def test_a_call(self):
        self.assertEqual(self.holder.begin("a", "f", (1, "s")), 0)
        for _ in range(2):
            self.assertEqual(self.holder.wanted(), ("call", 1, 0, "a", "f", (1, "s")))
        self.assertEqual(self.holder.done(), [])
        self.assertIs(self.holder.hear(("answer", 1, 0, 3, RESULT)), True)
        self.assertIsNone(self.holder.wanted())
        self.assertEqual(self.holder.done(), [("a", "f", (1, "s"), 3, RESULT)])

    def test_one_call_after_the_other(self):
        for number, (name, arguments, result) in enumerate((
            ("f", (), ("value", "")), ("g", (1, 2, 3), ("fault", ("run", "", ("type",)))),
            ("f", ("x" * 20,), ("fault", ("module", "a"))), ("f", (), ("value", 0)),
        )):
            self.assertEqual(self.holder.begin("a", name, arguments), number)
            self.assertEqual(self.holder.wanted(), ("call", 1, number, "a", name, arguments))
            self.assertIs(self.holder.hear(("answer", 1, number, 5 - number, result)), True)
        self.assertEqual(self.holder.done(), [
            ("a", "f", (), 5, ("value", "")), ("a", "g", (1, 2, 3), 4, ("fault", ("run", "", ("type",)))),
            ("a", "f", ("x" * 20,), 3, ("fault", ("module", "a"))), ("a", "f", (), 2, ("value", 0)),
        ])

    def test_answers_for_others(self):
        self.holder.begin("a", "f", ())
        self.unheard(("answer", 0, 0, 1, RESULT), ("answer", 2, 0, 1, RESULT))

    def test_answers_of_other_numbers(self):
        self.holder.begin("a", "f", ())
        self.unheard(("answer", 1, 1, 1, RESULT), ("answer", 1, 9999, 1, RESULT))
        self.holder.hear(("answer", 1, 0, 1, RESULT))
        # Once more, while no call waits.
        self.unheard(("answer", 1, 0, 1, RESULT), ("answer", 1, 1, 1, RESULT))
        self.holder.begin("a", "f", ())
        self.unheard(("answer", 1, 0, 1, RESULT), ("answer", 1, 2, 1, RESULT), ("answer", 0, 1, 1, RESULT))
        self.assertIs(self.holder.hear(("answer", 1, 1, 1, RESULT)), True)

    def test_a_call_is_no_answer(self):
        self.holder.begin("a", "f", ())
        self.unheard(self.holder.wanted())

    def test_at_work(self):
        self.holder.begin("a", "f", (1,))
        with self.assertRaises(AtWork):
            self.holder.begin("a", "f", (1,))
        self.refused("AtWork", "b", "g", ())
        self.refused("AtWork", "A", "let", (100000,))
        self.holder.hear(("answer", 1, 0, 1, RESULT))
        self.assertEqual(self.holder.begin("b", "g", ()), 1)

    def test_out_of_range(self):
        for name in ("", "A", "let", "as", "abcdefg", "a1", "a b"):
            self.refused("module", name, "f", ())
            self.refused("name", "a", name, ())
        for arguments in ((1, 2, 3, 4), (100000,), (-100000,), (1, 2, "x" * 21), ("\"",)):
            self.refused("arguments", "a", "f", arguments)
        self.refused("module", "A", "let", (100000,))
        self.refused("name", "a", "let", (100000,))
        # What is refused is not begun.
        self.assertEqual(self.holder.begin("a", "f", (-99999, 99999, "x" * 20)), 0)

    def test_names_that_are_not_there(self):
        self.assertEqual(self.holder.begin("zz", "yy", ()), 0)

    def test_lists_are_new(self):
        self.holder.begin("a", "f", ())
        self.holder.hear(("answer", 1, 0, 1, RESULT))
        self.holder.done().clear()
        self.assertEqual(self.holder.done(), [("a", "f", (), 1, RESULT)])

    def test_holders_are_apart(self):
        other = Holder(0)
        self.holder.begin("a", "f", ())
        self.assertIsNone(other.wanted())
        self.assertEqual(other.begin("a", "g", ()), 0)
        self.assertEqual(other.wanted(), ("call", 0, 0, "a", "g", ()))


if __name__ == "__main__":
    unittest.main()
