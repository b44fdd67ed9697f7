import inspect
import unittest

from sameasnew import records
from sameasnew.records import read_record, write_record

# Records, and their written forms.
ROWS = (
    (("entries", ("a",)), "entries a"),
    (("entries", ("abcdef", "b", "c")), "entries abcdef b c"),
    (("text", "a", ""), "text a "),
    (("text", "abcdef", "let x = 1"), "text abcdef let x = 1"),
    (("text", "a", "let x = 1\nhold \"s, t\""), "text a let x = 1|hold \"s, t\""),
    (("text", "a", "\n"), "text a |"),
    (("text", "a", "\n\nx\n\n"), "text a ||x||"),
    (("text", "a", " "), "text a  "),
    (("text", "a", "  no  tokens! ~ "), "text a   no  tokens! ~ "),
    (("text", "text", "text a b"), "text text text a b"),
    (("text", "a", "x" * 600), "text a " + "x" * 600),
    (("text", "a", "\n" * 600), "text a " + "|" * 600),
    (("remove", "a"), "remove a"),
    (("remove", "remove"), "remove remove"),
    (("update", 0), "update 0"),
    (("update", 8), "update 8"),
    (("call", 0, 0, "a", "f", ()), "call 0 0 a f"),
    (("call", 2, 9999, "abcdef", "call", (1, -99999, 99999)), "call 2 9999 abcdef call 1 -99999 99999"),
    (("call", 1, 10, "a", "f", (0,)), "call 1 10 a f 0"),
    (("call", 1, 10, "a", "f", ("",)), "call 1 10 a f \"\""),
    (("call", 1, 10, "a", "f", ("", "", "")), "call 1 10 a f \"\" \"\" \"\""),
    (("call", 1, 10, "a", "f", (" ", "a b", "  c  ")), "call 1 10 a f \" \" \"a b\" \"  c  \""),
    (("call", 1, 10, "a", "f", (",", "(;", "1 2")), "call 1 10 a f \",\" \"(;\" \"1 2\""),
    (("call", 1, 10, "a", "f", ("1", 1, "-1")), "call 1 10 a f \"1\" 1 \"-1\""),
    (("call", 1, 10, "a", "f", ("!#$&'*+-./:<=>?@[\\]", "^_`{}~", "x" * 20)),
     "call 1 10 a f \"!#$&'*+-./:<=>?@[\\]\" \"^_`{}~\" \"" + "x" * 20 + "\""),
)

NAMES = ("", "A", "a1", "let", "as", "abcdefg", "a-b", "\"a\"")


class Interface(unittest.TestCase):
    def test_arguments(self):
        for function, names in ((write_record, ["record"]), (read_record, ["text"])):
            self.assertEqual(list(inspect.signature(function).parameters), names)
            self.assertEqual(function.__module__, records.__name__)


class Written(unittest.TestCase):
    def test_write_record(self):
        for record, text in ROWS:
            with self.subTest(text):
                self.assertEqual(write_record(record), text)

    def test_read_record(self):
        for record, text in ROWS:
            with self.subTest(text):
                found = read_record(text)
                self.assertEqual(found, record)
                self.assertIs(type(found), tuple)

    def test_kinds_of_parts(self):
        for record, text in ROWS:
            with self.subTest(text):
                for part, expected in zip(read_record(text), record):
                    self.assertIs(type(part), type(expected))

    def test_all_numbers(self):
        for number in range(10000):
            record = ("call", number % 3, number, "a", "f", (number,))
            self.assertEqual(read_record(write_record(record)), record)
        for many in range(9):
            self.assertEqual(read_record(f"update {many}"), ("update", many))


class Others(unittest.TestCase):
    def none(self, *texts):
        for text in texts:
            with self.subTest(text):
                self.assertIsNone(read_record(text))

    def test_words(self):
        self.none("", " ", "a", "Text a b", "texts a b", "tex a b", "update0", "calls 0 0 a f", "remove", "entries",
                  "call",
                  "text", "update", "entry a", "1", "\"text\" a b", "remove|a", "let x = 1", "holds a")

    def test_entries(self):
        self.none("entries ", "entries a a", "entries a b a", "entries a b c d", "entries  a", "entries a ",
                  "entries a  b",
                  " entries a", "entries a,b", "entries a, b", "entries abcdefg", "entries a|b", "entriesa",
                  "entries 1")
        for name in NAMES:
            self.none(f"entries {name}", f"entries a {name}", f"entries {name} a")

    def test_texts(self):
        self.none("text a", "text ", "text", "text  a b", " text a b", "texta b", "text a|b", "text 1 b", "text a\nb",
                  "text a " + "x" * 601, "text a " + "|" * 601, "text a let x = 1\nlet y = 2", "text a \n")
        for name in NAMES:
            self.none(f"text {name} let x = 1")

    def test_removes(self):
        self.none("remove ", "remove a ", "remove  a", " remove a", "remove a b", "remove a|", "removea")
        for name in NAMES:
            self.none(f"remove {name}")

    def test_updates(self):
        self.none("update ", "update 9", "update 10", "update 00", "update 01", "update -1", "update -0", "update +1",
                  "update 1 ",
                  "update  1", "update a", "update 1 1", "update \"1\"", "update 1.", "update 1_",
                  "update " + "1" * 5000)

    def test_calls_without_arguments(self):
        self.none("call 0 0 a", "call 0 0", "call 0", "call ", "call 0 0 a ", "call 0 0 a f ", "call  0 0 a f",
                  "call 0  0 a f",
                  "call 0 0  a f", "call 0 0 a  f", "call 0 a f", "call 0 0 a f|", "call0 0 a f")
        for name in NAMES:
            self.none(f"call 0 0 {name} f", f"call 0 0 a {name}", f"call 0 0 {name} f 1", f"call 0 0 a {name} 1")

    def test_numbers_of_calls(self):
        for number in ("10000", "00", "01", "-1", "-0", "+1", "a", "\"1\"", "1_0", "0x1", "9" * 5000):
            self.none(f"call 0 {number} a f", f"call 0 {number} a f 1", f"call {number} 0 a f",
                      f"call {number} 0 a f 1")
        self.none("call 3 0 a f", "call 10 0 a f")

    def test_arguments(self):
        for values in ("a", "1 2 3 4", "\"a\" \"b\" \"c\" \"d\"", "01", "00", "-0", "-01", "+1", "--1", "- 1", "-",
                       "1-",
                       "1 -", "100000", "-100000", "1,2", "1, 2", "1  2", " 1", "1 ", "1 2 ", "\"a", "a\"", "\"",
                       "\"\"\"",
                       "\"a\"\"b\"", "\"a\"1", "1\"a\"", "\"a\"  \"b\"", "\"a\" ", " \"a\"", "-\"a\"", "'a'",
                       "\"" + "x" * 21 + "\"", "\"a|b\"", "|", "1|2", "(1)", "1;2", "1 = 1", "x 1", "1" * 5000):
            self.none(f"call 0 0 a f {values}")

    def test_other_characters(self):
        self.none("text a 1 % 2", "text a \t", "text a \x7f", "text a \xe4", "text a \u0661", "update \u0661",
                  "update \xb2",
                  "call 0 0 a f \"%\"", "call 0 0 a f \"\xe4\"", "call \u0661 0 a f", "entries \xe4", "remove a\n",
                  "update 1\n", "call 0 0 a f 1\n", "call 0 0 a f \"a\nb\"")

    def test_texts_with_one_character_left_out_put_in_or_changed(self):
        """What is read must be written so again, whatever the text."""
        found = 0
        for _, text in ROWS:
            texts = [text[:at] + sign + text[at:] for at in range(min(len(text), 60) + 1) for sign in " |0a\"-,\n%"]
            texts += [text[:at] + sign + text[at + 1:] for at in range(min(len(text), 60)) for sign in " |0a\"-,\n%"]
            texts += [text[:at] + text[at + 1:] for at in range(min(len(text), 60))]
            for other in texts:
                record = read_record(other)
                if record is not None:
                    found += other != text
                    self.assertEqual(write_record(record), other)
                    self.assertEqual(read_record(write_record(record)), record)
        self.assertGreater(found, 100)


if __name__ == "__main__":
    unittest.main()
