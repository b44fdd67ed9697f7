import inspect
import unittest

from sameasnew import tokens
from sameasnew.tokens import NAME_MOST, NUMBER_MOST, RESERVED, STRING_MOST
from sameasnew.tokens import is_name, is_value, split

WORDS = ["import", "export", "let", "keep", "fn", "do", "hold", "if", "then", "else", "set", "from", "as"]
SIGNS = "(),;+-*<="

# Point 2: all that a string may consist of. The double quote ends a string of the language.
CHARACTERS = [chr(code) for code in range(32, 127) if chr(code) not in "%|"]
ALLOWED = [character for character in CHARACTERS if character != '"']
OUTSIDE = [character for character in CHARACTERS if not (character.isalnum() or character in SIGNS + ' "')]
OUTSIDE += [chr(code) for code in range(65, 91)]


def word(text):
    return ("word", text)


def number(integer):
    return ("number", integer)


def string(characters):
    return ("string", characters)


def sign(text):
    return ("sign", text)


class Interface(unittest.TestCase):
    def test_constants(self):
        self.assertEqual((NAME_MOST, NUMBER_MOST, STRING_MOST), (6, 99999, 20))

    def test_reserved_is_the_tuple_of_the_words_in_order(self):
        self.assertEqual(RESERVED, tuple(WORDS))
        self.assertIsInstance(RESERVED, tuple)

    def test_arguments(self):
        for function, names in ((is_name, ["text"]), (is_value, ["value"]), (split, ["line"])):
            with self.subTest(function.__name__):
                self.assertEqual(list(inspect.signature(function).parameters), names)
                self.assertEqual(function.__module__, tokens.__name__)


class Names(unittest.TestCase):
    def check(self, text, expected):
        with self.subTest(text):
            self.assertIs(is_name(text), expected)

    def test_one_to_six_letters(self):
        for text in ("a", "z", "ab", "abc", "abcdef", "zzzzzz", "qwerty"):
            self.check(text, True)

    def test_each_letter(self):
        for letter in "abcdefghijklmnopqrstuvwxyz":
            self.check(letter, True)
            self.check("x" + letter, True)

    def test_none_and_seven_letters(self):
        for text in ("", "abcdefg", "imports", "a" * 700):
            self.check(text, False)

    def test_reserved_words_are_no_names(self):
        for text in WORDS:
            self.check(text, False)

    def test_words_beside_the_reserved_ones_are_names(self):
        for text in ("impor", "lets", "le", "keeps", "fun", "doo", "holds", "iff", "i", "elsee", "sets", "form", "a",
                     "ass", "exprt", "thenn", "tes", "module", "true", "none", "in", "and", "or", "not", "is"):
            self.check(text, True)

    def test_other_characters(self):
        for text in ("A", "aB", "Let", "a1", "1", "1a", "a_b", "_", "a b", " a", "a ", "a\n", "\u00e9", "a-b", "\"a\""):
            self.check(text, False)

    def test_each_other_character_at_each_place(self):
        for character in CHARACTERS:
            if not "a" <= character <= "z":
                for text in (character, character + "a", "a" + character, "a" + character + "b"):
                    self.check(text, False)


class Values(unittest.TestCase):
    def check(self, value, expected):
        with self.subTest(value):
            self.assertIs(is_value(value), expected)

    def test_numbers_at_their_bounds_and_beyond(self):
        for value in (0, 1, -1, 99999, -99999, 50000):
            self.check(value, True)
        for value in (100000, -100000, 10 ** 30, -10 ** 30):
            self.check(value, False)

    def test_strings_at_their_bounds_and_beyond(self):
        for value in ("", "a", " ", "a" * 20, " " * 20, "if", "99999", "100000"):
            self.check(value, True)
        for value in ("a" * 21, " " * 21, "a" * 700):
            self.check(value, False)

    def test_each_allowed_character(self):
        for character in ALLOWED:
            self.check(character, True)
            self.check(character * 20, True)

    def test_double_quotes(self):
        for value in ('"', 'a"', '"a', 'a"b', '""'):
            self.check(value, False)

    def test_characters_that_no_string_has(self):
        for value in ("%", "a|", "|", "\n", "a\nb", "\t", "\x7f", "\x00", "\x1f", "\u00e9"):
            self.check(value, False)

    def test_other_kinds_are_no_values(self):
        for value in (None, True, False, (), (1,), [1], 1.0, b"a"):
            self.check(value, False)


class Split(unittest.TestCase):
    def check(self, line, *expected):
        with self.subTest(line):
            found = split(line)
            self.assertEqual(found, list(expected))
            self.assertIsInstance(found, list)

    def refuse(self, line):
        with self.subTest(line):
            self.assertIsNone(split(line))

    def test_no_tokens(self):
        self.check("")
        self.check(" ")
        self.check("        ")

    def test_each_kind(self):
        self.check("abc", word("abc"))
        self.check("12", number(12))
        self.check('"a b"', string("a b"))
        for text in SIGNS:
            self.check(text, sign(text))

    def test_kinds_of_the_parts(self):
        for kind, content in split('ab 12 "12" +'):
            self.assertIs(type(content), int if kind == "number" else str)
        for token in split("a 1"):
            self.assertIs(type(token), tuple)

    def test_reserved_words_are_words(self):
        for text in WORDS:
            self.check(text, word(text))

    def test_a_line_with_all_kinds(self):
        self.check('fn f(p, q) = if p < 10 then "yes" else q * 2',
                   word("fn"), word("f"), sign("("), word("p"), sign(","), word("q"), sign(")"), sign("="),
                   word("if"), word("p"), sign("<"), number(10), word("then"), string("yes"),
                   word("else"), word("q"), sign("*"), number(2))

    def test_all_signs_without_spaces(self):
        self.check(SIGNS, *[sign(text) for text in SIGNS])

    def test_spaces_are_not_needed_beside_signs(self):
        self.check("a+1", word("a"), sign("+"), number(1))
        self.check("f(1,b);c", word("f"), sign("("), number(1), sign(","), word("b"), sign(")"), sign(";"), word("c"))
        self.check('a="b"', word("a"), sign("="), string("b"))

    def test_spaces_are_not_needed_between_kinds(self):
        self.check("if1then2else3", word("if"), number(1), word("then"), number(2), word("else"), number(3))
        self.check("a12b", word("a"), number(12), word("b"))
        self.check('a"b"c', word("a"), string("b"), word("c"))
        self.check('1"2"3', number(1), string("2"), number(3))
        self.check('"a""b"', string("a"), string("b"))
        for letter in "abcdefghijklmnopqrstuvwxyz":
            self.check("1" + letter, number(1), word(letter))
            self.check(letter + "1", word(letter), number(1))

    def test_spaces_are_needed_between_words_and_between_numbers(self):
        self.check("ab cd", word("ab"), word("cd"))
        self.check("abcd", word("abcd"))
        self.check("ifa", word("ifa"))
        self.check("12 34", number(12), number(34))
        self.check("1234", number(1234))
        self.check("0 1", number(0), number(1))

    def test_more_spaces_mean_nothing(self):
        self.check("   let    x=  1   ", word("let"), word("x"), sign("="), number(1))
        self.check(" ( ) ", sign("("), sign(")"))

    def test_words_of_six_and_of_seven_letters(self):
        self.check("abcdef", word("abcdef"))
        self.check("abcdef ghijkl", word("abcdef"), word("ghijkl"))
        self.check("abcdef1ghijkl", word("abcdef"), number(1), word("ghijkl"))
        self.refuse("abcdefg")
        self.refuse("imports")
        self.refuse("a abcdefg")
        self.refuse("abcdefg a")
        self.refuse("a" * 12)

    def test_each_letter_and_digit(self):
        for letter in "abcdefghijklmnopqrstuvwxyz":
            self.check(letter, word(letter))
        for digit in "0123456789":
            self.check(digit, number(int(digit)))
            self.check("1" + digit, number(10 + int(digit)))

    def test_numbers_at_99999_and_beyond(self):
        self.check("99999", number(99999))
        self.check("99998", number(99998))
        self.check("10000", number(10000))
        self.refuse("100000")
        self.refuse("999999")
        self.refuse("1 100000")
        self.refuse("9" * 6000)

    def test_numbers_with_a_zero_ahead(self):
        self.check("0", number(0))
        for line in ("00", "01", "007", "000000", "012345", "a 01", "0000001"):
            self.refuse(line)

    def test_a_minus_is_a_sign(self):
        self.check("-5", sign("-"), number(5))
        self.check("1-1", number(1), sign("-"), number(1))

    def test_strings_of_20_and_of_21_characters(self):
        self.check('"' + "a" * 20 + '"', string("a" * 20))
        self.check('"' + " " * 20 + '"', string(" " * 20))
        self.refuse('"' + "a" * 21 + '"')
        self.refuse('"' + " " * 21 + '"')
        self.refuse('a "' + "b" * 21 + '" c')

    def test_empty_string(self):
        self.check('""', string(""))
        self.check('"" ""', string(""), string(""))

    def test_strings_keep_their_characters(self):
        self.check('"  a  "', string("  a  "))
        self.check('"007"', string("007"))
        self.check('"abcdefg (+) IF"', string("abcdefg (+) IF"))
        for character in ALLOWED:
            self.check('"' + character + '"', string(character))
            self.check('"a' + character + 'b"', string("a" + character + "b"))
        for at in range(0, len(ALLOWED), 20):
            text = "".join(ALLOWED[at:at + 20])
            self.check('"' + text + '"', string(text))

    def test_a_backslash_in_a_string_means_nothing_else(self):
        self.check('"\\"', string("\\"))
        self.check('"\\n"', string("\\n"))

    def test_strings_that_are_not_closed(self):
        for line in ('"', '"abc', 'a "', '"a" "b', '"""', 'let x = "abc', '"' + "a" * 20, '"abc(1, 2)'):
            self.refuse(line)

    def test_characters_that_no_string_has(self):
        for character in "%|\n\t\x7f\u00e9":
            self.refuse('"' + character + '"')

    def test_other_characters_outside_of_strings(self):
        for character in OUTSIDE:
            for line in (character, "a" + character, "a " + character, character + " 1", "a " + character + " b"):
                self.refuse(line)
        for character in "%|\n\t\r\x00\x7f\u00e9\u0663":
            self.refuse("a " + character)
            self.refuse(character)

    def test_other_characters_behind_what_can_be_split(self):
        for line in ("a > b", "a.b", "f[1]", "x := 1", "a / b", "a != b", "'a'", "# a", "Ab", "a_b", "1.5"):
            self.refuse(line)

    def test_every_list_is_new(self):
        found = split("a b")
        found.append(1)
        self.assertEqual(split("a b"), [word("a"), word("b")])


if __name__ == "__main__":
    unittest.main()
