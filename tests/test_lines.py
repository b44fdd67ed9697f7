import inspect
import unittest

from reading import lines_of, text_of, tree_of

from sameasnew import lines
from sameasnew.expressions import HEIGHT_MOST, NESTED_MOST
from sameasnew.lines import LINES_MOST, TEXT_MOST, body, parse_module, write_line
from sameasnew.tokens import RESERVED

A = ("name", "a")
ONE = ("number", 1)


class Interface(unittest.TestCase):
    def test_constants(self):
        self.assertEqual((LINES_MOST, TEXT_MOST), (12, 600))

    def test_arguments(self):
        for function, names in ((parse_module, ["text"]), (write_line, ["declaration"]), (body, ["lines"])):
            with self.subTest(function.__name__):
                self.assertEqual(list(inspect.signature(function).parameters), names)
                self.assertEqual(function.__module__, lines.__name__)


class Case(unittest.TestCase):
    def check(self, line, declaration, canonical=None):
        """The line alone has this declaration, and this canonical text, or itself as such."""
        with self.subTest(line):
            self.assertEqual(parse_module(line), ("module", (declaration,)))
            self.assertEqual(write_line(declaration), line if canonical is None else canonical)
            self.assertEqual(parse_module(write_line(declaration)), ("module", (declaration,)))

    def refuse(self, *texts):
        """Each of these lines is faulty, alone and behind another one."""
        for text in texts:
            with self.subTest(text):
                self.assertEqual(parse_module(text), ("line", 1))
                self.assertEqual(parse_module("let zz = 1\n" + text), ("line", 2))

    def faulty(self, number, *rows):
        with self.subTest(rows):
            self.assertEqual(parse_module(text_of(*rows)), ("line", number))

    def accept(self, *rows):
        with self.subTest(rows):
            found, declared = parse_module(text_of(*rows))
            self.assertEqual(found, "module")
            self.assertEqual(len(declared), len(rows))


class Listings(Case):
    def test_imports(self):
        self.check("import a from m", ("import", (("a", "a"),), "m"))
        self.check("import a as b from m", ("import", (("a", "b"),), "m"))
        self.check("import a, b as c from m", ("import", (("a", "a"), ("b", "c")), "m"))
        self.check("import a as c, b from m", ("import", (("a", "c"), ("b", "b")), "m"))
        self.check("import abcdef as b, c, d as e from ghijkl",
                   ("import", (("abcdef", "b"), ("c", "c"), ("d", "e")), "ghijkl"))

    def test_exports(self):
        self.check("export a from m", ("export", (("a", "a"),), "m"))
        self.check("export a as b from m", ("export", (("a", "b"),), "m"))
        self.check("export a, b as c from m", ("export", (("a", "a"), ("b", "c")), "m"))
        self.check("export a as c, b from m", ("export", (("a", "c"), ("b", "b")), "m"))

    def test_a_name_as_itself(self):
        self.check("import a as a from m", ("import", (("a", "a"),), "m"), "import a from m")
        self.check("export b as b, c from m", ("export", (("b", "b"), ("c", "c")), "m"), "export b, c from m")

    def test_a_name_under_two_names(self):
        self.check("import a, a as b from m", ("import", (("a", "a"), ("a", "b")), "m"))
        self.check("export a as b, a as c from m", ("export", (("a", "b"), ("a", "c")), "m"))

    def test_two_names_are_exchanged(self):
        self.check("import a as b, b as a from m", ("import", (("a", "b"), ("b", "a")), "m"))

    def test_the_module_may_have_the_name_of_an_item(self):
        self.check("import m from m", ("import", (("m", "m"),), "m"))

    def test_blanks(self):
        self.check("  import   a ,b   as c,d from  m ",
                   ("import", (("a", "a"), ("b", "c"), ("d", "d")), "m"), "import a, b as c, d from m")

    def test_what_is_no_listing(self):
        for word in ("import", "export"):
            self.refuse(
                word, f"{word} a", f"{word} from m", f"{word} a from", f"{word} a m", f"{word} from", f"{word} m",
                f"{word} a, from m", f"{word} , a from m", f"{word} a,, b from m", f"{word} a b from m",
                f"{word} a; b from m", f"{word} a as from m", f"{word} as b from m", f"{word} a as b c from m",
                f"{word} a as b as c from m", f"{word} a b c from m", f"{word} a as as from m",
                f"{word} a from m, n", f"{word} a from m m", f"{word} a from m from n", f"{word} a from m = 1",
                f"{word} (a) from m", f"{word} 1 from m", f"{word} \"a\" from m", f"{word} a from 1",
                f"{word} a from \"m\"", f"{word} a as 1 from m", f"{word} a as \"b\" from m",
                f"{word} a \"as\" b from m",
                f"{word} a \"from\" m", f"{word} a, \"b\" from m", f"{word} a = 1", f"{word} abcdefg from m",
            )

    def test_reserved_words_are_no_names(self):
        for word in RESERVED:
            self.refuse(f"import {word} from m", f"import a as {word} from m", f"import {word} as a from m",
                        f"import a from {word}", f"export {word} from m", f"export a as {word} from m",
                        f"export a from {word}")


class Variables(Case):
    def test_lets_and_keeps(self):
        for word in ("let", "keep"):
            self.check(f"{word} x = 1", (word, "x", ONE))
            self.check(f"{word} abcdef = a + 1", (word, "abcdef", ("+", A, ONE)))
            self.check(f"{word} x = a = 1", (word, "x", ("=", A, ONE)))
            self.check(f"{word} x = x", (word, "x", ("name", "x")))
            self.check(f"{word} x = set a = 1", (word, "x", ("set", "a", ONE)))
            self.check(f"{word} x = if a then 1 else \"b\"", (word, "x", ("if", A, ONE, ("string", "b"))))
            self.check(f"{word} x = (a; 1)", (word, "x", ("then", A, ONE)))

    def test_blanks_and_parentheses(self):
        self.check(" let  x=(( a+1) )", ("let", "x", ("+", A, ONE)), "let x = a + 1")
        self.check("keep x   =f( a,1 )", ("keep", "x", ("call", "f", (A, ONE))), "keep x = f(a, 1)")

    def test_what_is_no_variable(self):
        for word in ("let", "keep"):
            self.refuse(
                word, f"{word} x", f"{word} x =", f"{word} = 1", f"{word} x 1", f"{word} x < 1", f"{word} 1 = 1",
                f"{word} \"x\" = 1", f"{word} x = 1 2", f"{word} x = 1,", f"{word} x y = 1", f"{word} x, y = 1",
                f"{word} (x) = 1", f"{word} x \"=\" 1", f"{word} x = = 1", f"{word} x = 1; 2", f"{word} x() = 1",
                f"{word} x = a = b = c", f"{word} abcdefg = 1", f"{word} x = (1",
            )
            self.refuse(*[f"{word} {reserved} = 1" for reserved in RESERVED])


class Functions(Case):
    def test_functions(self):
        self.check("fn f() = 1", ("fn", "f", (), ONE))
        self.check("fn f(a) = a", ("fn", "f", ("a",), A))
        self.check("fn f(a, b) = a + 1", ("fn", "f", ("a", "b"), ("+", A, ONE)))
        self.check("fn f(c, b, a) = a = 1", ("fn", "f", ("c", "b", "a"), ("=", A, ONE)))
        self.check("fn f() = (a; f())", ("fn", "f", (), ("then", A, ("call", "f", ()))))

    def test_a_parameter_may_have_the_name_of_the_function(self):
        self.check("fn f(f) = f", ("fn", "f", ("f",), ("name", "f")))

    def test_a_parameter_may_have_a_name_that_is_available(self):
        self.accept("let a = 1", "import b from m", "fn f(a, b) = a")

    def test_blanks_and_parentheses(self):
        self.check(" fn  f (a ,b)=( a )", ("fn", "f", ("a", "b"), A), "fn f(a, b) = a")
        self.check("fn f( )=1", ("fn", "f", (), ONE), "fn f() = 1")

    def test_a_parameter_twice(self):
        self.refuse("fn f(a, a) = 1", "fn f(a, b, a) = 1", "fn f(b, a, a) = 1")

    def test_what_is_no_function(self):
        self.refuse(
            "fn", "fn f", "fn f()", "fn f() =", "fn f = 1", "fn () = 1", "fn f( = 1", "fn f) = 1", "fn f)( = 1",
            "fn f(a = 1", "fn f(a,) = 1", "fn f(,) = 1", "fn f(,a) = 1", "fn f(a b) = 1", "fn f(a; b) = 1",
            "fn f((a)) = 1", "fn f(1) = 1", "fn f(\"a\") = 1", "fn f(a as b) = 1", "fn f() 1", "fn f() < 1",
            "fn f()() = 1", "fn f(a) b = 1", "fn 1() = 1", "fn \"f\"() = 1", "fn f g() = 1", "fn f(a) = 1 2",
            "fn f(a) \"=\" 1", "fn f a) = 1", "fn f =) = 1", "fn f a, b) = 1", "fn f \"(\" a) = 1", "fn abcdefg() = 1",
            "fn f(abcdefg) = 1", "fn f(a(b)) = 1", "fn f (",
        )
        self.refuse(*[f"fn {word}() = 1" for word in RESERVED])
        self.refuse(*[f"fn f({word}) = 1" for word in RESERVED])
        self.refuse(*[f"fn f(a, {word}) = 1" for word in RESERVED])


class Doing(Case):
    def test_dos_and_holds(self):
        for word in ("do", "hold"):
            self.check(f"{word} 1", (word, ONE))
            self.check(f"{word} \"a b\"", (word, ("string", "a b")))
            self.check(f"{word} a = 1", (word, ("=", A, ONE)))
            self.check(f"{word} set a = 1", (word, ("set", "a", ONE)))
            self.check(f"{word} f(a)", (word, ("call", "f", (A,))))
            self.check(f"{word} (a)", (word, A), f"{word} a")
            self.check(f"  {word}(a ;1)", (word, ("then", A, ONE)), f"{word} (a; 1)")

    def test_what_is_no_such_line(self):
        for word in ("do", "hold"):
            self.refuse(word, f"{word} =", f"{word} = 1", f"{word} a b", f"{word} a = b = c", f"{word} a; b",
                        f"{word} a, b", f"{word} ()", f"{word} {word} a", f"{word} let x = 1")
            self.refuse(*[f"{word} {reserved}" for reserved in RESERVED])


class Other(Case):
    def test_lines_that_begin_otherwise(self):
        self.refuse("a", "a = 1", "1", "\"let\" x = 1", "\"do\" 1", "(do 1)", "x let = 1", "=", ",", "set a = 1", "f()",
                    "if a then b else c", "then", "else a", "from m import a", "as", "lets x = 1", "dont", "fnf() = 1",
                    "\"import\" a from m", "\"fn\" f() = 1", "let let x = 1", "do do 1")

    def test_lines_that_cannot_be_split(self):
        self.refuse("let x = 01", "let x = 100000", "do \"a", "do abcdefg", "do 1 # 2", "do 1 / 2", "let X = 1",
                    "do \"abcdefghijklmnopqrstu\"", "let x == 1 !", "do a\tb", "\t", "#", "letx y = 1.",
                    "importa b from m")

    def test_other_characters(self):
        self.refuse("do \"a" + chr(37) + "b\"", "do \"a|b\"", "do 1 " + chr(37) + " 2", "do 1 | 2", "|", "do 1\r",
                    "do \u00e9")

    def test_expressions_at_their_bounds(self):
        for word in ("do ", "hold ", "let x = ", "keep x = ", "fn f() = "):
            self.accept(word + "(" * NESTED_MOST + "1" + ")" * NESTED_MOST)
            self.refuse(word + "(" * (NESTED_MOST + 1) + "1" + ")" * (NESTED_MOST + 1))
            self.accept(word + "1" + " + 1" * (HEIGHT_MOST - 1))
            self.refuse(word + "1" + " + 1" * HEIGHT_MOST)

    def test_the_parentheses_of_parameters_do_not_count(self):
        self.accept("fn f(a) = " + "(" * NESTED_MOST + "a" + ")" * NESTED_MOST)

    def test_expressions_are_those_of_the_grammar(self):
        for text in ("a + b * c", "(a + b) * c", "(a; b; c)", "set a = if b then c else f(1, \"x\")", "(a = b) < c"):
            self.assertEqual(lines_of("do " + text), (("do", tree_of(text)),))
            self.assertEqual(write_line(("do", tree_of(text))), "do " + text)


class Empty(Case):
    def test_texts_without_lines_that_have_tokens(self):
        for text in ("", " ", "\n", "\n\n\n", "  \n    \n "):
            with self.subTest(text):
                self.assertEqual(parse_module(text), ("module", ()))

    def test_empty_lines_mean_nothing(self):
        self.assertEqual(lines_of("\nlet x = 1\n\n   \ndo x\n"), (("let", "x", ONE), ("do", ("name", "x"))))

    def test_empty_lines_count_in_the_number_of_the_faulty_line(self):
        self.faulty(2, "", "let")
        self.faulty(5, "let x = 1", "", "  ", "", "let x = 2", "")
        self.faulty(1, "let", "", "let")

    def test_the_first_faulty_line(self):
        self.faulty(1, "let", "do 1", "do 2")
        self.faulty(2, "do 1", "let", "do 2")
        self.faulty(3, "do 1", "do 2", "let")
        self.faulty(2, "do 1", "let", "let", "let x = 1", "let x = 1")
        self.faulty(2, "let x = 1", "let x = 1", "let")


class Available(Case):
    def test_own_names_twice(self):
        makers = ("let x = 1", "keep x = 1", "fn x() = 1")
        for first in makers:
            for second in makers:
                self.faulty(2, first, second)
                self.faulty(2, first, second, "do 1")
                self.faulty(3, first, "do 1", second)
                self.faulty(3, "do 1", first, second)
                self.faulty(3, "let y = 1", first, second, second)

    def test_own_and_imported(self):
        for own in ("let x = 1", "keep x = 1", "fn x() = 1"):
            for imported in ("import x from m", "import a as x from m", "import b, x, c from m",
                             "import b, c as x from m"):
                self.faulty(2, own, imported)
                self.faulty(2, imported, own)
                self.faulty(3, "do 1", imported, own, "do 1")
                self.faulty(3, imported, "do 1", own)

    def test_imported_twice(self):
        self.refuse("import x, x from m", "import x, a as x from m", "import a as x, x from m",
                    "import a as x, b as x from m",
                    "import x, b, x from m")
        self.faulty(2, "import x from m", "import x from m")
        self.faulty(2, "import x from m", "import x from n")
        self.faulty(2, "import a as x from m", "import b as x from n")
        self.faulty(3, "import a as x from m", "do 1", "import y, x from n")

    def test_the_name_there_is_not_made_available(self):
        self.accept("let a = 1", "import a as b from m")
        self.accept("import a as b from m", "keep a = 1")
        self.accept("import a as b from m", "import a from n", "fn c() = 1")

    def test_exported_names_are_not_made_available(self):
        self.accept("import a from m", "export a from m")
        self.accept("export a from m", "import b as a from n")

    def test_modules_are_not_made_available(self):
        self.accept("let m = 1", "import a from m", "export b from m")

    def test_parameters_are_not_made_available(self):
        self.accept("fn f(a) = a", "fn g(a) = a", "let a = 1")


class Exported(Case):
    def test_own_and_exported(self):
        for own in ("let x = 1", "keep x = 1", "fn x() = 1"):
            for exported in ("export x from m", "export a as x from m", "export b, x, c from m",
                             "export b, c as x from m"):
                self.faulty(2, own, exported)
                self.faulty(2, exported, own)
                self.faulty(3, "do 1", exported, own, "do 1")
                self.faulty(3, exported, "do 1", own)

    def test_exported_twice(self):
        self.refuse("export x, x from m", "export x, a as x from m", "export a as x, x from m",
                    "export a as x, b as x from m",
                    "export x, b, x from m")
        self.faulty(2, "export x from m", "export x from m")
        self.faulty(2, "export x from m", "export x from n")
        self.faulty(2, "export a as x from m", "export b as x from n")
        self.faulty(3, "export a as x from m", "do 1", "export y, x from n")

    def test_the_name_there_is_not_exported(self):
        self.accept("let a = 1", "export a as b from m")
        self.accept("export a as b from m", "keep a = 1")
        self.accept("export a as b from m", "export a from n")

    def test_imported_names_are_not_exported(self):
        self.accept("import x from m", "export a as x from n")


class Many(Case):
    def test_12_lines_with_tokens(self):
        self.accept(*["do 1"] * 12)
        self.accept(*[f"let {name} = 1" for name in "abcdefghijkl"])

    def test_the_13th_line_with_tokens_is_faulty(self):
        self.faulty(13, *["do 1"] * 13)
        self.faulty(13, *["do 1"] * 20)
        self.faulty(13, *[f"let {name} = 1" for name in "abcdefghijklm"])
        self.faulty(13, *["do 1"] * 12, "import a from m")
        self.faulty(13, *["do 1"] * 12, "let")

    def test_empty_lines_do_not_count(self):
        rows = ["", "do 1", "  "] * 12
        kind, declared = parse_module(text_of(*rows))
        self.assertEqual((kind, len(declared)), ("module", 12))
        self.faulty(38, *rows, "", "do 1", "do 1")

    def test_an_earlier_faulty_line_comes_first(self):
        self.faulty(12, *["do 1"] * 11, "do", "do 1")
        self.faulty(1, "do", *["do 1"] * 12)
        self.faulty(7, "let x = 1", *["do 1"] * 5, "keep x = 1", *["do 1"] * 10)

    def test_the_12th_line_may_be_faulty_in_each_way(self):
        self.faulty(12, *["do 1"] * 10, "let x = 1", "let x = 1", "do 1")
        self.faulty(12, *["do 1"] * 10, "export x from m", "let x = 1", "do 1")
        self.faulty(12, *["do 1"] * 11, "do \"", "do 1")


class Bounds(Case):
    def test_texts_of_600_characters(self):
        text = "let x = 1" + " " * 581 + "\nlet y = 2"
        self.assertEqual(len(text), TEXT_MOST)
        self.assertEqual(parse_module(text), ("module", (("let", "x", ONE), ("let", "y", ("number", 2)))))
        self.assertEqual(parse_module("\n" * 596 + "do 1"), ("module", (("do", ONE),)))
        self.assertEqual(parse_module("\n" * 598 + "do"), ("line", 599))
        self.assertEqual(parse_module("\n" * 600), ("module", ()))

    def test_long_lists(self):
        names = [first + second for first in "pqrstuvwxy" for second in "klmnopqrst"][:140]
        row = "import " + ", ".join(names) + " from m"
        self.assertLessEqual(len(row), TEXT_MOST)
        self.check(row, ("import", tuple([(name, name) for name in names]), "m"))

    def test_longer_texts_raise_no_error(self):
        self.assertEqual(parse_module("do 1" + " " * 700), ("module", (("do", ONE),)))


class Body(unittest.TestCase):
    def test_the_body_has_the_lines_that_are_run(self):
        rows = ("hold  \"a\"", "import a from m", "let x=(1)", "fn f(p) = p", "", "keep k = x+1", "export b from m",
                "do f( 1)")
        self.assertEqual(body(lines_of(text_of(*rows))),
                         ("hold \"a\"", "let x = 1", "keep k = x + 1", "do f(1)"))

    def test_each_kind_of_line(self):
        for row in ("let x = 1", "keep x = 1", "do 1", "hold \"a\""):
            self.assertEqual(body(lines_of(row)), (row,))
        for row in ("import a from m", "export a from m", "fn f() = 1", ""):
            self.assertEqual(body(lines_of(row)), ())

    def test_the_same_line_again(self):
        self.assertEqual(body(lines_of("do 1\ndo 1")), ("do 1", "do 1"))

    def test_no_lines(self):
        self.assertEqual(body(()), ())

    def test_bodies_are_the_same_whatever_the_blanks(self):
        self.assertEqual(body(lines_of("let x=1\n\ndo(x)")), body(lines_of("fn f() = 1\nlet x = 1\n do x")))


class Results(unittest.TestCase):
    def test_declarations_are_tuples_throughout(self):
        text = text_of("import a, b as c from m", "export d from m", "let x = f(1, a)", "keep k = (a; 1)",
                       "fn f(p, q) = if p then q else a", "do set a = f(1, 2)", "hold \"s\"")
        found = parse_module(text)
        self.assertIsInstance(hash(found), int)
        self.assertEqual([line[0] for line in found[1]], ["import", "export", "let", "keep", "fn", "do", "hold"])
        self.assertIsInstance(body(found[1]), tuple)

    def test_every_line_can_be_read_again(self):
        text = text_of("import a,b as c from m", "export d as d from m", "let x=f(1,(a))", "keep k = (a;(1;2))",
                       "fn f(p,q)=(if p then q else a)+1", "do(set a = f(1, 2))", "hold\"s\"+\"t\"")
        declared = lines_of(text)
        again = text_of(*[write_line(line) for line in declared])
        self.assertEqual(lines_of(again), declared)
        self.assertEqual(text_of(*[write_line(line) for line in lines_of(again)]), again)


if __name__ == "__main__":
    unittest.main()
