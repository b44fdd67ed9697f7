import inspect
import unittest

from sameasnew import expressions
from sameasnew.expressions import HEIGHT_MOST, NESTED_MOST, height, parse, write
from sameasnew.tokens import RESERVED, split

A = ("name", "a")
B = ("name", "b")
C = ("name", "c")
D = ("name", "d")
ONE = ("number", 1)
SIGNS = ("+", "-", "*", "<", "=")


def call(name, *trees):
    return ("call", name, trees)


def read(text):
    return parse(split(text))


def chain(high, step):
    """A tree of this height; each step makes it higher by 1."""
    tree = A
    for _ in range(high - 1):
        tree = step(tree)
    return tree


class Interface(unittest.TestCase):
    def test_constants(self):
        self.assertEqual((NESTED_MOST, HEIGHT_MOST), (10, 12))

    def test_arguments(self):
        for function, names in ((parse, ["tokens"]), (write, ["tree"]), (height, ["tree"])):
            with self.subTest(function.__name__):
                self.assertEqual(list(inspect.signature(function).parameters), names)
                self.assertEqual(function.__module__, expressions.__name__)


class Case(unittest.TestCase):
    def check(self, text, tree):
        with self.subTest(text):
            self.assertEqual(read(text), tree)

    def refuse(self, *texts):
        for text in texts:
            with self.subTest(text):
                self.assertIsNone(read(text))


class Forms(Case):
    def test_numbers(self):
        self.check("0", ("number", 0))
        self.check("7", ("number", 7))
        self.check("99999", ("number", 99999))

    def test_strings(self):
        self.check('""', ("string", ""))
        self.check('"a b"', ("string", "a b"))
        self.check('"1"', ("string", "1"))
        self.check('"("', ("string", "("))
        self.check('"if"', ("string", "if"))

    def test_names(self):
        self.check("a", A)
        self.check("abcdef", ("name", "abcdef"))

    def test_calls(self):
        self.check("f()", call("f"))
        self.check("f(a)", call("f", A))
        self.check("f(a, b)", call("f", A, B))
        self.check("f(a, b, 1, \"x\")", call("f", A, B, ONE, ("string", "x")))
        self.check("f(g(a), h())", call("f", call("g", A), call("h")))

    def test_arguments_are_wholes(self):
        self.check("f(a + b)", call("f", ("+", A, B)))
        self.check("f(a = b)", call("f", ("=", A, B)))
        self.check("f(set a = 1, if a then b else c)", call("f", ("set", "a", ONE), ("if", A, B, C)))
        self.check("f((a; b))", call("f", ("then", A, B)))

    def test_each_sign(self):
        for sign in SIGNS:
            self.check("a " + sign + " b", (sign, A, B))

    def test_if(self):
        self.check("if a then b else c", ("if", A, B, C))

    def test_parts_of_an_if_are_wholes(self):
        self.check("if a < b then a + b else a = b", ("if", ("<", A, B), ("+", A, B), ("=", A, B)))
        self.check("if if a then b else c then d else 1", ("if", ("if", A, B, C), D, ONE))
        self.check("if a then if b then c else d else 1", ("if", A, ("if", B, C, D), ONE))
        self.check("if a then b else if c then d else 1", ("if", A, B, ("if", C, D, ONE)))
        self.check("if set a = 1 then set b = 1 else set c = 1",
                   ("if", ("set", "a", ONE), ("set", "b", ONE), ("set", "c", ONE)))

    def test_an_else_takes_all_that_follows(self):
        self.check("if a then b else c + d", ("if", A, B, ("+", C, D)))
        self.check("if a then b else c = d", ("if", A, B, ("=", C, D)))

    def test_set(self):
        self.check("set a = b", ("set", "a", B))
        self.check("set a = b = c", ("set", "a", ("=", B, C)))
        self.check("set a = b + c", ("set", "a", ("+", B, C)))
        self.check("set a = set b = 1", ("set", "a", ("set", "b", ONE)))
        self.check("set a = if a then b else c", ("set", "a", ("if", A, B, C)))

    def test_spaces_mean_nothing(self):
        self.check("a+b*1", ("+", A, ("*", B, ONE)))
        self.check("  f  ( a ,b )  ", call("f", A, B))
        self.check("if(a)then(b)else(c)", ("if", A, B, C))
        self.check("if 1then 1else 1", ("if", ONE, ONE, ONE))


class Binding(Case):
    def test_sums_and_products_associate_to_the_left(self):
        for sign in ("+", "-", "*"):
            self.check(f"a {sign} b {sign} c", (sign, (sign, A, B), C))
            self.check(f"a {sign} b {sign} c {sign} d", (sign, (sign, (sign, A, B), C), D))

    def test_plus_and_minus_bind_alike(self):
        self.check("a + b - c", ("-", ("+", A, B), C))
        self.check("a - b + c", ("+", ("-", A, B), C))

    def test_products_bind_more_than_sums(self):
        self.check("a + b * c", ("+", A, ("*", B, C)))
        self.check("a * b + c", ("+", ("*", A, B), C))
        self.check("a * b - c * d", ("-", ("*", A, B), ("*", C, D)))
        self.check("a - b * c - d", ("-", ("-", A, ("*", B, C)), D))

    def test_sums_bind_more_than_comparisons(self):
        for sign in ("<", "="):
            self.check(f"a + b {sign} c - d", (sign, ("+", A, B), ("-", C, D)))
            self.check(f"a * b {sign} c * d", (sign, ("*", A, B), ("*", C, D)))

    def test_there_is_only_one_comparison(self):
        self.refuse("a = b = c", "a < b < c", "a = b < c", "a < b = c", "a + b = c = d")

    def test_parentheses_bind_most(self):
        self.check("a - (b - c)", ("-", A, ("-", B, C)))
        self.check("(a - b) - c", ("-", ("-", A, B), C))
        self.check("a * (b + c)", ("*", A, ("+", B, C)))
        self.check("(a + b) * c", ("*", ("+", A, B), C))
        self.check("(a = b) = c", ("=", ("=", A, B), C))
        self.check("a < (b < c)", ("<", A, ("<", B, C)))
        self.check("(if a then b else c) + d", ("+", ("if", A, B, C), D))
        self.check("1 + (set a = 1)", ("+", ONE, ("set", "a", ONE)))

    def test_an_if_or_a_set_is_no_operand(self):
        self.refuse("1 + if a then b else c", "1 = set a = 1", "a * set a = 1", "a < if a then b else c",
                    "1 - set a = 1")


class Parentheses(Case):
    def test_around_one_expression_they_add_nothing(self):
        self.check("(a)", A)
        self.check("((a))", A)
        self.check("(1)", ONE)
        self.check('("x")', ("string", "x"))
        self.check("(a + b)", ("+", A, B))
        self.check("(if a then b else c)", ("if", A, B, C))
        self.check("(f(a))", call("f", A))
        self.check("((a; b))", ("then", A, B))

    def test_sequences(self):
        self.check("(a; b)", ("then", A, B))
        self.check("(a; b; c)", ("then", A, ("then", B, C)))
        self.check("(a; b; c; d)", ("then", A, ("then", B, ("then", C, D))))
        self.check("(a; (b; c))", ("then", A, ("then", B, C)))
        self.check("((a; b); c)", ("then", ("then", A, B), C))

    def test_parts_of_sequences_are_wholes(self):
        self.check("(set a = 1; a = b)", ("then", ("set", "a", ONE), ("=", A, B)))
        self.check("(if a then b else c; d)", ("then", ("if", A, B, C), D))
        self.check("(a; if a then b else c)", ("then", A, ("if", A, B, C)))

    def test_sequences_are_operands(self):
        self.check("(a; b) + c", ("+", ("then", A, B), C))
        self.check("a * (b; c)", ("*", A, ("then", B, C)))

    def test_commas_and_semicolons_are_not_exchanged(self):
        self.refuse("(a, b)", "f(a; b)", "(a; b, c)", "f(a, b; c)", "a; b", "a, b")

    def test_a_name_before_parentheses_is_called(self):
        self.check("f ((a))", call("f", A))
        self.refuse("1(a)", '"f"(a)', "(f)(a)", "f()()", "f(a)(b)")


class Nesting(Case):
    def test_around_one_expression(self):
        self.check("(" * 10 + "a" + ")" * 10, A)
        self.refuse("(" * 11 + "a" + ")" * 11)

    def test_calls(self):
        tree = A
        for _ in range(10):
            tree = call("f", tree)
        self.check("f(" * 10 + "a" + ")" * 10, tree)
        self.refuse("f(" * 11 + "a" + ")" * 11)

    def test_calls_without_arguments(self):
        tree = call("f")
        for _ in range(9):
            tree = call("f", tree)
        self.check("f(" * 9 + "f()" + ")" * 9, tree)
        self.refuse("f(" * 10 + "f()" + ")" * 10)
        self.check("(" * 9 + "f()" + ")" * 9, call("f"))
        self.refuse("(" * 10 + "f()" + ")" * 10)

    def test_sequences_at_their_beginning(self):
        tree = A
        for _ in range(10):
            tree = ("then", tree, B)
        self.check("(" * 10 + "a" + "; b)" * 10, tree)
        self.refuse("(" * 11 + "a" + "; b)" * 11)

    def test_sequences_at_their_end(self):
        tree = A
        for _ in range(10):
            tree = ("then", B, tree)
        self.check("(b; " * 10 + "a" + ")" * 10, tree)
        self.refuse("(b; " * 11 + "a" + ")" * 11)

    def test_operands(self):
        tree = A
        for _ in range(10):
            tree = ("+", ONE, tree)
        self.check("1 + (" * 10 + "a" + ")" * 10, tree)
        self.refuse("1 + (" * 11 + "a" + ")" * 11)

    def test_different_purposes(self):
        self.check("f((" * 5 + "a" + "))" * 5, call("f", call("f", call("f", call("f", call("f", A))))))
        self.refuse("f((" * 5 + "f()" + "))" * 5, "f((" * 5 + "(a; b)" + "))" * 5, "(" + "f((" * 5 + "a" + "))" * 5 + ")")

    def test_all_arguments_and_parts_count(self):
        deep = "(" * 9 + "a" + ")" * 9
        deeper = "(" * 10 + "a" + ")" * 10
        self.check(f"f({deep}, {deep})", call("f", A, A))
        self.check(f"({deep}; {deep})", ("then", A, A))
        self.refuse(f"f({deeper}, a)", f"f(a, {deeper})", f"({deeper}; a)", f"(a; {deeper})")

    def test_parentheses_beside_one_another_are_not_nested(self):
        deep = "(" * 10 + "a" + ")" * 10
        self.check(f"{deep} + {deep} + {deep}", ("+", ("+", A, A), A))
        self.check(f"if {deep} then {deep} else {deep}", ("if", A, A, A))
        self.check("f(" + ", ".join(["(a)"] * 30) + ")", call("f", *[A] * 30))
        self.check("f(" + ", ".join(["f()"] * 30) + ")", call("f", *[call("f")] * 30))

    def test_parentheses_that_were_closed_do_not_count(self):
        deep = "(" * 10 + "a" + ")" * 10
        for text in ("(a)", "((a))", "f()", "f(a)", "(a; a)"):
            with self.subTest(text):
                self.assertIsNotNone(read(f"{text} + {deep}"))
                self.refuse(f"{text} + ({deep})", f"({deep}) + {text}")


class Wrong(Case):
    def test_no_tokens(self):
        self.assertIsNone(parse([]))

    def test_a_token_too_few(self):
        for text in ("a + b", "a * b", "a < b", "a = b", "(a)", "(a; b)", "f()", "f(a)", "f(a, b)",
                     "if a then b else c", "set a = b", "a + (b * c)"):
            tokens = split(text)
            for end in range(len(tokens)):
                # What is left of these is an expression without its end.
                if tokens[:end] not in ([("word", "a")], [("word", "f")]):
                    with self.subTest(text, end=end):
                        self.assertIsNone(parse(tokens[:end]))

    def test_a_token_missing_inside(self):
        self.refuse("if then b else c", "if a b else c", "if a then else c", "if a then b c", "a then b else c",
                    "set = b", "set a b", "f(a b)", "f(, b)", "f(a,)", "f(,)", "(a;)", "(; a)", "(;)", "()",
                    "(a b)", "a b", "a + * b", "a + - b", "a ) b", "f a)", "f(a, , b)", "(a; ; b)")

    def test_a_token_too_many(self):
        for text in ("a", "1", '"x"', "f()", "(a)", "a + b", "a = b", "if a then b else c", "set a = b"):
            for more in (")", ",", ";", " a", " 1", ' "x"', " if", " then", " else", " set", " let", " +", " a b"):
                self.refuse(text + more)

    def test_a_sign_without_operands(self):
        self.refuse("-1", "+1", "- a", "*", "+", "a +", "+ a", "= a", "< a", "a =", "a <", "1 - -1")
        for sign in "(),;+-*<=":
            self.refuse(sign)

    def test_reserved_words_are_no_names(self):
        for name in RESERVED:
            self.refuse(name, name + "()", name + "(a)", "a + " + name, f"set {name} = 1", f"f({name})",
                        f"({name}; a)", f"if {name} then a else b", f"if a then {name} else b",
                        f"if a then b else {name}")

    def test_words_of_seven_letters_are_no_names(self):
        self.assertIsNone(parse([("word", "abcdefg")]))
        self.assertIsNone(parse([("word", "set"), ("word", "abcdefg"), ("sign", "="), ("number", 1)]))

    def test_only_a_name_is_set_or_called(self):
        self.refuse("set 1 = 1", 'set "a" = 1', "set (a) = 1", "set f() = 1", "set a + b = 1", "set a < 1")
        self.assertIsNone(parse([("word", "set"), ("string", "a"), ("sign", "="), ("number", 1)]))

    def test_strings_are_no_signs_and_no_words(self):
        self.assertIsNone(parse([("word", "a"), ("string", "+"), ("word", "b")]))
        self.assertIsNone(parse([("string", "("), ("word", "a"), ("string", ")")]))
        self.assertIsNone(parse([("string", "set"), ("word", "a"), ("sign", "="), ("number", 1)]))

    def test_parentheses_that_do_not_close(self):
        self.refuse("(", ")", "(a", "a)", "((a)", "(a))", "f(", "f(a", "f(a))", ")a(", "(" * 500, "f(" * 500)


class Heights(Case):
    def check_height(self, text, high):
        with self.subTest(text):
            self.assertEqual(height(read(text)), high)

    def test_leaves(self):
        for text in ("0", "99999", '""', '"abc"', "a", "(((a)))"):
            self.check_height(text, 1)

    def test_calls(self):
        self.check_height("f()", 1)
        self.check_height("f(a)", 2)
        self.check_height("f(a, b, c)", 2)
        self.check_height("f(g())", 2)
        self.check_height("f(g(a))", 3)
        self.check_height("f(a, g(a))", 3)
        self.check_height("f(g(a), a)", 3)
        self.check_height("f(a, g(a), a)", 3)

    def test_signs(self):
        for sign in SIGNS:
            self.check_height(f"a {sign} b", 2)
            self.check_height(f"(a + b) {sign} c", 3)
            self.check_height(f"a {sign} (b + c)", 3)

    def test_if(self):
        self.check_height("if a then b else c", 2)
        self.check_height("if a + 1 then b else c", 3)
        self.check_height("if a then b + 1 else c", 3)
        self.check_height("if a then b else c + 1", 3)

    def test_set(self):
        self.check_height("set a = 1", 2)
        self.check_height("set a = b + 1", 3)
        self.check_height("set a = set b = c + 1", 4)
        self.check_height("set abcdef = 1", 2)

    def test_sequences(self):
        self.check_height("(a; b)", 2)
        self.check_height("(a; b; c)", 3)
        self.check_height("((a; b); c)", 3)
        self.check_height("(a + b; c)", 3)
        self.check_height("(a; b; c + d)", 4)
        self.check_height("(a; b + c; d)", 4)

    def test_heights_beyond_the_bound(self):
        self.assertEqual(height(chain(13, lambda tree: call("f", tree))), 13)
        self.assertEqual(height(chain(40, lambda tree: ("+", tree, A))), 40)


class HeightsOf12And13(Case):
    def check_bound(self, step, text):
        """text(many) is the text of so many steps."""
        self.check(text(11), chain(12, step))
        self.assertEqual(height(read(text(11))), 12)
        self.refuse(text(12), text(13), text(2000))

    def test_sums_and_products(self):
        for sign in ("+", "-", "*"):
            self.check_bound(lambda tree: (sign, tree, B), lambda many: "a" + f" {sign} b" * many)

    def test_sequences(self):
        self.check_bound(lambda tree: ("then", B, tree), lambda many: "(" + "b; " * many + "a)")

    def test_sets(self):
        self.check_bound(lambda tree: ("set", "b", tree), lambda many: "set b = " * many + "a")

    def test_ifs(self):
        self.check_bound(lambda tree: ("if", B, C, tree), lambda many: "if b then c else " * many + "a")
        self.check_bound(lambda tree: ("if", B, tree, C), lambda many: "if b then " * many + "a" + " else c" * many)
        self.check_bound(lambda tree: ("if", tree, B, C), lambda many: "if " * many + "a" + " then b else c" * many)

    def test_ifs_and_sets_without_an_end(self):
        self.refuse("if " * 2000, "set a = " * 2000, "if a then " * 2000, "if a then b else " * 2000)

    def test_calls(self):
        tree = call("f", chain(11, lambda tree: ("+", tree, B)))
        self.check("f(a" + " + b" * 10 + ")", tree)
        self.assertEqual(height(tree), 12)
        self.refuse("f(a" + " + b" * 11 + ")")

    def test_calls_and_the_nesting(self):
        text = "f(" * 10 + "{}" + ")" * 10
        self.assertEqual(height(read(text.format("a + b"))), 12)
        self.refuse(text.format("a + b + c"))
        self.assertEqual(height(read(text.format("set a = b"))), 12)
        self.refuse(text.format("set a = set b = c"))

    def test_comparisons(self):
        sum_of_12 = "a" + " + b" * 11
        sum_of_11 = "a" + " + b" * 10
        for sign in ("<", "="):
            self.assertEqual(height(read(f"{sum_of_11} {sign} {sum_of_11}")), 12)
            self.refuse(f"{sum_of_12} {sign} a", f"a {sign} {sum_of_12}")

    def test_the_highest_part_counts(self):
        sum_of_12 = "a" + " + b" * 11
        sum_of_11 = "a" + " + b" * 10
        for text in ("f({}, b)", "f(b, {})", "({}; b)", "(b; {})", "if {} then b else c", "if b then {} else c",
                     "if b then c else {}", "set a = {}", "({}) * b", "b - ({})"):
            with self.subTest(text):
                self.assertEqual(height(read(text.format(sum_of_11))), 12)
                self.assertIsNone(read(text.format(sum_of_12)))

    def test_parentheses_add_no_height(self):
        self.assertEqual(height(read("(" * 10 + "a" + " + b" * 11 + ")" * 10)), 12)


class Canonical(unittest.TestCase):
    def check(self, tree, text):
        with self.subTest(text):
            self.assertEqual(write(tree), text)
            self.assertEqual(read(text), tree)

    def test_leaves(self):
        self.check(("number", 0), "0")
        self.check(("number", 99999), "99999")
        self.check(("string", ""), '""')
        self.check(("string", " a (b;c) "), '" a (b;c) "')
        self.check(A, "a")

    def test_calls(self):
        self.check(call("f"), "f()")
        self.check(call("f", A), "f(a)")
        self.check(call("f", A, B), "f(a, b)")
        self.check(call("f", A, call("g"), ONE), "f(a, g(), 1)")

    def test_arguments_have_no_parentheses_of_their_own(self):
        self.check(call("f", ("+", A, B), ("=", A, B)), "f(a + b, a = b)")
        self.check(call("f", ("if", A, B, C), ("set", "a", ONE)), "f(if a then b else c, set a = 1)")
        self.check(call("f", ("then", A, B)), "f((a; b))")

    def test_signs(self):
        for sign in SIGNS:
            self.check((sign, A, B), f"a {sign} b")

    def test_if_and_set(self):
        self.check(("if", A, B, C), "if a then b else c")
        self.check(("set", "a", B), "set a = b")

    def test_parts_of_if_and_set_have_no_parentheses(self):
        choice = ("if", A, B, C)
        self.check(("if", choice, choice, choice),
                   "if if a then b else c then if a then b else c else if a then b else c")
        setting = ("set", "a", ONE)
        self.check(("if", setting, setting, setting), "if set a = 1 then set a = 1 else set a = 1")
        self.check(("set", "a", setting), "set a = set a = 1")
        self.check(("set", "a", choice), "set a = if a then b else c")
        self.check(("set", "a", ("=", A, B)), "set a = a = b")
        self.check(("if", ("=", A, B), ("<", A, B), ("+", A, B)), "if a = b then a < b else a + b")

    def test_sequences(self):
        self.check(("then", A, B), "(a; b)")
        self.check(("then", A, ("then", B, C)), "(a; b; c)")
        self.check(("then", A, ("then", B, ("then", C, D))), "(a; b; c; d)")
        self.check(("then", ("then", A, B), C), "((a; b); c)")
        self.check(("then", A, ("then", ("then", B, C), D)), "(a; (b; c); d)")

    def test_parts_of_sequences_have_no_parentheses(self):
        self.check(("then", ("if", A, B, C), ("set", "a", ONE)), "(if a then b else c; set a = 1)")
        self.check(("then", ("set", "a", ONE), ("=", A, B)), "(set a = 1; a = b)")

    def test_sequences_have_parentheses_everywhere(self):
        sequence = ("then", A, B)
        for sign in SIGNS:
            self.check((sign, sequence, sequence), f"(a; b) {sign} (a; b)")
        self.check(("if", sequence, sequence, sequence), "if (a; b) then (a; b) else (a; b)")
        self.check(("set", "a", sequence), "set a = (a; b)")

    def test_left_operands(self):
        for sign in ("+", "-"):
            for inner in ("+", "-", "*"):
                self.check((sign, (inner, A, B), C), f"a {inner} b {sign} c")
            for inner in ("<", "="):
                self.check((sign, (inner, A, B), C), f"(a {inner} b) {sign} c")
        self.check(("*", ("*", A, B), C), "a * b * c")
        for inner in ("+", "-", "<", "="):
            self.check(("*", (inner, A, B), C), f"(a {inner} b) * c")
        for sign in ("<", "="):
            for inner in ("+", "-", "*"):
                self.check((sign, (inner, A, B), C), f"a {inner} b {sign} c")
            for inner in ("<", "="):
                self.check((sign, (inner, A, B), C), f"(a {inner} b) {sign} c")

    def test_right_operands(self):
        for sign in ("+", "-"):
            self.check((sign, A, ("*", B, C)), f"a {sign} b * c")
            for inner in ("+", "-", "<", "="):
                self.check((sign, A, (inner, B, C)), f"a {sign} (b {inner} c)")
        for inner in SIGNS:
            self.check(("*", A, (inner, B, C)), f"a * (b {inner} c)")
        for sign in ("<", "="):
            for inner in ("+", "-", "*"):
                self.check((sign, A, (inner, B, C)), f"a {sign} b {inner} c")
            for inner in ("<", "="):
                self.check((sign, A, (inner, B, C)), f"a {sign} (b {inner} c)")

    def test_ifs_and_sets_as_operands(self):
        for sign in SIGNS:
            self.check((sign, ("if", A, B, C), D), f"(if a then b else c) {sign} d")
            self.check((sign, D, ("if", A, B, C)), f"d {sign} (if a then b else c)")
            self.check((sign, ("set", "a", ONE), D), f"(set a = 1) {sign} d")
            self.check((sign, D, ("set", "a", ONE)), f"d {sign} (set a = 1)")

    def test_atoms_as_operands(self):
        for atom, text in ((ONE, "1"), (("string", "x"), '"x"'), (A, "a"), (call("f"), "f()"), (call("f", A), "f(a)")):
            for sign in SIGNS:
                self.check((sign, atom, atom), f"{text} {sign} {text}")

    def test_texts_become_canonical(self):
        for text, canonical in (
            ("  ( a )  ", "a"),
            ("a+b*c", "a + b * c"),
            ("(a*b)+(c)", "a * b + c"),
            ("(a+b)+c", "a + b + c"),
            ("a+(b+c)", "a + (b + c)"),
            ("f ( a,b )", "f(a, b)"),
            ("f ( )", "f()"),
            ("f((a), (b))", "f(a, b)"),
            ("f( ( a;b ) )", "f((a; b))"),
            ("( a;b;c )", "(a; b; c)"),
            ("(a; (b; c))", "(a; b; c)"),
            ("((a; b))", "(a; b)"),
            ("set   a=(1)", "set a = 1"),
            ("set a = (b = c)", "set a = b = c"),
            ("if(a)then(b)else(c)", "if a then b else c"),
            ("if (if a then b else c) then (set a = 1) else (c < d)", "if if a then b else c then set a = 1 else c < d"),
            ("((a = b) = (c))", "(a = b) = c"),
            ('("a  b")', '"a  b"'),
        ):
            with self.subTest(text):
                self.assertEqual(write(read(text)), canonical)
                self.assertEqual(write(read(canonical)), canonical)

    def test_sequences_of_12_parts(self):
        tree = chain(12, lambda tree: ("then", B, tree))
        self.check(tree, "(" + "b; " * 11 + "a)")

    def test_heights_beyond_the_bound_are_written(self):
        self.assertEqual(write(chain(13, lambda tree: ("+", tree, B))), "a" + " + b" * 12)


def grow(parts, more):
    """Trees of every form of which one part is from the list more and the others from parts."""
    trees = []
    for tree in more:
        trees += [("call", "f", (tree,)), ("set", "a", tree)]
        for other in parts:
            pairs = [(tree, other), (other, tree)]
            trees += [(word,) + pair for word in SIGNS + ("then",) for pair in pairs]
            trees += [("call", "f", pair) for pair in pairs]
            trees += [("if", tree, other, other), ("if", other, tree, other), ("if", other, other, tree)]
    return trees


def without_pairs(tokens):
    """For each pair of parentheses that does not belong to a call, the tokens without it."""
    rows = []
    opened = []
    for at, token in enumerate(tokens):
        if token == ("sign", "("):
            opened.append(at)
        elif token == ("sign", ")"):
            first = opened.pop()
            if first == 0 or tokens[first - 1][0] != "word" or tokens[first - 1][1] in RESERVED:
                rows.append(tokens[:first] + tokens[first + 1:at] + tokens[at + 1:])
    return rows


class EveryTree(unittest.TestCase):
    """Canonical texts of all trees up to a height, with few leaves."""

    def setUp(self):
        leaves = [A, ONE, ("string", "x"), call("f")]
        low = grow(leaves, leaves)
        self.trees = leaves + low + grow([A], low) + grow([A], grow([A], grow([A], [B])))

    def test_reading_the_text_gives_the_tree(self):
        for tree in self.trees:
            self.assertEqual(read(write(tree)), tree)

    def test_no_two_trees_have_the_same_text(self):
        self.assertEqual(len({write(tree) for tree in self.trees}), len(set(self.trees)))

    def test_no_parentheses_are_too_many(self):
        for tree in self.trees:
            for tokens in without_pairs(split(write(tree))):
                self.assertNotEqual(parse(tokens), tree, write(tree))


class Arguments(unittest.TestCase):
    def test_parse_leaves_its_tokens_as_they_are(self):
        for text in ("if f(a, b) then (a; b) else set a = b * c", "a +", "(a"):
            tokens = split(text)
            before = list(tokens)
            parse(tokens)
            self.assertEqual(tokens, before)

    def test_the_tree_does_not_change_with_the_tokens(self):
        tokens = split("f(a, b)")
        tree = parse(tokens)
        tokens.clear()
        self.assertEqual(tree, call("f", A, B))

    def test_trees_are_tuples_throughout(self):
        tree = read('if f(a, 1) then (a; "b") else set a = b')
        # Only what has no list in it can be hashed.
        self.assertIsInstance(hash(tree), int)
        self.assertEqual(tree, ("if", call("f", A, ONE), ("then", A, ("string", "b")), ("set", "a", B)))

    def test_the_same_tokens_give_the_same_tree(self):
        self.assertEqual(read("a + b * c"), read("a+b*c"))


if __name__ == "__main__":
    unittest.main()
