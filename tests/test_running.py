import inspect
import itertools
import unittest

from reading import filled, modules_of, text_of

from sameasnew import running
from sameasnew.running import CALLS_MOST, STEPS_MOST, Memory, apply_trace, run_body, trace_holds


class Interface(unittest.TestCase):
    def test_constants(self):
        self.assertEqual((STEPS_MOST, CALLS_MOST), (200, 8))

    def test_arguments(self):
        for function, names in (
            (run_body, ["modules", "module", "memory"]),
            (trace_holds, ["modules", "module", "memory", "trace"]),
            (apply_trace, ["module", "memory", "trace"]),
            (Memory.value, ["self", "binding"]),
            (Memory.give, ["self", "binding", "value"]),
            (Memory.variables, ["self"]),
            (Memory.held, ["self"]),
            (Memory.take, ["self", "module", "string"]),
        ):
            with self.subTest(function.__name__):
                self.assertEqual(list(inspect.signature(function).parameters), names)
                self.assertEqual(function.__module__, running.__name__)


class Memories(unittest.TestCase):
    def test_a_new_memory_is_empty(self):
        memory = Memory()
        self.assertIsNone(memory.value(("a", "x")))
        self.assertEqual(memory.variables(), [])
        self.assertEqual(memory.held(), [])

    def test_values(self):
        memory = Memory()
        self.assertIsNone(memory.give(("a", "x"), 0))
        self.assertIsNone(memory.give(("b", "x"), ""))
        self.assertEqual(memory.value(("a", "x")), 0)
        self.assertEqual(memory.value(("b", "x")), "")
        self.assertIsNone(memory.value(("a", "y")))
        memory.give(("a", "x"), "again")
        self.assertEqual(memory.value(("a", "x")), "again")
        self.assertEqual(memory.value(("b", "x")), "")

    def test_variables_rise(self):
        memory = Memory()
        for module, name, value in (("b", "a", 1), ("ab", "x", "s"), ("a", "y", 2), ("a", "xx", 3), ("a", "x", "t")):
            memory.give((module, name), value)
        memory.give(("b", "a"), -5)
        self.assertEqual(memory.variables(),
                         [("a", "x", "t"), ("a", "xx", 3), ("a", "y", 2), ("ab", "x", "s"), ("b", "a", -5)])

    def test_held(self):
        memory = Memory()
        self.assertIs(memory.take("b", "s"), True)
        self.assertIs(memory.take("a", "t"), True)
        self.assertIs(memory.take("b", ""), True)
        self.assertEqual(memory.held(), [("b", "s"), ("a", "t"), ("b", "")])

    def test_a_string_is_held_once(self):
        memory = Memory()
        memory.take("b", "s")
        memory.take("a", "t")
        for module in "abc":
            self.assertIs(memory.take(module, "s"), False)
        self.assertEqual(memory.held(), [("b", "s"), ("a", "t")])

    def test_lists_are_new(self):
        memory = Memory()
        memory.give(("a", "x"), 1)
        memory.take("a", "s")
        memory.variables().clear()
        memory.held().append(("a", "t"))
        self.assertEqual(memory.variables(), [("a", "x", 1)])
        self.assertEqual(memory.held(), [("a", "s")])
        self.assertIs(memory.take("a", "t"), True)

    def test_memories_are_apart(self):
        first, second = Memory(), Memory()
        first.give(("a", "x"), 1)
        first.take("a", "s")
        self.assertEqual((second.variables(), second.held()), ([], []))


class Case(unittest.TestCase):
    def run_in(self, order, texts):
        """Runs the bodies of these modules, all but the last without a fault; what the last gives, and the memory."""
        modules = modules_of(**texts)
        memory = Memory()
        for module in order[:-1]:
            self.assertEqual(run_body(modules, module, memory)[0], "done")
        return run_body(modules, order[-1], memory), memory

    def value(self, text, value, before="", order="a", **texts):
        """The expression has this value in module a, with these lines before it."""
        with self.subTest(text):
            (kind, found), memory = self.run_in(order, {"a": text_of(before, f"let result = {text}"), **texts})
            self.assertEqual(kind, "done", found)
            self.assertEqual(memory.value(("a", "result")), value)
            self.assertIs(type(memory.value(("a", "result"))), type(value))

    def fault(self, text, words, before="", order="a", **texts):
        """The expression has this fault in module a, with these lines before it."""
        with self.subTest(text):
            found, _ = self.run_in(order, {"a": text_of(before, f"do {text}"), **texts})
            self.assertEqual(found, ("fault", words))

    def held(self, order, expected, **texts):
        found, memory = self.run_in(order, texts)
        self.assertEqual(found[0], "done")
        self.assertEqual(memory.held(), expected)

    def variables(self, order, expected, **texts):
        found, memory = self.run_in(order, texts)
        self.assertEqual(found[0], "done")
        self.assertEqual(memory.variables(), expected)


class Signs(Case):
    def test_numbers_and_strings(self):
        for text, value in (("0", 0), ("7", 7), ("99999", 99999), ("\"\"", ""), ("\"a b\"", "a b"),
                            ("\"" + "x" * 20 + "\"", "x" * 20)):
            self.value(text, value)

    def test_plus(self):
        self.value("1 + 2", 3)
        self.value("0 - 5 + 3", -2)
        self.value("99998 + 1", 99999)
        self.value("\"a\" + \"b\"", "ab")
        self.value("\"\" + \"\"", "")
        self.value("\"b\" + \"a\" + \"c\"", "bac")
        self.value("\"1\" + \"2\"", "12")

    def test_minus(self):
        self.value("5 - 2", 3)
        self.value("2 - 5", -3)
        self.value("10 - 3 - 2", 5)
        self.value("10 - (3 - 2)", 9)
        self.value("0 - 99999", -99999)

    def test_times(self):
        self.value("6 * 7", 42)
        self.value("(0 - 6) * 7", -42)
        self.value("(0 - 6) * (0 - 7)", 42)
        self.value("0 * 99999", 0)
        self.value("33333 * 3", 99999)
        self.value("2 + 3 * 4", 14)

    def test_less(self):
        self.value("1 < 2", 1)
        self.value("2 < 2", 0)
        self.value("3 < 2", 0)
        self.value("0 - 3 < 0 - 2", 1)
        self.value("9 < 10", 1)
        self.value("\"a\" < \"b\"", 1)
        self.value("\"a\" < \"a\"", 0)
        self.value("\"b\" < \"a\"", 0)
        self.value("\"\" < \"a\"", 1)
        self.value("\"ab\" < \"b\"", 1)
        self.value("\"a\" < \"ab\"", 1)
        self.value("\"9\" < \"10\"", 0)
        self.value("\"Z\" < \"a\"", 1)
        self.value("\" \" < \"!\"", 1)

    def test_equal(self):
        self.value("1 = 1", 1)
        self.value("1 = 2", 0)
        self.value("0 = 1 - 1", 1)
        self.value("\"a\" = \"a\"", 1)
        self.value("\"a\" = \"b\"", 0)
        self.value("\"a\" = \"a \"", 0)
        self.value("1 = \"1\"", 0)
        self.value("\"1\" = 1", 0)
        self.value("0 = \"\"", 0)
        self.value("(1 = 1) = (2 = 2)", 1)

    def test_numbers_at_their_bounds(self):
        self.value("99999 + 0", 99999)
        self.value("0 - 99999 - 0", -99999)
        self.value("99999 * 1", 99999)
        self.value("(0 - 99999) * 1", -99999)
        self.value("(0 - 99999) + 99999", 0)

    def test_numbers_beyond_their_bounds(self):
        for text in ("99999 + 1", "1 + 99999", "0 - 99999 - 1", "(0 - 99999) + (0 - 1)", "(0 - 1) - 99999", "50000 * 2",
                     "99999 * 99999", "(0 - 50000) * 2", "99999 - (0 - 1)", "99999 + 1 - 1", "(99999 + 1) * 0",
                     "\"a\" = 99999 + 1"):
            self.fault(text, ("large",))

    def test_strings_at_their_bounds_and_beyond(self):
        ten = "\"" + "x" * 10 + "\""
        self.value(f"{ten} + {ten}", "x" * 20)
        self.value(f"{ten} + {ten} + \"\"", "x" * 20)
        for text in (f"{ten} + {ten} + \"y\"", f"\"y\" + ({ten} + {ten})", f"{ten} + ({ten} + \" \")",
                     f"{ten} + {ten} + {ten}",
                     f"({ten} + {ten} + \"y\") = 1"):
            self.fault(text, ("long",))

    def test_wrong_kinds(self):
        for sign in "+-*<":
            self.fault(f"1 {sign} \"a\"", ("type",))
            self.fault(f"\"a\" {sign} 1", ("type",))
            self.fault(f"\"1\" {sign} 1", ("type",))
            self.fault(f"\"\" {sign} 0", ("type",))
        for sign in "-*":
            self.fault(f"\"a\" {sign} \"b\"", ("type",))
            self.fault(f"\"a\" {sign} \"a\"", ("type",))

    def test_kinds_are_looked_at_when_both_operands_are_evaluated(self):
        for sign in "+-*":
            self.fault(f"\"a\" {sign} (99999 + 1)", ("large",))
            self.fault(f"(99999 + 1) {sign} \"a\"", ("large",))
            self.fault(f"\"a\" {sign} (1 - \"b\" {sign} 1)", ("type",))
        self.fault("\"a\" < 99999 + 1", ("large",))
        self.fault("\"a\" - x", ("early", "b", "x"), "import x from b", b="let x = 1")
        self.fault("x - \"a\" - x", ("type",), "let x = 1")

    def test_both_operands_are_evaluated_from_left_to_right(self):
        for sign in "+-*<=":
            self.value(f"((set x = x * 2; 1) {sign} (set x = x + 1; 1); x)", 7, "let x = 3")
        self.value("(set x = 5) + x", 10, "let x = 3")
        self.value("x + (set x = 5)", 8, "let x = 3")
        self.value("x + x + (set x = 5) + x", 16, "let x = 3")


class Forms(Case):
    def test_ifs(self):
        self.value("if 1 then 2 else 3", 2)
        self.value("if 0 then 2 else 3", 3)
        self.value("if 99 then \"a\" else 3", "a")
        self.value("if 0 - 1 then 2 else \"b\"", 2)
        self.value("if 1 = 2 then 2 else if 1 < 2 then 4 else 5", 4)

    def test_the_other_part_of_an_if_is_not_evaluated(self):
        self.value("if 1 then 2 else 1 + \"a\"", 2)
        self.value("if 0 then 1 + \"a\" else 3", 3)
        self.value("((if 1 then 2 else set x = 1); x)", 7, "let x = 7")
        self.value("((if 0 then set x = 1 else 2); x)", 7, "let x = 7")

    def test_the_first_part_of_an_if_must_be_a_number(self):
        for test in ("\"\"", "\"a\"", "\"0\"", "\"1\"", "\"a\" + \"b\""):
            self.fault(f"if {test} then 2 else 3", ("type",))

    def test_faults_within_an_if(self):
        self.fault("if 99999 + 1 then \"a\" - 1 else \"a\" - 1", ("large",))
        self.fault("if 1 then 99999 + 1 else \"a\" - 1", ("large",))
        self.fault("if 0 then \"a\" - 1 else 99999 + 1", ("large",))

    def test_sequences(self):
        self.value("(1; 2)", 2)
        self.value("(1; 2; \"c\")", "c")
        self.value("((1; 2); 3)", 3)
        self.value("(set x = 2; set x = x * x; x + 1)", 5, "let x = 1")
        self.value("(set x = x * 2; set x = x + 1; x)", 7, "let x = 3")

    def test_faults_within_a_sequence(self):
        self.fault("(99999 + 1; \"a\" - 1)", ("large",))
        self.fault("(1; \"a\" - 1; 99999 + 1)", ("type",))
        self.fault("(1; 2; 99999 + 1)", ("large",))

    def test_sets(self):
        self.value("set x = 5", 5, "let x = 1")
        self.value("(set x = \"a\"; x)", "a", "let x = 1")
        self.value("(set x = x + 1; x)", 2, "let x = 1")
        self.value("set x = set y = 7", 7, "let x = 1\nlet y = 2")
        self.variables("a", [("a", "x", 7), ("a", "y", 7)], a="let x = 1\nlet y = 2\ndo set x = set y = 7")
        self.variables("a", [("a", "x", 1), ("a", "y", 8)], a="let x = 1\nlet y = 2\ndo set y = (set y = 4) * 2")

    def test_sets_over_modules(self):
        self.variables("ba", [("b", "x", 5)], a="import x as y from b\ndo set y = y + 4", b="let x = 1")

    def test_names(self):
        self.value("x", 3, "let x = 3")
        self.value("x + y", "st", "let x = \"s\"\nlet y = \"t\"")
        self.value("x", 3, "import y as x from b", "ba", b="let x = 4\nlet y = 3")
        self.value("x", 3, "import w as x from b", "cba", b="let x = 4\nexport y as w from c",
                   c="let y = 3\nlet w = 5\nlet x = 6")


class Calls(Case):
    def test_calls(self):
        self.value("f()", 1, "fn f() = 1")
        self.value("f(4)", 8, "fn f(p) = p * 2")
        self.value("f(5, 2)", 3, "fn f(p, q) = p - q")
        self.value("f(5, 2)", -3, "fn f(q, p) = p - q")
        self.value("f(f(5, 2), f(1, 1))", 3, "fn f(p, q) = p - q")
        self.value("f(\"a\", 1)", "a", "fn f(p, q) = if q then p else q")

    def test_parameters_mean_the_arguments(self):
        self.value("f(2)", 2, "let x = 1\nfn f(x) = x")
        self.value("(f(2); x)", 1, "let x = 1\nfn f(x) = x")
        self.value("f(2)", 12, "fn f(p) = g(p + 1) * p + p\nfn g(p) = p + 2")
        self.value("f(3)", 3, "fn f(f) = f")
        self.value("f(1)", 3, "fn f(x) = x + g()\nfn g() = x\nlet x = 2")

    def test_arguments_are_evaluated_from_left_to_right_and_once(self):
        self.value("(f(set x = x * 2, set x = x + 1); x)", 7, "let x = 3\nfn f(p, q) = 1")
        self.value("f(set x = x + 1)", 8, "let x = 3\nfn f(p) = p + p")
        self.value("f(x, set x = 5, x)", 358, "let x = 3\nfn f(p, q, r) = p * 100 + q * 10 + r + 3")

    def test_arguments_are_evaluated_also_if_they_are_not_used(self):
        self.fault("f(99999 + 1)", ("large",), "fn f(p) = 1")
        self.fault("f(1, \"a\" - 1)", ("type",), "fn f(p, q) = p")

    def test_a_function_is_evaluated_in_its_module(self):
        self.value("f(1)", 11, "import f from b\nlet x = 20", "ba", b="let x = 10\nfn f(p) = p + x")
        self.value("g(1)", 122, "import f as g from b\nlet x = 20\nfn f(p) = 0", "cba",
                   b="let x = 10\nimport g from c\nfn f(p) = g(p) + x * 10", c="let x = 5\nfn g(p) = p + x + 16")

    def test_functions_set_variables(self):
        self.variables("ba", [("b", "x", 4)], a="import up from b\ndo (up(1); up(2))",
                       b="let x = 1\nfn up(p) = set x = x + p")

    def test_recursion(self):
        self.value("f(5)", 120, "fn f(p) = if p = 0 then 1 else p * f(p - 1)")
        self.value("even(7)", 0,
                   "fn even(p) = if p = 0 then 1 else odd(p - 1)\nfn odd(p) = if p = 0 then 0 else even(p - 1)")

    def test_functions_are_there_before_their_lines(self):
        self.variables("a", [("a", "x", 4)], a="let x = f(2)\nfn f(p) = p * 2")

    def test_in_rings_of_modules(self):
        texts = {"a": "import f from b\nfn g(p) = p + 1\nlet x = f(1)", "b": "import g from a\nfn f(p) = g(p) * 2"}
        self.variables("ba", [("a", "x", 4)], **texts)

    def test_the_8th_active_call(self):
        down = "fn f(p) = if p = 1 then 7 else f(p - 1)"
        self.value("f(8)", 7, down)
        self.fault("f(9)", ("deep",), down)
        self.fault("f(0)", ("deep",), "fn f(p) = f(p)")

    def test_different_functions_count_together(self):
        names = "bcdefghi"
        chain = [f"fn {name}() = {after}()" for name, after in zip(names, names[1:])]
        self.value("b()", 1, text_of(*chain, "fn i() = 1"))
        self.value("b() + b()", 2, text_of(*chain, "fn i() = 1"))
        self.fault("x()", ("deep",), text_of("fn x() = b()", *chain, "fn i() = 1"))

    def test_calls_over_modules_count_together(self):
        texts = {"b": "import f from a\nfn g(p) = f(p - 1)"}
        before = "import g from b\nfn f(p) = if p = 1 then 7 else g(p)"
        self.value("f(4)", 7, before, **texts)
        self.value("g(5)", 7, before, **texts)
        self.fault("f(5)", ("deep",), before, **texts)

    def test_calls_that_have_ended_are_not_active(self):
        self.value(" + ".join(["f()"] * 12), 12, "fn f() = 1")
        self.value("f(f(f(f(f(f(f(f(f(f(0))))))))))", 10, "fn f(p) = p + 1")

    def test_calls_that_have_ended_leave_no_more_room(self):
        down = "fn f(p) = if p = 1 then 7 else (g(1); f(p - 1))\nfn g(p) = p"
        self.value("g(1) + g(1) + f(8)", 9, down)
        self.fault("g(1) + g(1) + f(9)", ("deep",), down)
        self.fault("f(9)", ("deep",), down)
        self.fault("f(9)", ("deep",), down + "\ndo g(1)\ndo g(g(1))")

    def test_a_call_is_not_active_while_its_arguments_are_evaluated(self):
        down = "fn f(p) = if p = 1 then 7 else f(p - 1)\nfn g(p) = p"
        self.value("g(f(8))", 7, down)
        self.value("g(g(f(8)))", 7, down)
        self.fault("g(f(9))", ("deep",), down)

    def test_depth_is_looked_at_when_the_arguments_are_evaluated(self):
        down = "fn f(p) = if p = 1 then g({}) else f(p - 1)\nfn g(p) = p\nlet x = 1"
        self.fault("f(8)", ("deep",), down.format("1"))
        self.fault("f(8)", ("large",), down.format("99999 + 1"))
        self.fault("f(8)", ("type",), down.format("\"a\" - 1"))

    def test_depth_comes_before_the_tree_of_the_function(self):
        self.fault("f(8)", ("deep",), "fn f(p) = if p = 1 then g() else f(p - 1)\nfn g() = 99999 + 1")

    def test_lines_begin_without_active_calls(self):
        down = "fn f(p) = if p = 1 then 7 else f(p - 1)"
        self.variables("a", [("a", "x", 7), ("a", "y", 7)], a=text_of(down, "let x = f(8)", "do f(8)", "let y = f(8)"))


def balanced(many):
    """A sum of so many ones that takes twice as many steps less one."""
    half = many // 2
    return "1" if many == 1 else f"({balanced(many - half)}+{balanced(half)})"


def filling(many):
    """Lines that take so many steps together, at least one."""
    if many % 2:
        return ["do " + balanced((many + 1) // 2)]
    return ["do 1", "do " + balanced(many // 2)]


class Steps(Case):
    def run_after(self, many, *rows):
        """What running these lines gives, of which those before the last one take so many steps more by filling."""
        text = text_of(*rows[:-1], *filling(many), rows[-1])
        return run_body(modules_of(a=text), "a", Memory())

    def check(self, row, taken, *before):
        """The line takes so many steps, and the lines before it take one each."""
        rest = STEPS_MOST - taken - len([line for line in before if not line.startswith("fn")])
        with self.subTest(row):
            self.assertEqual(self.run_after(rest, *before, row)[0], "done")
            self.assertEqual(self.run_after(rest + 1, *before, row), ("fault", ("steps",)))

    def test_filling(self):
        for many in range(1, STEPS_MOST + 1):
            self.assertEqual(run_body(modules_of(a=text_of(*filling(many))), "a", Memory())[0], "done")
        self.assertEqual(run_body(modules_of(a=text_of(*filling(201))), "a", Memory()), ("fault", ("steps",)))
        self.assertEqual(run_body(modules_of(a=text_of(*filling(202))), "a", Memory()), ("fault", ("steps",)))

    def test_values_and_names(self):
        self.check("do 1", 1)
        self.check("do \"a\"", 1)
        self.check("do ((1))", 1)
        self.check("do x", 1, "let x = 1")

    def test_signs(self):
        for sign in "+-*<=":
            self.check(f"do 1 {sign} 2", 3)
        self.check("do 1 + 2 * 3", 5)
        self.check("do (1 + 2) * (3 - 4)", 7)

    def test_ifs(self):
        self.check("do if 1 then 2 else 3 + 4", 3)
        self.check("do if 0 then 2 else 3 + 4", 5)
        self.check("do if 1 = 1 then 2 * 2 else 3", 7)

    def test_sequences(self):
        self.check("do (1; 2)", 3)
        self.check("do (1; 2; 3)", 5)
        self.check("do ((1; 2); 3)", 5)
        self.check("do (1; 2; 3; 4)", 7)

    def test_sets(self):
        self.check("do set x = 2", 2, "let x = 1")
        self.check("do set x = set x = x + 1", 5, "let x = 1")

    def test_calls(self):
        self.check("do f()", 2, "fn f() = 1")
        self.check("do f(1)", 3, "fn f(p) = p")
        self.check("do f(1, 2)", 6, "fn f(p, q) = p + q")
        self.check("do f(f(1))", 9, "fn f(p) = p * 2")
        # The call, its argument, the if, and its test and third part; for each further call 5 steps more.
        self.check("do f(0)", 5, "fn f(p) = if p then f(p - 1) else 1")
        self.check("do f(2)", 17, "fn f(p) = if p then f(p - 1) else 1")

    def test_each_kind_of_line(self):
        for row in ("let x = {}", "keep x = {}", "do {}", "hold {}"):
            self.check(row.replace("{}", "\"a\""), 1)
            self.check(row.replace("{}", "\"a\" + \"b\""), 3)
        self.check("let y = x + x", 3, "let x = 1", "keep k = 2", "hold \"h\"", "do 3")

    def test_lines_that_are_not_run(self):
        lines = text_of("fn f() = 1 + 1", "export y from b", "import x from b", "", *filling(200))
        self.assertEqual(run_body(modules_of(a=lines, b="let x = 1\nlet y = 1"), "a", Memory())[0], "done")

    def test_each_body_has_its_own_steps(self):
        modules = modules_of(a=text_of("let x = 1", *filling(199)), b=text_of("import x from a", "do x", *filling(199)))
        memory = Memory()
        self.assertEqual([run_body(modules, module, memory)[0] for module in "aba"], ["done"] * 3)

    def test_a_step_is_looked_at_when_its_evaluation_begins(self):
        # In each case the last fault would come one step later or at the end.
        self.assertEqual(self.run_after(200, "do 1 - \"a\"")[1], ("steps",))
        self.assertEqual(self.run_after(199, "do 1 - \"a\"")[1], ("steps",))
        self.assertEqual(self.run_after(198, "do 1 - \"a\"")[1], ("steps",))
        self.assertEqual(self.run_after(197, "do 1 - \"a\"")[1], ("type",))
        self.assertEqual(self.run_after(198, "do if \"a\" then 1 else 2")[1], ("type",))
        self.assertEqual(self.run_after(198, "do if 1 then 1 else 2")[1], ("steps",))
        self.assertEqual(self.run_after(197, "fn f(p) = f(p)", "do f(1)")[1], ("steps",))
        self.assertEqual(self.run_after(200, "hold 1")[1], ("steps",))
        self.assertEqual(self.run_after(199, "hold 1")[1], ("type",))

    def test_names_that_cannot_be_read_are_steps_too(self):
        text = text_of(*filling(200), "do x", "let x = 1")
        self.assertEqual(run_body(modules_of(a=text), "a", Memory()), ("fault", ("steps",)))
        text = text_of(*filling(199), "do x", "let x = 1")
        self.assertEqual(run_body(modules_of(a=text), "a", Memory()), ("fault", ("early", "a", "x")))
        text = text_of(*filling(199), "do set x = 1", "let x = 1")
        self.assertEqual(run_body(modules_of(a=text), "a", Memory()), ("fault", ("steps",)))
        text = text_of(*filling(198), "do set x = 1", "let x = 1")
        self.assertEqual(run_body(modules_of(a=text), "a", Memory()), ("fault", ("early", "a", "x")))

    def test_depth_and_steps(self):
        # The 9th call is the 17th step, and its argument the 18th.
        nine = "fn f(p) = f(1)"
        for many, words in ((200 - 16, ("steps",)), (200 - 17, ("steps",)), (200 - 18, ("deep",)), (1, ("deep",))):
            self.assertEqual(self.run_after(many, nine, "do f(1)")[1], words)


class Variables(Case):
    def test_read_or_set_before_the_let_line(self):
        self.fault("x", ("early", "b", "x"), "import x from b", b="let x = 1")
        for use in ("x", "set x = 1", "1 + x", "f()", "g()"):
            text = text_of(f"do {use}", "let x = 1", "fn f() = x", "fn g() = set x = 1")
            self.assertEqual(run_body(modules_of(a=text), "a", Memory()), ("fault", ("early", "a", "x")))

    def test_in_the_let_line_itself(self):
        for use in ("x", "set x = 1", "x + 1"):
            self.assertEqual(run_body(modules_of(a=f"let x = {use}"), "a", Memory()), ("fault", ("early", "a", "x")))

    def test_behind_the_let_line(self):
        self.variables("a", [("a", "x", 2), ("a", "y", 1)], a="let x = 1\nlet y = x\ndo set x = 2")

    def test_early_names_the_binding(self):
        self.fault("y", ("early", "c", "x"), "import w as y from b", b="export x as w from c", c="let x = 1")
        self.fault("set y = 1", ("early", "c", "x"), "import w as y from b", b="export x as w from c", c="let x = 1")
        self.fault("f()", ("early", "b", "x"), "import f from b", b="let x = 1\nfn f() = x")

    def test_in_rings_of_modules(self):
        texts = {"a": "import y from b\nlet x = y", "b": "import x from a\nlet y = x"}
        found, _ = self.run_in("b", texts)
        self.assertEqual(found, ("fault", ("early", "a", "x")))

    def test_a_part_that_is_not_evaluated_is_not_early(self):
        self.variables("a", [("a", "x", 1)], a="do if 0 then x else 1\nlet x = 1")

    def test_the_tree_of_a_set_is_evaluated_before(self):
        for tree, words in (("99999 + 1", ("large",)), ("1 - \"a\"", ("type",)), ("y", ("early", "a", "y")),
                            ("k", ("kept", "a", "k"))):
            for name in "xj":
                text = text_of(f"do set {name} = {tree}", "let x = 1", "let y = 1", "keep k = 1", "keep j = 1")
                self.assertEqual(run_body(modules_of(a=text), "a", Memory()), ("fault", words))

    def test_kept_variables_in_a_body(self):
        for use in ("k", "set k = 1", "f()", "g()", "1 + k"):
            self.fault(use, ("kept", "a", "k"), "keep k = 1\nfn f() = k\nfn g() = set k = 1")
            text = text_of(f"do {use}", "keep k = 1\nfn f() = k\nfn g() = set k = 1")
            self.assertEqual(run_body(modules_of(a=text), "a", Memory()), ("fault", ("kept", "a", "k")))

    def test_kept_variables_name_the_binding(self):
        self.fault("y", ("kept", "c", "k"), "import w as y from b", "cba", b="export k as w from c", c="keep k = 1")
        self.fault("set y = 1", ("kept", "c", "k"), "import w as y from b", "cba", b="export k as w from c",
                   c="keep k = 1")
        self.fault("f()", ("kept", "b", "k"), "import f from b\nlet k = 1", "ba", b="fn f() = k\nkeep k = 1")

    def test_in_the_keep_line_itself(self):
        for use in ("k", "set k = 1", "k + 1"):
            self.assertEqual(run_body(modules_of(a=f"keep k = {use}"), "a", Memory()), ("fault", ("kept", "a", "k")))

    def test_the_memory_gets_nothing_by_keep(self):
        found, memory = self.run_in("a", {"a": "let x = 2\nkeep k = x + 1\nkeep j = set x = 5"})
        self.assertEqual(found[0], "done")
        self.assertEqual(memory.variables(), [("a", "x", 5)])
        self.assertIsNone(memory.value(("a", "k")))

    def test_what_is_looked_at_first_in_a_sum(self):
        self.fault("x + k", ("early", "b", "x"), "import x from b\nkeep k = 1", b="let x = 1")
        self.fault("k + x", ("kept", "a", "k"), "import x from b\nkeep k = 1", b="let x = 1")


class Holding(Case):
    def test_strings(self):
        self.held("a", [("a", "s"), ("a", "ab"), ("a", "")], a="hold \"s\"\nhold \"a\" + \"b\"\nhold \"\"")

    def test_over_modules(self):
        self.held("ba", [("b", "s"), ("b", "t"), ("a", "u")], a="import x from b\nhold x",
                  b="let x = \"u\"\nhold \"s\"\nhold \"t\"")

    def test_only_strings(self):
        for tree in ("1", "0", "1 + 1", "\"a\" = \"a\""):
            found, _ = self.run_in("a", {"a": f"hold {tree}"})
            self.assertEqual(found, ("fault", ("type",)))

    def test_faults_of_the_tree_come_first(self):
        for tree, words in (("99999 + 1", ("large",)), ("\"a\" - 1", ("type",)), ("x", ("early", "a", "x"))):
            found, _ = self.run_in("a", {"a": f"hold \"a\"\nhold {tree}\nlet x = 1"})
            self.assertEqual(found, ("fault", words))

    def test_a_string_that_is_held_already(self):
        found, _ = self.run_in("a", {"a": "hold \"s\"\nhold \"t\"\nhold \"s\""})
        self.assertEqual(found, ("fault", ("held", "s")))
        found, _ = self.run_in("ba", {"a": "hold \"t\"\nhold \"s\"", "b": "hold \"s\""})
        self.assertEqual(found, ("fault", ("held", "s")))
        found, _ = self.run_in("a", {"a": "hold \"\"\nhold \"\""})
        self.assertEqual(found, ("fault", ("held", "")))

    def test_what_the_memory_holds_at_first(self):
        modules = modules_of(a="hold \"s\"")
        self.assertEqual(run_body(modules, "a", filled(held=[("z", "s")])), ("fault", ("held", "s")))
        memory = filled(held=[("z", "t")])
        self.assertEqual(run_body(modules, "a", memory), ("done", (("hold", "s"),)))
        self.assertEqual(memory.held(), [("z", "t"), ("a", "s")])

    def test_a_function_of_another_module(self):
        self.held("ba", [("a", "bs")], a="import f from b\nhold f(\"s\")", b="fn f(p) = \"b\" + p")


class Bodies(Case):
    def test_line_by_line(self):
        self.variables("a", [("a", "x", 3), ("a", "y", 1), ("a", "z", 2)],
                       a="let x = 1\nlet y = x\ndo set x = 2\nlet z = x\nkeep k = set x = x + 1")

    def test_a_body_stops_at_its_first_fault(self):
        found, _ = self.run_in("a", {"a": "let x = 1\ndo 1 - \"a\"\ndo 99999 + 1\nhold 1"})
        self.assertEqual(found, ("fault", ("type",)))

    def test_modules_without_a_body(self):
        for text in ("", "fn f() = 1", "import x from b\nexport x from b"):
            found, memory = self.run_in("a", {"a": text, "b": "let x = 1"})
            self.assertEqual(found, ("done", ()))
            self.assertEqual((memory.variables(), memory.held()), ([], []))

    def test_only_the_body_of_the_module_is_run(self):
        self.variables("a", [("a", "x", 1)], a="import y from b\nlet x = 1", b="let y = 2\nhold \"b\"")

    def test_the_memory_that_there_is(self):
        modules = modules_of(a="import y from b\nlet x = y\ndo set y = 9", b="let y = 1")
        memory = filled([("b", "y", 7), ("c", "z", "s")])
        self.assertEqual(run_body(modules, "a", memory)[0], "done")
        self.assertEqual(memory.variables(), [("a", "x", 7), ("b", "y", 9), ("c", "z", "s")])

    def test_modules_are_not_modified(self):
        texts = {"a": "import f from b\nlet x = f(2)\nhold \"s\"", "b": "fn f(p) = p"}
        modules = modules_of(**texts)
        run_body(modules, "a", Memory())
        self.assertEqual(modules, modules_of(**texts))


class Several(Case):
    def test_the_same_fault_at_every_place(self):
        """Of two faults in an expression that one comes first whose part is evaluated first."""
        faults = {"99999 + 1": ("large",), "1 - \"a\"": ("type",), "x": ("early", "a", "x"), "k": ("kept", "a", "k"),
                  "\"abcdefghijklmnopqrst\" + \"u\"": ("long",), "f(1)": ("deep",), "if \"\" then 1 else 1": ("type",)}
        for first, second in itertools.permutations(faults, 2):
            for text in ("({}) + ({})", "({}) = ({})", "({}; {})", "(1; {}; {})", "g({}, {})", "if {} then {} else 1",
                         "set y = ({}) * ({})", "g(({}) < ({}), 1)"):
                whole = text.replace("{}", first, 1).replace("{}", second, 1)
                rows = ("let y = 1", f"do {whole}", "let x = 1", "keep k = 1", "fn f(p) = f(p)", "fn g(p, q) = 1")
                with self.subTest(whole):
                    found = run_body(modules_of(a=text_of(*rows)), "a", Memory())
                    self.assertEqual(found, ("fault", faults[first]))


if __name__ == "__main__":
    unittest.main()
