import unittest

from reading import error_of, loader_of, text_of, told

from sameasnew.loader import Loader


class Case(unittest.TestCase):
    def value(self, one, call, value):
        with self.subTest(call):
            found = one.call(*call)
            self.assertEqual(found, ("value", value))
            self.assertIs(type(found[1]), type(value))

    def fault(self, one, call, fault):
        """The call has this fault, and nothing changes."""
        with self.subTest(call):
            before = told(one)
            self.assertEqual(one.call(*call), ("fault", fault))
            self.assertEqual(told(one), before)

    def evaluated(self, text, value, *lines):
        """A function with this tree has this value in a call from outside, in a module with these other lines."""
        one = loader_of("a", a=text_of(f"fn f() = {text}", *lines))
        self.value(one, ("a", "f", ()), value)
        return one

    def stopped(self, text, words, *lines):
        one = loader_of("a", a=text_of(f"fn f() = {text}", *lines))
        self.fault(one, ("a", "f", ()), ("run", "", words))


class Before(Case):
    def test_before_the_first_update(self):
        one = Loader(("a",))
        self.fault(one, ("a", "f", ()), ("module", "a"))
        self.fault(one, ("b", "f", (1, 2, 3)), ("module", "b"))

    def test_after_a_rejected_update(self):
        one = Loader(("a",))
        one.update((("a", "let x = 1\ndo x - \"a\""),))
        self.fault(one, ("a", "x", ()), ("module", "a"))


class Functions(Case):
    def test_own_names(self):
        one = loader_of("a", a="fn none() = \"n\"\nfn one(p) = p\nfn two(p, q) = p - q\nfn three(p, q, r) = p + q + r")
        self.value(one, ("a", "none", ()), "n")
        self.value(one, ("a", "one", (-99999,)), -99999)
        self.value(one, ("a", "one", ("x" * 20,)), "x" * 20)
        self.value(one, ("a", "one", ("",)), "")
        self.value(one, ("a", "two", (5, 3)), 2)
        self.value(one, ("a", "two", (3, 5)), -2)
        self.value(one, ("a", "three", ("a", "b", "c")), "abc")

    def test_exported_names(self):
        one = loader_of("a", a="export f as g, h from b\nlet x = 1", b="fn f(p) = p + x\nlet x = 10\nexport h from c",
                        c="fn h() = x\nlet x = 20")
        self.value(one, ("a", "g", (1,)), 11)
        self.value(one, ("a", "h", ()), 20)
        self.value(one, ("b", "f", (1,)), 11)
        self.value(one, ("b", "h", ()), 20)
        self.value(one, ("c", "h", ()), 20)

    def test_what_is_available_only_is_not_exported(self):
        one = loader_of("a", a="import f, x as y from b\nlet z = f() + y", b="fn f() = 1\nlet x = 1")
        for name in ("f", "x", "y"):
            self.fault(one, ("a", name, ()), ("name", "a", name))

    def test_a_function_is_evaluated_in_its_module(self):
        one = loader_of("a", a="export f from b\nlet x = 1\nfn g() = 2",
                        b="import y as x, g from c\nfn f(p) = x + g() + p", c="let y = 10\nfn g() = 7")
        self.value(one, ("a", "f", (100,)), 117)

    def test_parameters_mean_the_arguments(self):
        one = loader_of("a", a="let x = 1\nkeep k = 2\nfn f(x, k) = x - k")
        self.value(one, ("a", "f", (7, 3)), 4)

    def test_functions_read_variables_of_both_kinds(self):
        one = loader_of("a", a="import y, m from b\nlet x = 1\nkeep k = 10\nfn f() = x + k + y + m",
                        b="let y = 100\nkeep m = 1000")
        self.value(one, ("a", "f", ()), 1111)

    def test_in_modules_that_no_entry_names(self):
        one = loader_of("a", a="import x from b", b="let x = 1\nfn f() = x")
        self.value(one, ("b", "f", ()), 1)

    def test_after_an_update(self):
        one = loader_of("a", a="fn f() = 1\nexport g from b", b="fn g() = 2")
        one.update((("a", "fn f() = 3\nexport g from c"), ("c", "fn g() = 4")))
        self.value(one, ("a", "f", ()), 3)
        self.value(one, ("a", "g", ()), 4)
        self.fault(one, ("b", "g", ()), ("module", "b"))


class Variables(Case):
    def test_own_names(self):
        one = loader_of("a", a="let x = 0 - 5\nlet y = \"s\"\nkeep k = 7\nkeep m = \"\"")
        self.value(one, ("a", "x", ()), -5)
        self.value(one, ("a", "y", ()), "s")
        self.value(one, ("a", "k", ()), 7)
        self.value(one, ("a", "m", ()), "")

    def test_exported_names(self):
        one = loader_of("a", a="export x as y, k from b", b="let x = 1\nkeep k = 2\nlet y = 3")
        self.value(one, ("a", "y", ()), 1)
        self.value(one, ("a", "k", ()), 2)
        self.fault(one, ("a", "x", ()), ("name", "a", "x"))

    def test_values_that_bodies_have_set(self):
        one = loader_of("a", a="import x from b\ndo set x = 5", b="let x = 1")
        self.value(one, ("b", "x", ()), 5)


class Kept(Case):
    def test_what_a_call_sets_is_there_in_the_next_one(self):
        one = loader_of("a", a="keep k = 1\nfn up(p) = set k = k + p\nfn get() = k")
        self.value(one, ("a", "up", (2,)), 3)
        self.value(one, ("a", "up", (2,)), 5)
        self.value(one, ("a", "get", ()), 5)
        self.value(one, ("a", "k", ()), 5)
        self.assertEqual(one.program()[3], (("a", "k", 5),))

    def test_of_other_modules(self):
        one = loader_of("a", a="import k as m from b\nfn up(p) = set m = m + p\nkeep k = 100",
                        b="keep k = 1\nlet m = 2")
        self.value(one, ("a", "up", (2,)), 3)
        self.value(one, ("b", "k", ()), 3)
        self.value(one, ("a", "k", ()), 100)

    def test_the_other_kind_of_value(self):
        one = loader_of("a", a="keep k = 1\nfn to(p) = set k = p")
        self.value(one, ("a", "to", ("s",)), "s")
        self.value(one, ("a", "k", ()), "s")
        self.value(one, ("a", "to", (0,)), 0)
        self.value(one, ("a", "k", ()), 0)

    def test_within_a_call(self):
        self.evaluated("(set k = k * 2; set k = k + 1; k)", 7, "keep k = 3")
        self.evaluated("k + (set k = 5) + k", 13, "keep k = 3")
        self.evaluated("(g(set k = 5, k); k)", 10, "keep k = 3", "fn g(p, q) = set k = p + q")
        self.evaluated("set k = set m = 4", 4, "keep k = 3", "keep m = 2")

    def test_the_order_of_kept_variables_remains(self):
        one = self.evaluated("(set m = 4; set k = 5)", 5, "keep k = 1", "keep m = 2")
        self.assertEqual(one.program()[3], (("a", "k", 5), ("a", "m", 4)))

    def test_behind_a_fault_none_has_changed(self):
        one = loader_of("a", a="keep k = 1\nkeep m = 2\nfn f(p) = (set k = 5; set m = p; k + m)\nfn g() = k * 10 + m")
        self.fault(one, ("a", "f", ("s",)), ("run", "", ("type",)))
        self.value(one, ("a", "g", ()), 12)
        self.value(one, ("a", "f", (4,)), 9)
        self.fault(one, ("a", "f", ("t",)), ("run", "", ("type",)))
        self.value(one, ("a", "g", ()), 54)

    def test_calls_change_nothing_else(self):
        one = loader_of("a", a="keep k = 1\nlet x = 1\nhold \"s\"\nfn f() = (x; set k = 5)")
        before = one.program()
        things, ran = one.things(), one.ran()
        one.call("a", "f", ())
        self.assertEqual(one.program(), before[:3] + ((("a", "k", 5),),) + before[4:])
        self.assertEqual((one.version(), one.things(), one.ran()), (1, things, ran))


class BeforeAnythingIsRun(Case):
    TEXTS = {"a": "import x from b\nfn f() = 1\nfn g(p, q) = 1\nlet y = 1\nkeep k = 1\nexport h as i from b",
             "b": "let x = 1\nfn h(p) = 1", "c": "fn f() = 1\nlet x = 1"}

    def test_modules_that_were_not_reached(self):
        one = loader_of("a", **self.TEXTS)
        for module in ("c", "d", "ab"):
            self.fault(one, (module, "f", ()), ("module", module))
            self.fault(one, (module, "q", (1, 2, 3)), ("module", module))

    def test_names_that_are_not_exported(self):
        one = loader_of("a", **self.TEXTS)
        for name in ("x", "h", "q", "p"):
            self.fault(one, ("a", name, ()), ("name", "a", name))
            self.fault(one, ("a", name, (1, 2, 3)), ("name", "a", name))
        self.fault(one, ("b", "i", (1,)), ("name", "b", "i"))

    def test_numbers_of_arguments(self):
        one = loader_of("a", **self.TEXTS)
        for name, many in (("f", 0), ("g", 2), ("i", 1), ("y", 0), ("k", 0)):
            for other in range(4):
                if other != many:
                    self.fault(one, ("a", name, (1,) * other), ("count", "a", name))
                else:
                    self.value(one, ("a", name, (1,) * other), 1)

    def test_exports_of_modules_that_are_gone(self):
        one = loader_of("a", a="export x from b\nexport y from c", b="let x = 1", c="let y = 1")
        self.value(one, ("a", "y", ()), 1)
        one.update((("a", "export x from b"),))
        self.fault(one, ("a", "y", ()), ("name", "a", "y"))
        self.fault(one, ("c", "y", ()), ("module", "c"))

    def test_faults_of_running_come_behind(self):
        one = loader_of("a", a="fn f(p) = 1 - \"a\"")
        self.fault(one, ("a", "f", ()), ("count", "a", "f"))
        self.fault(one, ("a", "f", (1,)), ("run", "", ("type",)))


class Faults(Case):
    def test_types(self):
        for text in ("1 + \"a\"", "\"a\" - \"b\"", "1 < \"a\"", "if \"a\" then 1 else 2", "k + 1"):
            self.stopped(text, ("type",), "keep k = \"s\"")

    def test_large_and_long(self):
        self.stopped("99999 + 1", ("large",))
        self.stopped("0 - k - k", ("large",), "keep k = 50000")
        self.stopped("\"" + "x" * 20 + "\" + \"y\"", ("long",))
        one = loader_of("a", a="fn f(p) = p + p")
        self.fault(one, ("a", "f", (50000,)), ("run", "", ("large",)))
        self.fault(one, ("a", "f", ("x" * 11,)), ("run", "", ("long",)))
        self.value(one, ("a", "f", ("x" * 10,)), "x" * 20)

    def test_plain(self):
        self.stopped("set x = 1", ("plain", "a", "x"), "let x = 1")
        self.stopped("(set k = 2; set x = 1)", ("plain", "a", "x"), "let x = 1", "keep k = 1")
        self.stopped("g()", ("plain", "a", "x"), "let x = 1", "fn g() = set x = 2")
        one = loader_of("a", a="import x as y from b\nfn f() = set y = 2", b="let x = 1")
        self.fault(one, ("a", "f", ()), ("run", "", ("plain", "b", "x")))

    def test_plain_comes_behind_the_tree(self):
        self.stopped("set x = 99999 + 1", ("large",), "let x = 1")
        self.stopped("set x = set y = 1", ("plain", "a", "y"), "let x = 1", "let y = 1")
        self.evaluated("if 1 then 2 else set x = 1", 2, "let x = 1")

    def test_kept_is_no_fault(self):
        self.evaluated("k", 3, "keep k = 3")
        self.evaluated("set k = 4", 4, "keep k = 3")

    def test_plain_variables_never_change(self):
        one = loader_of("a", a="let x = 1\nfn f() = set x = 2\nfn get() = x\nkeep k = 1")
        self.fault(one, ("a", "f", ()), ("run", "", ("plain", "a", "x")))
        self.value(one, ("a", "get", ()), 1)
        self.value(one, ("a", "x", ()), 1)

    def test_200_and_201_steps(self):
        # Nine calls of g have 20 steps each, the signs 9, and the call of r itself has one.
        tree = " + ".join(["g()"] * 9 + ["r()"])
        rows = ("fn g() = (1; 1; 1; 1; 1; 1; 1; 1; 1; 1)", "keep k = 1")
        self.evaluated(tree, 10, *rows, "fn r() = (set k = 1; 1; 1; 1; 1)")
        self.stopped(tree, ("steps",), *rows, "fn r() = 1 + 1 + 1 + 1 + 1 + 1")

    def test_each_call_has_its_own_steps(self):
        one = loader_of("a", a="fn f() = g() + g() + g() + g() + g()\nfn g() = (1; 1; 1; 1; 1; 1; 1; 1; 1; 1)\ndo f()")
        for _ in range(3):
            self.value(one, ("a", "f", ()), 5)

    def test_deep(self):
        one = loader_of("a", a="fn f(p) = if p = 1 then 1 else f(p - 1)\nfn g(p) = f(p)")
        self.value(one, ("a", "f", (8,)), 1)
        self.fault(one, ("a", "f", (9,)), ("run", "", ("deep",)))
        self.value(one, ("a", "g", (7,)), 1)
        self.fault(one, ("a", "g", (8,)), ("run", "", ("deep",)))
        # It is looked at when the arguments are evaluated.
        one = loader_of("a", a="fn f(p) = if p < 8 then f(p + 1) else f(99999 + p)")
        self.fault(one, ("a", "f", (1,)), ("run", "", ("large",)))

    def test_calls_that_are_over_are_not_active(self):
        self.evaluated("g() + g() + g() + g() + g() + g() + g() + g() + g()", 9, "fn g() = 1")


class Refused(Case):
    def refused(self, *call):
        with self.subTest(call):
            one = loader_of("a", a="fn f(p) = 1\nkeep k = 1")
            before = told(one)
            self.assertEqual(error_of(one.call, *call), "arguments")
            self.assertEqual(told(one), before)

    def test_three_and_four_arguments(self):
        one = loader_of("a", a="fn f(p, q, r) = p + q + r")
        self.value(one, ("a", "f", (1, 2, 3)), 6)
        self.refused("a", "f", (1, 2, 3, 4))
        self.refused("a", "k", ("",) * 4)

    def test_what_is_no_value(self):
        for value in (100000, -100000, "x" * 21, "\"", "a\"b"):
            self.refused("a", "f", (value,))
            self.refused("a", "f", (1, "a", value))

    def test_before_all_faults(self):
        self.refused("z", "f", (100000,))
        self.refused("a", "z", (100000,))
        self.refused("a", "f", (1, 2, 100000))
        self.assertEqual(error_of(Loader(("a",)).call, "a", "f", (1, 2, 3, 4)), "arguments")


if __name__ == "__main__":
    unittest.main()
