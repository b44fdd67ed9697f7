import inspect
import itertools
import unittest

from reading import modules_of, text_of

from sameasnew import resolving
from sameasnew.resolving import available, check_names, declaration, follow, reach


class Interface(unittest.TestCase):
    def test_arguments(self):
        for function, names in (
            (follow, ["modules", "module", "name"]),
            (available, ["modules", "module", "name"]),
            (declaration, ["modules", "binding"]),
            (reach, ["modules", "entries"]),
            (check_names, ["modules", "order"]),
        ):
            with self.subTest(function.__name__):
                self.assertEqual(list(inspect.signature(function).parameters), names)
                self.assertEqual(function.__module__, resolving.__name__)


class Follow(unittest.TestCase):
    def check(self, modules, module, name, binding):
        with self.subTest((module, name)):
            self.assertEqual(follow(modules, module, name), binding)

    def test_own_names(self):
        modules = modules_of(a="let x = 1\nkeep y = 2\nfn z(p) = p")
        for name in "xyz":
            self.check(modules, "a", name, ("a", name))

    def test_what_is_not_exported(self):
        modules = modules_of(a="import x from b\nfn f(p) = p\ndo 1", b="let x = 1")
        for name in ("x", "p", "a", "b", "let"):
            self.check(modules, "a", name, None)

    def test_modules_that_there_are_not(self):
        modules = modules_of(a="export x from c")
        self.check(modules, "b", "x", None)
        self.check(modules, "a", "x", None)
        self.check({}, "a", "x", None)

    def test_over_one_module(self):
        modules = modules_of(a="export x, y as z from b", b="let x = 1\nfn y() = 1")
        self.check(modules, "a", "x", ("b", "x"))
        self.check(modules, "a", "z", ("b", "y"))
        self.check(modules, "a", "y", None)

    def test_over_several_modules(self):
        modules = modules_of(a="export x as w from b", b="export y as x from c", c="let w = 2\nexport z as y from d",
                             d="keep z = 1")
        self.check(modules, "a", "w", ("d", "z"))
        self.check(modules, "b", "x", ("d", "z"))
        self.check(modules, "c", "y", ("d", "z"))
        self.check(modules, "c", "w", ("c", "w"))

    def test_back_into_the_same_module(self):
        modules = modules_of(a="export x as y from b\nlet x = 1", b="export x from a")
        self.check(modules, "a", "y", ("a", "x"))
        self.check(modules_of(a="export x as y, y as z from a\nlet x = 1"), "a", "z", ("a", "x"))

    def test_not_over_imports(self):
        modules = modules_of(a="export x from b", b="import x from c", c="let x = 1")
        self.check(modules, "a", "x", None)

    def test_to_names_that_are_not_exported(self):
        modules = modules_of(a="export x from b\nexport y from c", b="export x as y from d", c="let x = 1",
                             d="let x = 1")
        self.check(modules, "a", "x", None)
        self.check(modules, "a", "y", None)

    def test_rings(self):
        self.check(modules_of(a="export x from a"), "a", "x", None)
        modules = modules_of(a="export x from b", b="export x from c", c="export x from a", d="export x as y from b")
        for module, name in (("a", "x"), ("b", "x"), ("c", "x"), ("d", "y")):
            self.check(modules, module, name, None)

    def test_rings_under_other_names(self):
        modules = modules_of(a="export x as y, y as x from b", b="export x, y from a")
        for module, name in itertools.product("ab", "xy"):
            self.check(modules, module, name, None)

    def test_modules_in_a_ring_whose_names_are_not(self):
        modules = modules_of(a="export x as y from b\nlet x = 1", b="export x as z from a\nlet x = 2\nexport y from a")
        self.check(modules, "a", "y", ("b", "x"))
        self.check(modules, "b", "z", ("a", "x"))
        self.check(modules, "b", "y", ("b", "x"))

    def test_through_a_module_twice(self):
        modules = modules_of(a="export u as t from b\nexport w as v from b", b="export v as u from a\nlet w = 1")
        self.check(modules, "a", "t", ("b", "w"))

    def test_many_names_of_a_line(self):
        modules = modules_of(a="export x as u, y as x, z as w from b", b="let x = 1\nlet y = 1\nlet z = 1")
        for name, there in (("u", "x"), ("x", "y"), ("w", "z")):
            self.check(modules, "a", name, ("b", there))


class Available(unittest.TestCase):
    def check(self, modules, module, name, binding):
        with self.subTest((module, name)):
            self.assertEqual(available(modules, module, name), binding)

    def test_own_names(self):
        modules = modules_of(a="let x = 1\nkeep y = 2\nfn z(p) = p")
        for name in "xyz":
            self.check(modules, "a", name, ("a", name))

    def test_imported_names(self):
        modules = modules_of(a="import x, y as z from b", b="keep x = 1\nfn y() = 1")
        self.check(modules, "a", "x", ("b", "x"))
        self.check(modules, "a", "z", ("b", "y"))
        self.check(modules, "a", "y", None)

    def test_imported_names_are_followed(self):
        modules = modules_of(a="import x as w from b", b="export y as x from c", c="export z as y from d",
                             d="let z = 1")
        self.check(modules, "a", "w", ("d", "z"))

    def test_imported_names_that_lead_nowhere(self):
        modules = modules_of(
            a="import x, y, z from b\nimport u from e\nimport r from c",
            b="export x from b\nexport y from e\nimport z from c", c="let z = 1\nexport r as s, s as r from c")
        for name in "xyzur":
            self.check(modules, "a", name, None)

    def test_exported_names_are_not_available(self):
        modules = modules_of(a="export x, y as z from b", b="let x = 1\nlet y = 1")
        for name in "xyz":
            self.check(modules, "a", name, None)

    def test_a_name_may_be_imported_and_exported(self):
        modules = modules_of(a="import x from b\nexport x from c", b="let x = 1", c="let x = 1")
        self.check(modules, "a", "x", ("b", "x"))
        self.assertEqual(follow(modules, "a", "x"), ("c", "x"))

    def test_from_the_module_itself(self):
        modules = modules_of(a="import x as y from a\nlet x = 1\nimport z from a")
        self.check(modules, "a", "y", ("a", "x"))
        self.check(modules, "a", "z", None)

    def test_in_rings_of_modules(self):
        modules = modules_of(a="import y from b\nlet x = 1", b="import x from a\nlet y = 1")
        self.check(modules, "a", "y", ("b", "y"))
        self.check(modules, "b", "x", ("a", "x"))

    def test_modules_and_names_that_there_are_not(self):
        modules = modules_of(a="import x from b\nfn f(p) = p")
        for module, name in (("a", "x"), ("a", "p"), ("a", "a"), ("a", "b"), ("a", "w"), ("b", "x"), ("c", "x")):
            self.check(modules, module, name, None)


class Declaration(unittest.TestCase):
    def test_each_kind(self):
        modules = modules_of(a="do 1\nlet x = 1\nimport v from b\nkeep y = 2\nexport w from b\nfn z(p) = p",
                             b="let x = 3")
        self.assertEqual(declaration(modules, ("a", "x")), ("let", "x", ("number", 1)))
        self.assertEqual(declaration(modules, ("a", "y")), ("keep", "y", ("number", 2)))
        self.assertEqual(declaration(modules, ("a", "z")), ("fn", "z", ("p",), ("name", "p")))
        self.assertEqual(declaration(modules, ("b", "x")), ("let", "x", ("number", 3)))

    def test_a_function_with_the_name_of_its_parameter(self):
        modules = modules_of(a="fn f(g) = g\nfn g(f) = f")
        self.assertEqual(declaration(modules, ("a", "g")), ("fn", "g", ("f",), ("name", "f")))


class Reach(unittest.TestCase):
    def order(self, entries, **texts):
        return reach(modules_of(**texts), entries)

    def test_no_entries(self):
        self.assertEqual(self.order((), a=""), ("order", ()))

    def test_one_module(self):
        self.assertEqual(self.order(("a",), a=""), ("order", ("a",)))
        self.assertEqual(self.order(("a",), a="let x = 1", b=""), ("order", ("a",)))

    def test_several_entries(self):
        self.assertEqual(self.order(("c", "a", "b"), a="", b="", c=""), ("order", ("c", "a", "b")))
        self.assertEqual(self.order(("a", "b"), a="import x from c", b="", c=""), ("order", ("c", "a", "b")))

    def test_imports_and_exports_come_before(self):
        for word in ("import", "export"):
            with self.subTest(word):
                self.assertEqual(self.order(("a",), a=f"{word} x from b", b=f"{word} x from c", c=""),
                                 ("order", ("c", "b", "a")))

    def test_line_by_line(self):
        text = text_of("let x = 1", "export y from d", "do 1", "import z from b", "import w from c")
        self.assertEqual(self.order(("a",), a=text, b="", c="", d=""), ("order", ("d", "b", "c", "a")))

    def test_each_with_all_that_it_reaches_before_the_next(self):
        self.assertEqual(
            self.order(("a",), a="import x from b\nimport x as y from c", b="import x from d\nimport y from e", c="",
                       d="", e="import x from c"),
            ("order", ("d", "c", "e", "b", "a")))

    def test_modules_that_are_reached_twice(self):
        self.assertEqual(
            self.order(("a",), a="import x from b\nimport y from c", b="import x from d", c="import x from d", d=""),
            ("order", ("d", "b", "c", "a")))
        self.assertEqual(self.order(("a", "b", "a"), a="import x from b", b=""), ("order", ("b", "a")))
        self.assertEqual(self.order(("a", "c"), a="import x from b", b="", c="import x from b\nimport y from a"),
                         ("order", ("b", "a", "c")))
        self.assertEqual(self.order(("a",), a="import x from b\nexport x from b", b=""), ("order", ("b", "a")))

    def test_rings(self):
        self.assertEqual(self.order(("a",), a="import x from a"), ("order", ("a",)))
        texts = {"a": "import x from b", "b": "export x from c", "c": "import x from a"}
        self.assertEqual(self.order(("a",), **texts), ("order", ("c", "b", "a")))
        self.assertEqual(self.order(("b",), **texts), ("order", ("a", "c", "b")))
        self.assertEqual(self.order(("c", "a"), **texts), ("order", ("b", "a", "c")))

    def test_rings_with_more_in_them(self):
        texts = {"a": "import x from b\nimport y from c", "b": "import x from a\nimport y from d",
                 "c": "import x from b",
                 "d": "import x from c"}
        self.assertEqual(self.order(("a",), **texts), ("order", ("c", "d", "b", "a")))
        self.assertEqual(self.order(("d", "a"), **texts), ("order", ("a", "b", "c", "d")))

    def test_modules_that_are_not_reached(self):
        self.assertEqual(self.order(("b",), a="import x from b", b="", c="import x from e"), ("order", ("b",)))

    def test_8_modules_in_a_row(self):
        names = "abcdefgh"
        texts = {name: f"import x from {after}" for name, after in zip(names, names[1:])}
        self.assertEqual(self.order(("a",), h="", **texts), ("order", tuple(reversed(names))))

    def test_a_module_that_is_not_there(self):
        self.assertEqual(reach({}, ("a",)), ("module", "a"))
        self.assertEqual(self.order(("a", "b"), a=""), ("module", "b"))
        self.assertEqual(self.order(("b", "a"), a=""), ("module", "b"))
        for word in ("import", "export"):
            self.assertEqual(self.order(("a",), a=f"{word} x from b"), ("module", "b"))

    def test_the_first_module_that_is_not_there(self):
        self.assertEqual(self.order(("a",), a="import x from c\nimport y from b"), ("module", "c"))
        self.assertEqual(self.order(("a",), a="import x from b\nimport y from d", b="import x from c"), ("module", "c"))
        self.assertEqual(self.order(("a", "d"), a="import x from b", b="import y from a\nimport x from c"),
                         ("module", "c"))
        self.assertEqual(self.order(("a", "d"), a="import x from b", b=""), ("module", "d"))

    def test_entries_are_visited_in_their_order(self):
        texts = {"a": "import x from y", "b": "import x from z"}
        self.assertEqual(self.order(("a", "b"), **texts), ("module", "y"))
        self.assertEqual(self.order(("b", "a"), **texts), ("module", "z"))


class CheckNames(unittest.TestCase):
    def check(self, fault, order=("a",), **texts):
        with self.subTest(texts):
            self.assertEqual(check_names(modules_of(**texts), order), fault)


class Listings(CheckNames):
    def test_names_that_lead_somewhere(self):
        for word in ("import", "export"):
            for there in ("let x = 1", "keep x = 1", "fn x() = 1", "export x from c", "export y as x from c"):
                self.check(None, a=f"{word} x from b", b=there, c="let x = 1\nfn y(p) = p")
                self.check(None, a=f"{word} x as w from b", b=there, c="let x = 1\nfn y(p) = p")

    def test_names_that_lead_nowhere(self):
        for word in ("import", "export"):
            for there in ("let y = 1", "import x from c", "export x from b", "export y as x from c", "fn f(x) = x", "",
                          "export x from a", "export x from e"):
                self.check(("name", "b", "x"), a=f"{word} x from b", b=there, c="let x = 1")
                self.check(("name", "b", "x"), a=f"{word} x as w from b", b=there, c="let x = 1")

    def test_from_left_to_right(self):
        for word in ("import", "export"):
            self.check(("name", "b", "u"), a=f"{word} x, u as v, w from b", b="let x = 1")
            self.check(("name", "b", "w"), a=f"{word} x, w, u as v from b", b="let x = 1")
            self.check(("name", "b", "w"), a=f"{word} x as y, x, w from b", b="let x = 1")

    def test_not_the_names_here(self):
        self.check(("name", "b", "y"), a="import y as x from b", b="let x = 1")


PLACES = (
    "let v = {}", "keep v = {}", "fn v() = {}", "fn v(p) = {}", "do {}", "hold {}", "do ({})", "do ({}; 1)",
    "do (1; {})",
    "do (1; {}; 1)", "do (1; 1; {})", "do ({}) + 1", "do 1 + ({})", "do 1 - ({})", "do ({}) - 1", "do 1 * ({})",
    "do ({}) * 1",
    "do ({}) < 1", "do 1 < ({})", "do ({}) = 1", "do 1 = ({})", "do if {} then 1 else 1", "do if 1 then {} else 1",
    "do if 1 then 1 else {}", "do set s = {}", "do g({}, 1)", "do g(1, {})", "do g(1, g(1, {}))",
    "do set s = set s = {}",
    "do if 1 then (1; g(1, 1 + ({}))) else 1",
)
REST = "let s = 1\nfn g(p, q) = p"


class Expressions(CheckNames):
    """Faults of names in a module with a variable s and a function g of two parameters."""

    def everywhere(self, fault, text, rest=REST, **texts):
        for place in PLACES:
            self.check(fault, a=text_of(place.replace("{}", text), rest), **texts)
            self.check(fault, a=text_of(rest, place.replace("{}", text)), **texts)

    def test_no_faults(self):
        self.everywhere(None, "1")
        self.everywhere(None, "\"x\"")
        self.everywhere(None, "s")
        self.everywhere(None, "g(1, s)")
        self.everywhere(None, "set s = s")

    def test_names_that_are_not_available(self):
        self.everywhere(("name", "a", "u"), "u")
        self.everywhere(("name", "a", "u"), "u()")
        self.everywhere(("name", "a", "u"), "u(1, 1)")
        self.everywhere(("name", "a", "u"), "set u = 1")

    def test_names_that_are_exported_only(self):
        for use in ("x", "x()", "set x = 1"):
            self.check(("name", "a", "x"), a=f"export x from b\ndo {use}", b="let x = 1")

    def test_names_that_lead_nowhere(self):
        for use in ("x", "x()", "set x = 1"):
            self.check(("name", "a", "x"), a=f"do {use}\nimport x from b", b="")
            self.check(("name", "b", "x"), a=f"import x from b\ndo {use}", b="")

    def test_functions_that_are_read(self):
        self.everywhere(("variable", "a", "g"), "g")
        for text in ("g", "f"):
            self.check(("variable", "a", "f"), a=f"import {text} as f from b\ndo f",
                       b="export g as f from c\nfn g() = 1",
                       c="fn g(p) = p")

    def test_functions_that_are_set(self):
        self.everywhere(("variable", "a", "g"), "set g = 1")
        self.check(("variable", "a", "f"), a="import g as f from b\ndo set f = 1", b="fn g() = 1")

    def test_parameters_that_are_set(self):
        self.check(("variable", "a", "p"), a="fn f(p) = set p = 1")
        self.check(("variable", "a", "q"), a="fn f(p, q) = p + f(q, (p; set q = p))")
        self.check(("variable", "a", "s"), a="let s = 1\nfn f(s) = set s = 1")
        self.check(("variable", "a", "g"), a="fn g(g) = set g = 1")

    def test_variables_that_are_called(self):
        self.everywhere(("function", "a", "s"), "s()")
        self.everywhere(("function", "a", "s"), "s(1)")
        self.everywhere(("function", "a", "k"), "k(1)", "keep k = 1\nfn g(p, q) = p\nlet s = 1")
        for there in ("let x = 1", "keep x = 1"):
            self.check(("function", "a", "f"), a="import x as f from b\ndo f()", b=there)

    def test_parameters_that_are_called(self):
        self.check(("function", "a", "p"), a="fn f(p) = p()")
        self.check(("function", "a", "g"), a="fn f(g) = g(1)\nfn g(p) = p")
        self.check(("function", "a", "f"), a="fn f(f) = f(1)")

    def test_numbers_of_arguments(self):
        self.everywhere(("count", "a", "g"), "g()")
        self.everywhere(("count", "a", "g"), "g(1)")
        self.everywhere(("count", "a", "g"), "g(1, 1, 1)")
        for many in range(4):
            for given in range(4):
                parameters = ", ".join("pqr"[:many])
                call = ", ".join("1" * given)
                fault = None if many == given else ("count", "a", "f")
                self.check(fault, a=f"fn f({parameters}) = 1\ndo f({call})")
                self.check(fault, a=f"import h as f from b\ndo f({call})", b=f"fn h({parameters}) = 1")

    def test_parameters_are_read(self):
        self.check(None, a="fn f(p, q) = p + q\nfn g(f) = f + 1")
        self.check(None, a="fn f(p) = if p then (p; f(p)) else p = \"x\"")

    def test_parameters_of_other_functions(self):
        self.check(("name", "a", "q"), a="fn f(p) = q\nfn g(q) = q")
        self.check(("name", "a", "p"), a="fn f(p) = p\ndo p")
        self.check(("name", "a", "p"), a="fn f(p) = p\nfn g() = p")

    def test_variables_of_both_kinds_may_be_read_and_set(self):
        for there in ("let x = 1", "keep x = 1"):
            self.check(None, a=f"{there}\ndo (x; set x = 1)")
            self.check(None, a="import x from b\nfn f() = (x; set x = 1)", b=there)

    def test_names_may_be_used_before_their_lines(self):
        self.check(None, a="do f(x)\nlet x = y\nfn f(p) = p + y\nimport y from b", b="let y = 1")

    def test_functions_that_are_never_called(self):
        self.check(("name", "a", "x"), a="fn f() = x")
        self.check(("name", "a", "x"), a="fn f() = if 0 then set x = 1 else 1")

    def test_a_module_without_lines(self):
        self.check(None, a="")


class FirstFault(CheckNames):
    def test_the_order_of_modules(self):
        texts = {"a": "do x", "b": "do y", "c": "do z"}
        for order in itertools.permutations("abc"):
            first = order[0]
            self.check(("name", first, "xyz"["abc".index(first)]), order, **texts)
        self.check(("name", "c", "z"), ("a", "b", "c"), a="", b="do 1", c="do z")

    def test_modules_that_are_not_in_the_order(self):
        self.check(None, ("a",), a="import x from b", b="let x = 1\ndo y")
        self.check(None, (), a="do x")

    def test_line_by_line(self):
        rows = {
            "import x from b": ("name", "b", "x"), "export y from b": ("name", "b", "y"), "do z": ("name", "a", "z"),
            "let t = t()": ("function", "a", "t"), "keep u = f()": ("count", "a", "f"), "hold f": ("variable", "a",
                                                                                                   "f"),
            "fn g(p) = set p = 1": ("variable", "a", "p"),
        }
        for chosen in itertools.permutations(rows, 3):
            self.check(rows[chosen[0]], a=text_of(*chosen, "fn f(p) = p"), b="")
            self.check(rows[chosen[0]], a=text_of("fn f(p) = p", "do f(1)", *chosen), b="")

    def test_lines_without_faults_before(self):
        self.check(("name", "a", "y"), a="let x = 1\nimport z from b\nfn f(p) = p\ndo x\nhold y\ndo w", b="let z = 1")

    def test_from_left_to_right(self):
        for text in ("x + y", "x - y", "x * y", "x < y", "x = y", "(x; y)", "(1; x; y)", "f(x, y)",
                     "if x then y else z",
                     "if 1 then x else y", "if x then 1 else y", "set v = x + y", "(set v = x) + y", "f(1 + x, y)",
                     "f(f(1, x), y)", "x + y * z"):
            self.check(("name", "a", "x"), a=f"do {text}\nlet v = 1\nfn f(p, q) = p")

    def test_the_name_of_a_call_before_its_arguments(self):
        self.check(("name", "a", "x"), a="do x(y)")
        self.check(("function", "a", "x"), a="let x = 1\ndo x(y)")
        self.check(("count", "a", "x"), a="fn x() = 1\ndo x(y)")
        self.check(("count", "a", "x"), a="fn x(p) = 1\ndo x(y, z)")
        self.check(("name", "a", "y"), a="fn x(p) = 1\ndo x(y)")
        self.check(("name", "a", "y"), a="fn x(p) = 1\ndo x(y(x))")

    def test_the_name_of_a_set_before_its_tree(self):
        self.check(("name", "a", "x"), a="do set x = y")
        self.check(("variable", "a", "x"), a="fn x() = 1\ndo set x = y")
        self.check(("variable", "a", "p"), a="fn x(p) = set p = y")
        self.check(("name", "a", "y"), a="let x = 1\ndo set x = y")

    def test_a_fault_deep_in_the_first_part_comes_before_a_later_one(self):
        self.check(("name", "a", "x"), a="do (1 + (2 * (3 - x))) + y")
        self.check(("count", "a", "f"), a="fn f() = 1\ndo (1; (f(1); y))")


class Arguments(unittest.TestCase):
    def test_nothing_is_modified(self):
        texts = {"a": "import x from b\nexport y as z from b\ndo f(x)\nfn f(p) = p",
                 "b": "let x = 1\nlet y = 1\nimport f from a"}
        modules = modules_of(**texts)
        order = reach(modules, ("a",))[1]
        follow(modules, "a", "z")
        available(modules, "a", "x")
        declaration(modules, ("a", "f"))
        check_names(modules, order)
        self.assertEqual(modules, modules_of(**texts))
        self.assertEqual(list(modules), ["a", "b"])

    def test_the_results_are_tuples(self):
        modules = modules_of(a="import x from b", b="let x = 1")
        self.assertIsInstance(hash(reach(modules, ("a",))), int)
        self.assertIsInstance(hash(follow(modules, "b", "x")), int)
        self.assertIsInstance(hash(available(modules, "a", "x")), int)


if __name__ == "__main__":
    unittest.main()
