import inspect
import itertools
import unittest

from reading import modules_of, text_of

from sameasnew import loading
from sameasnew.loading import ENTRIES_MOST, SOURCES_MOST, load
from sameasnew.running import Memory, run_body


class Interface(unittest.TestCase):
    def test_constants(self):
        self.assertEqual((SOURCES_MOST, ENTRIES_MOST), (8, 3))

    def test_arguments(self):
        self.assertEqual(list(inspect.signature(load).parameters), ["sources", "entries"])
        self.assertEqual(load.__module__, loading.__name__)


class Loaded(unittest.TestCase):
    def check(self, sources, entries, order=None, variables=(), kept=(), held=()):
        """The traces are compared with those of bodies that are run one by one."""
        with self.subTest(sources):
            found = load(sources, entries)
            self.assertEqual(found[0], "loaded", found)
            self.assertEqual(found[1:5], (order, variables, kept, held))
            modules, memory = modules_of(**{module: sources[module] for module in order}), Memory()
            traces = [(module, run_body(modules, module, memory)[1]) for module in order]
            self.assertEqual(found[5:], (tuple(traces),))

    def test_no_sources(self):
        self.assertEqual(load({}, ()), ("loaded", (), (), (), (), ()))

    def test_no_entries(self):
        self.assertEqual(load({"a": "do x"}, ()), ("loaded", (), (), (), (), ()))

    def test_a_module_without_lines(self):
        self.assertEqual(load({"a": ""}, ("a",)), ("loaded", ("a",), (), (), (), (("a", ()),)))

    def test_a_module_with_all(self):
        self.assertEqual(
            load({"a": "let x = 1\nkeep k = x + 1\nhold \"s\"\ndo set x = 5\nfn f() = 1"}, ("a",)),
            ("loaded", ("a",), (("a", "x", 5),), (("a", "k", 2),), (("a", "s"),),
             (("a", (("let", "a", "x", 1), ("leads", "a", "x", ("a", "x")), ("read", "a", "x", 1), ("keep", "k", 2),
                     ("hold", "s"),
                     ("leads", "a", "x", ("a", "x")), ("set", "a", "x", 5))),)))

    def test_bodies_are_run_in_the_order_of_modules(self):
        self.check({"a": "import x from b\nlet y = x * 2", "b": "let x = 5"}, ("a",), ("b", "a"),
                   (("a", "y", 10), ("b", "x", 5)))
        self.check({"a": "import x from b\ndo set x = x * 2\nhold \"a\"", "b": "let x = 5\nhold \"b\"",
                    "c": "import x from b\ndo set x = x + 1"},
                   ("c", "a"), ("b", "c", "a"), (("b", "x", 12),), (), (("b", "b"), ("a", "a")))
        self.check({"a": "import x from b\ndo set x = x * 2\nhold \"a\"", "b": "let x = 5\nhold \"b\"",
                    "c": "import x from b\ndo set x = x + 1"},
                   ("a", "c"), ("b", "a", "c"), (("b", "x", 11),), (), (("b", "b"), ("a", "a")))

    def test_entries_are_loaded_once(self):
        self.check({"a": "hold \"s\"", "b": "hold \"t\""}, ("b", "a", "b"), ("b", "a"), (), (),
                   (("b", "t"), ("a", "s")))

    def test_rings(self):
        self.check({"a": "import f from b\nlet x = 1\nfn g(p) = p + 1\nlet y = f(x)",
                    "b": "import x, g from a\nfn f(p) = g(p) + x\nlet z = 3"},
                   ("a",), ("b", "a"), (("a", "x", 1), ("a", "y", 3), ("b", "z", 3)))

    def test_variables_rise(self):
        self.check({"b": "let y = 1\nlet x = \"s\"", "a": "let z = 1\nlet w = 2"}, ("b", "a"), ("b", "a"),
                   (("a", "w", 2), ("a", "z", 1), ("b", "x", "s"), ("b", "y", 1)))

    def test_kept_variables_are_in_the_order_of_modules_line_by_line(self):
        self.check({"b": "keep y = 1\nlet w = 4\nkeep x = w + 1", "a": "keep z = \"s\"\nimport y from b\nkeep u = 2"},
                   ("a",), ("b", "a"),
                   (("b", "w", 4),), (("b", "y", 1), ("b", "x", 5), ("a", "z", "s"), ("a", "u", 2)))

    def test_held_is_in_the_order_in_which_it_was_held(self):
        self.check({"b": "hold \"z\"\nhold \"y\"", "a": "hold \"x\"\nhold \"a\""}, ("b", "a"), ("b", "a"),
                   (), (), (("b", "z"), ("b", "y"), ("a", "x"), ("a", "a")))

    def test_traces_are_in_the_order_of_modules(self):
        found = load({"b": "import x from c\nlet y = 1", "c": "let x = 2", "a": "keep k = 1"}, ("b", "a"))
        self.assertEqual(found[5], (("c", (("let", "c", "x", 2),)), ("b", (("let", "b", "y", 1),)),
                                    ("a", (("keep", "k", 1),))))

    def test_modules_that_are_not_reached(self):
        self.check({"a": "let x = 1", "b": "let", "c": "do x", "d": "do 1 - \"a\"", "e": "import x from f",
                    "g": "hold \"s\""}, ("a",), ("a",),
                   (("a", "x", 1),))

    def test_three_entries(self):
        self.check({name: f"let x = \"{name}\"" for name in "abc"}, ("c", "a", "b"), ("c", "a", "b"),
                   (("a", "x", "a"), ("b", "x", "b"), ("c", "x", "c")))

    def test_8_sources(self):
        names = "abcdefgh"
        sources = {name: f"import x as y from {after}\nlet x = y + 1" for name,
                   after in zip(names, names[1:])} | {"h": "let x = 1"}
        self.check(sources, ("a",), tuple(reversed(names)), tuple((name, "x", 8 - at) for at, name in enumerate(names)))

    def test_the_order_of_the_sources_does_not_matter(self):
        texts = {"a": "import x from b\nhold x", "b": "let x = \"s\"\nexport y from c", "c": "let y = 1\nkeep k = 2"}
        results = {load(dict(rows), ("a", "c")) for rows in itertools.permutations(texts.items())}
        self.assertEqual(len(results), 1)

    def test_the_same_sources_give_the_same(self):
        texts = {"a": "import x from b\nhold x\ndo set x = x + x", "b": "let x = \"s\""}
        self.assertEqual(load(texts, ("a",)), load(dict(texts), ("a",)))


class Faults(unittest.TestCase):
    def check(self, fault, entries=("a",), **texts):
        with self.subTest(texts):
            self.assertEqual(load(texts, entries), ("fault", fault))

    def test_many(self):
        names = "abcdefghi"
        self.check(("many",), **{name: "" for name in names})
        self.check(("many",), **{name: "let" for name in names})
        self.check(("many",), ("z",), **{name: "do x" for name in names})
        self.check(("many",), (), **{name: "" for name in names})
        self.assertEqual(load({name: "" for name in names[:8]}, ("a",))[0], "loaded")

    def test_modules_that_are_not_there(self):
        self.check(("module", "a"))
        self.check(("module", "a"), b="")
        self.check(("module", "b"), ("a", "b"), a="")
        self.check(("module", "b"), a="import x from b")
        self.check(("module", "b"), a="export x from b")
        self.check(("module", "c"), a="import x from b", b="export x from c")

    def test_faulty_lines(self):
        self.check(("line", "a", 1), a="let")
        self.check(("line", "a", 3), a="let x = 1\n\nlet x = 2")
        self.check(("line", "a", 13), a="\n".join(["do 1"] * 13))
        self.check(("line", "b", 2), a="import x from b", b="let x = 1\ndo")
        self.check(("line", "b", 2), ("a", "b"), a="", b="\ndo")

    def test_a_faulty_line_comes_before_the_lines_are_followed(self):
        self.check(("line", "a", 2), a="import x from b\nlet")
        self.check(("line", "a", 2), a="import x from b\nlet", b="let")
        self.check(("line", "b", 2), a="import x from b\nimport y from d", b="import z from c\ndo")

    def test_in_the_order_in_which_modules_are_visited(self):
        self.check(("module", "c"), a="import x from c\nimport x as y from b", b="let")
        self.check(("line", "b", 1), a="import x as y from b\nimport x from c", b="let")
        self.check(("line", "c", 1), a="import x from b\nimport y from d", b="import x from c", c="let", d="let")
        self.check(("line", "d", 1), a="import y from d\nimport x from b", b="import x from c", c="let", d="let")
        self.check(("module", "d"), ("a", "c"), a="import x from b", b="import x from d", c="let")
        self.check(("line", "c", 1), ("c", "a"), a="import x from b", b="import x from d", c="let")

    def test_reaching_comes_before_names(self):
        self.check(("module", "b"), a="do x\nimport y from b")
        self.check(("line", "b", 1), a="do x\nimport y from b", b="let")
        self.check(("module", "b"), ("a", "b"), a="do x")
        self.check(("line", "a", 2), a="do x\nlet")

    def test_names(self):
        self.check(("name", "a", "x"), a="do x")
        self.check(("name", "b", "x"), a="import x from b", b="")
        self.check(("variable", "a", "f"), a="fn f() = 1\ndo f")
        self.check(("function", "a", "x"), a="let x = 1\ndo x()")
        self.check(("count", "a", "f"), a="fn f() = 1\ndo f(1)")

    def test_names_in_the_order_of_modules(self):
        self.check(("name", "b", "y"), a="do x\nimport z from b", b="do y\nlet z = 1")
        self.check(("name", "b", "y"), ("b", "a"), a="do x", b="do y")
        self.check(("name", "a", "x"), ("a", "b"), a="do x", b="do y")
        self.check(("name", "a", "x"), a="import f from b\ndo x", b="import x from a\nfn f() = 1")
        self.check(("name", "a", "x"), a="import f from b\ndo x\nlet y = 1", b="import x from a\ndo w\nfn f() = 1")

    def test_names_come_before_anything_is_run(self):
        self.check(("name", "a", "x"), a="do 1 - \"a\"\ndo x")
        self.check(("name", "a", "x"), a="import y from b\ndo x", b="do 1 - \"a\"\nlet y = 1")
        self.check(("count", "a", "f"), a="hold 1\nfn f() = f(1)")

    def test_running(self):
        ten = "\"" + "x" * 10 + "\""
        for row, words in (
            ("do " + " + ".join(["f()"] * 12), ("steps",)), ("do 1 - \"a\"", ("type",)), ("hold 1", ("type",)),
            ("do 99999 + 1", ("large",)), (f"do {ten} + {ten} + {ten}", ("long",)), ("do g()", ("deep",)),
            ("do y\nlet y = 1", ("early", "a", "y")), ("do k", ("kept", "a", "k")), ("hold \"s\"\nhold \"s\"",
                                                                                     ("held", "s")),
        ):
            text = text_of(row, "fn f() = (1; 1; 1; 1; 1; 1; 1; 1; 1)", "fn g() = g()", "keep k = 1")
            self.check(("run", "a", words), a=text)
            self.check(("run", "a", words), a=f"import x from b\n{text}", b="let x = 1")

    def test_the_module_of_a_fault_is_that_of_the_body(self):
        self.check(("run", "a", ("type",)), a="import f from b\ndo f(1)", b="fn f(p) = p - \"a\"")
        self.check(("run", "b", ("type",)), a="import f from b\ndo f(1)", b="fn f(p) = p - \"a\"\ndo f(2)")
        self.check(("run", "b", ("early", "a", "x")), a="import y from b\nlet x = 1", b="import x from a\nlet y = x")
        self.check(("run", "a", ("kept", "b", "k")), a="import k from b\ndo k", b="keep k = 1")

    def test_running_in_the_order_of_modules(self):
        self.check(("run", "b", ("large",)), a="do 1 - \"a\"\nimport x from b", b="let x = 99999 + 1")
        self.check(("run", "c", ("large",)), ("c", "a"), a="do 1 - \"a\"", c="do 99999 + 1")
        self.check(("run", "a", ("type",)), ("a", "c"), a="do 1 - \"a\"", c="do 99999 + 1")
        self.check(("run", "a", ("held", "s")), ("b", "a"), a="hold \"s\"", b="hold \"s\"")
        self.check(("run", "b", ("held", "s")), ("a", "b"), a="hold \"s\"", b="hold \"s\"")

    def test_each_body_has_200_steps(self):
        text = "fn f() = (1; 1; 1; 1; 1; 1; 1; 1; 1; 1; 1)\ndo " + " + ".join(["f()"] * 8)
        self.assertEqual(load({"a": text, "b": text, "c": text}, ("a", "b", "c"))[0], "loaded")

    def test_a_ring_of_names(self):
        self.check(("name", "b", "x"), a="export x from b", b="export x from a", entries=("b",))
        self.check(("name", "a", "x"), a="export x from b", b="export x from a", entries=("a",))


class Arguments(unittest.TestCase):
    def test_the_sources_are_not_modified(self):
        texts = {"b": "let x = 1\nhold \"s\"", "a": "import x from b\nkeep k = x"}
        before = list(texts.items())
        load(texts, ("a",))
        load(texts, ("c",))
        self.assertEqual(list(texts.items()), before)

    def test_the_result_is_a_tuple_throughout(self):
        texts = {"b": "let x = 1\nhold \"s\"", "a": "import x from b\nkeep k = x\nfn f(p) = p\ndo f(x)"}
        self.assertIsInstance(hash(load(texts, ("a",))), int)
        for wrong in ({}, {"a": "let"}, {"a": "do x"}, {"a": "do 1 - \"a\""}):
            self.assertIsInstance(hash(load(wrong, ("a",))), int)

    def test_later_changes_have_no_effect(self):
        texts = {"b": "let x = 1", "a": "import x from b\nkeep k = x"}
        found = load(texts, ("a",))
        texts.clear()
        self.assertEqual(found[1:4], (("b", "a"), (("b", "x", 1),), (("a", "k", 1),)))


if __name__ == "__main__":
    unittest.main()
