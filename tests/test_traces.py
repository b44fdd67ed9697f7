import unittest

from reading import Numbers, filled, modules_of, state, text_of

from sameasnew.lines import body, parse_module
from sameasnew.loading import load
from sameasnew.resolving import check_names, reach
from sameasnew.running import Memory, apply_trace, run_body, trace_holds


def leads(module, name, *binding):
    return ("leads", module, name, binding or None)


class Events(unittest.TestCase):
    def check(self, rows, events, variables=(), **texts):
        """Running the body of module a with these lines gives these events."""
        with self.subTest(rows):
            modules = modules_of(a=rows, **texts)
            self.assertEqual(run_body(modules, "a", filled(variables)), ("done", tuple(events)))

    def test_let_keep_do_and_hold(self):
        self.check("let x = 1", [("let", "a", "x", 1)])
        self.check("let x = \"s\"", [("let", "a", "x", "s")])
        self.check("keep x = 1 + 1", [("keep", "x", 2)])
        self.check("do 1", [])
        self.check("hold \"s\"", [("hold", "s")])
        self.check("keep k = \"s\"\nhold \"t\"\nlet x = 1\ndo 2\nlet w = 3",
                   [("keep", "k", "s"), ("hold", "t"), ("let", "a", "x", 1), ("let", "a", "w", 3)])

    def test_lines_that_are_not_run(self):
        self.check("import x from b\nexport x from b\nfn f() = 1", [], b="let x = 1")

    def test_names_that_are_read(self):
        self.check("let x = 1\ndo x", [("let", "a", "x", 1), leads("a", "x", "a", "x"), ("read", "a", "x", 1)])
        self.check("import y as w from b\ndo w", [leads("a", "w", "c", "z"), ("read", "c", "z", "s")],
                   [("c", "z", "s")],
                   b="export z as y from c", c="let z = 1")

    def test_every_reading_is_noted(self):
        once = [leads("a", "x", "b", "x"), ("read", "b", "x", 3)]
        self.check("import x from b\ndo x + x * x", once * 3, [("b", "x", 3)], b="let x = 1")

    def test_names_that_are_set(self):
        self.check("import x as y from b\ndo set y = 5", [leads("a", "y", "b", "x"), ("set", "b", "x", 5)],
                   [("b", "x", 3)], b="let x = 1")
        self.check("import x from b\ndo set x = 3", [leads("a", "x", "b", "x"), ("set", "b", "x", 3)], [("b", "x", 3)],
                   b="let x = 1")

    def test_the_tree_of_a_set_comes_before(self):
        self.check("import x, y from b\ndo set y = x + 1",
                   [leads("a", "x", "b", "x"), ("read", "b", "x", 3), leads("a", "y", "b", "y"), ("set", "b", "y", 4)],
                   [("b", "x", 3), ("b", "y", 0)], b="let x = 1\nlet y = 1")
        self.check("import x, y from b\ndo set y = set x = 2",
                   [leads("a", "x", "b", "x"), ("set", "b", "x", 2), leads("a", "y", "b", "y"), ("set", "b", "y", 2)],
                   [("b", "x", 3), ("b", "y", 0)], b="let x = 1\nlet y = 1")

    def test_calls(self):
        self.check("fn f() = 1\ndo f()", [leads("a", "f", "a", "f"), ("function", "a", "f", "fn f() = 1")])
        self.check("import f as g from b\ndo g(1)", [leads("a", "g", "b", "f"),
                                                     ("function", "b", "f", "fn f(p) = p + 1")],
                   b="fn  f(p)=(p)+1")

    def test_a_call_begins_before_its_arguments(self):
        self.check("import x from b\nfn f(p, q) = p\ndo f(x, x + 1)",
                   [leads("a", "f", "a", "f"), leads("a", "x", "b", "x"), ("read", "b", "x", 3),
                    leads("a", "x", "b", "x"),
                    ("read", "b", "x", 3), ("function", "a", "f", "fn f(p, q) = p")], [("b", "x", 3)], b="let x = 1")

    def test_calls_in_arguments(self):
        line = ("function", "a", "f", "fn f(p) = p")
        self.check("fn f(p) = p\ndo f(f(1))", [leads("a", "f", "a", "f"), leads("a", "f", "a", "f"), line, line])

    def test_calls_in_functions(self):
        self.check("import f from b\ndo f(1)",
                   [leads("a", "f", "b", "f"), ("function", "b", "f", "fn f(p) = g(p) + x"), leads("b", "g", "c", "h"),
                    ("function", "c", "h", "fn h(p) = p + x"), leads("c", "x", "c", "x"), ("read", "c", "x", 4),
                    leads("b", "x", "b", "x"), ("read", "b", "x", 3)],
                   [("b", "x", 3), ("c", "x", 4)], b="import h as g from c\nlet x = 1\nfn f(p) = g(p) + x",
                   c="let x = 1\nfn h(p) = p + x")

    def test_parameters_are_not_noted(self):
        self.check("let x = 1\nfn f(x) = x + x\ndo f(2)",
                   [("let", "a", "x", 1), leads("a", "f", "a", "f"), ("function", "a", "f", "fn f(x) = x + x")])

    def test_what_is_not_evaluated_is_not_noted(self):
        self.check("let x = 1\ndo if 1 then 2 else x\ndo if 0 then set x = 2 else 3", [("let", "a", "x", 1)])

    def test_ifs_and_sequences(self):
        read = [leads("a", "x", "a", "x"), ("read", "a", "x", 1)]
        put = [leads("a", "x", "a", "x"), ("set", "a", "x", 1)]
        self.check("let x = 1\ndo if x then set x = 1 else 2", [("let", "a", "x", 1)] + read + put)
        self.check("let x = 1\ndo (x; set x = 1; x)", [("let", "a", "x", 1)] + read + put + read)

    def test_the_let_comes_after_what_its_tree_asks(self):
        self.check("import x from b\nlet y = x", [leads("a", "x", "b", "x"), ("read", "b", "x", 3),
                                                  ("let", "a", "y", 3)],
                   [("b", "x", 3)], b="let x = 1")
        self.check("import x from b\nkeep y = x", [leads("a", "x", "b", "x"), ("read", "b", "x", 3), ("keep", "y", 3)],
                   [("b", "x", 3)], b="let x = 1")
        self.check("import x from b\nhold x", [leads("a", "x", "b", "x"), ("read", "b", "x", "s"), ("hold", "s")],
                   [("b", "x", "s")], b="let x = 1")

    def test_functions_of_other_modules_set_their_variables(self):
        self.check("import up from b\ndo up(2)",
                   [leads("a", "up", "b", "up"), ("function", "b", "up", "fn up(p) = set x = x + p"),
                    leads("b", "x", "b", "x"),
                    ("read", "b", "x", 3), leads("b", "x", "b", "x"), ("set", "b", "x", 5)],
                   [("b", "x", 3)], b="let x = 1\nfn up(p) = set x = x + p")

    def test_traces_are_tuples_throughout(self):
        kind, trace = run_body(modules_of(a="let x = 1\nfn f(p) = p\ndo f(x)\nhold \"s\"\nkeep k = x"), "a", Memory())
        self.assertEqual(kind, "done")
        self.assertIsInstance(hash(trace), int)


class Case(unittest.TestCase):
    def check(self, holds, trace, modules, memory=None, module="a"):
        with self.subTest((trace, holds)):
            memory = Memory() if memory is None else memory
            before = state(memory)
            self.assertIs(trace_holds(modules, module, memory, tuple(trace)), holds)
            self.assertEqual(state(memory), before)


class Leads(Case):
    def test_the_same_binding(self):
        modules = modules_of(a="import x, y as z from b\nlet w = 1", b="let x = 1\nexport u as y from c",
                             c="fn u() = 1")
        self.check(True, [leads("a", "w", "a", "w")], modules)
        self.check(True, [leads("a", "x", "b", "x"), leads("a", "z", "c", "u"), leads("b", "x", "b", "x")], modules)

    def test_another_binding(self):
        modules = modules_of(a="import x, y as z from b\nlet w = 1", b="let x = 1\nexport u as y from c",
                             c="fn u() = 1")
        self.check(False, [leads("a", "w", "b", "w")], modules)
        self.check(False, [leads("a", "w", "a", "x")], modules)
        self.check(False, [leads("a", "z", "b", "y")], modules)
        self.check(False, [leads("a", "x", "b", "x"), leads("a", "z", "c", "y")], modules)

    def test_names_that_lead_nowhere(self):
        modules = modules_of(a="import x from b\nexport y from c\nimport z from d\nfn f(p) = p", b="export x from b",
                             c="let y = 1")
        for name in ("x", "y", "z", "p", "w"):
            self.check(False, [leads("a", name, "a", name)], modules)
            self.check(False, [leads("a", name, "b", name)], modules)
            self.check(False, [leads("a", name, "c", name)], modules)
            self.check(False, [leads("a", name, "d", name)], modules)

    def test_modules_that_are_not_there(self):
        self.check(False, [leads("b", "x", "b", "x")], modules_of(a="let x = 1"))
        self.check(False, [leads("a", "x", "b", "x")], modules_of(a="import x from b"))

    def test_what_is_available_counts_not_what_is_exported(self):
        modules = modules_of(a="import x from b\nexport x from c", b="let x = 1", c="let x = 1")
        self.check(True, [leads("a", "x", "b", "x")], modules)
        self.check(False, [leads("a", "x", "c", "x")], modules)


class Reads(Case):
    def test_the_same_value(self):
        modules = modules_of(a="")
        memory = filled([("a", "x", 1), ("b", "y", "s"), ("b", "z", 0), ("b", "w", "")])
        for module, name, value in (("a", "x", 1), ("b", "y", "s"), ("b", "z", 0), ("b", "w", "")):
            self.check(True, [("read", module, name, value)], modules, memory)

    def test_another_value(self):
        memory = filled([("a", "x", 1), ("a", "z", 0), ("a", "w", "")])
        for event in (("read", "a", "x", 2), ("read", "a", "x", "1"), ("read", "a", "x", 0), ("read", "a", "z", ""),
                      ("read", "a", "w", 0), ("read", "b", "x", 1), ("read", "a", "y", 1), ("read", "a", "y", 0)):
            self.check(False, [event], modules_of(a="let x = 1"), memory)

    def test_own_lets_take_effect(self):
        modules = modules_of(a="")
        self.check(True, [("let", "a", "x", 1), ("read", "a", "x", 1)], modules)
        self.check(False, [("let", "a", "x", 1), ("read", "a", "x", 2)], modules, filled([("a", "x", 2)]))
        self.check(False, [("read", "a", "x", 1), ("let", "a", "x", 1)], modules)
        self.check(False, [("let", "a", "y", 1), ("read", "a", "x", 1)], modules)
        self.check(False, [("let", "b", "x", 1), ("read", "a", "x", 1)], modules)

    def test_own_sets_take_effect(self):
        modules = modules_of(a="")
        memory = filled([("b", "x", 1)])
        self.check(True, [("read", "b", "x", 1), ("set", "b", "x", 2), ("read", "b", "x", 2)], modules, memory)
        self.check(False, [("set", "b", "x", 2), ("read", "b", "x", 1)], modules, memory)
        self.check(True, [("set", "b", "x", 2), ("set", "b", "x", "t"), ("read", "b", "x", "t")], modules, memory)

    def test_keeps_have_no_effect(self):
        self.check(False, [("keep", "x", 1), ("read", "a", "x", 1)], modules_of(a="keep x = 1"))
        self.check(True, [("keep", "x", 1)], modules_of(a="keep x = 1"))


class Functions(Case):
    def test_the_same_line(self):
        modules = modules_of(a="fn  f(p)=(p)", b="fn f() = 1")
        self.check(True, [("function", "a", "f", "fn f(p) = p")], modules)
        self.check(True, [("function", "b", "f", "fn f() = 1")], modules)

    def test_another_line(self):
        modules = modules_of(a="fn f(p) = p\nlet g = 1\nkeep h = 1\nimport k from b", b="fn f() = 1\nfn k() = 1")
        for event in (("function", "a", "f", "fn f(p) = p + 1"), ("function", "a", "f", "fn f(q) = q"),
                      ("function", "a", "f", "fn  f(p)=(p)"),
                      ("function", "b", "f", "fn f(p) = p"), ("function", "a", "g", "fn g() = 1"),
                      ("function", "a", "h", "fn h() = 1"),
                      ("function", "a", "k", "fn k() = 1"), ("function", "a", "w", "fn w() = 1"),
                      ("function", "c", "f", "fn f() = 1")):
            self.check(False, [event], modules)


class Sets(Case):
    def test_a_variable_that_has_a_value(self):
        for value in (1, 0, "", "s"):
            self.check(True, [("set", "b", "x", 5)], modules_of(a=""), filled([("b", "x", value)]))

    def test_a_variable_that_has_none(self):
        self.check(False, [("set", "b", "x", 5)], modules_of(a="", b="let x = 1"))
        self.check(False, [("set", "b", "x", 5)], modules_of(a=""), filled([("b", "y", 1), ("a", "x", 1)]))

    def test_own_lets_take_effect(self):
        self.check(True, [("let", "a", "x", 1), ("set", "a", "x", 5)], modules_of(a=""))
        self.check(False, [("set", "a", "x", 5), ("let", "a", "x", 1)], modules_of(a=""))

    def test_a_let_needs_no_value(self):
        self.check(True, [("let", "a", "x", 1)], modules_of(a="let x = 1"))
        self.check(True, [("let", "a", "x", 1)], modules_of(a="let x = 1"), filled([("a", "x", 1)]))


class Holds(Case):
    def test_a_string_that_is_not_held(self):
        self.check(True, [("hold", "s")], modules_of(a=""))
        self.check(True, [("hold", "s")], modules_of(a=""), filled(held=[("a", "t"), ("b", "")]))
        self.check(True, [("hold", "s"), ("hold", "t"), ("hold", "")], modules_of(a=""))

    def test_a_string_that_is_held(self):
        for module in "ab":
            self.check(False, [("hold", "s")], modules_of(a=""), filled(held=[("z", "r"), (module, "s")]))
            self.check(False, [("hold", "")], modules_of(a=""), filled(held=[(module, "")]))

    def test_only_what_is_held_by_a_hold_counts(self):
        memory = filled([("b", "y", 1)], [("z", "a"), ("z", "b"), ("z", "s")])
        for event in (("let", "a", "x", "s"), ("set", "b", "y", "s"), ("keep", "s", "s")):
            self.check(True, [event], modules_of(a=""), memory)

    def test_own_holds_take_effect(self):
        self.check(False, [("hold", "s"), ("hold", "t"), ("hold", "s")], modules_of(a=""))


class WholeTraces(Case):
    def test_empty_traces_hold(self):
        self.check(True, [], modules_of(a="do 1"))
        self.check(True, [], {})

    def test_every_event_must_hold(self):
        modules = modules_of(a="import x from b\nfn f() = 1", b="let x = 1")
        memory = filled([("b", "x", 1)], [("b", "s")])
        good = [leads("a", "x", "b", "x"), ("read", "b", "x", 1), ("function", "a", "f", "fn f() = 1"),
                ("let", "a", "y", 1),
                ("set", "b", "x", 1), ("keep", "k", 1), ("hold", "t")]
        bad = [leads("a", "x", "a", "x"), ("read", "b", "x", 2), ("function", "a", "f", "fn f() = 2"),
               ("set", "b", "y", 1), ("hold", "s")]
        self.check(True, good, modules, memory)
        for event in bad:
            for at in range(len(good) + 1):
                self.check(False, good[:at] + [event] + good[at:], modules, memory)

    def rerun(self, holds, before, after, variables=(), later=None, held=()):
        """Whether the trace of module a over the texts before holds over those after, with these or later variables."""
        with self.subTest((before, after)):
            old = modules_of(**before)
            kind, trace = run_body(old, "a", filled(variables))
            self.assertEqual(kind, "done", trace)
            memory = filled(variables if later is None else later, held)
            self.check(holds, trace, modules_of(**after), memory)

    def test_what_does_not_matter(self):
        before = {"a": "import f from b\nlet y = f(1)", "b": "fn f(p) = p + 1\nlet z = 1"}
        self.rerun(True, before, before)
        self.rerun(True, before, before, held=[("b", "s")], later=[("b", "z", 7)])
        self.rerun(True, before, {"a": "import f, z as w from b\n\nlet y=f(1)\nfn g() = y",
                                  "b": "fn  f(p)=(p+1)\nlet z = 1\nfn g() = 1"})
        self.rerun(True, before, {"a": "import h as f from c\nlet y = f(1)", "c": "export f as h from b",
                                  "b": before["b"]})

    def test_names_that_lead_elsewhere(self):
        before = {"a": "import f from b\nlet y = f(1)", "b": "fn f(p) = p + 1"}
        self.rerun(False, before, {"a": "import f from c\nlet y = f(1)", "b": "fn f(p) = p + 1",
                                   "c": "fn f(p) = p + 1"})
        self.rerun(False, before, {"a": "fn f(p) = p + 1\nlet y = f(1)", "b": before["b"]})
        self.rerun(False, before, {"a": before["a"], "b": "export f from c", "c": "fn f(p) = p + 1"})
        self.rerun(False, before, {"a": before["a"], "b": "fn g(p) = p + 1"})
        self.rerun(False, before, {"a": before["a"]})
        self.rerun(False, before, {"b": before["b"]})
        self.rerun(False, before, {})

    def test_functions_that_are_others(self):
        before = {"a": "import f from b\nlet y = f(1)", "b": "fn f(p) = p + 1"}
        for line in ("fn f(p) = 1 + p", "fn f(q) = q + 1", "let f = 1", "keep f = 1"):
            self.rerun(False, before, {"a": before["a"], "b": line})

    def test_names_in_functions_that_lead_elsewhere(self):
        before = {"a": "import f from b\nlet y = f(1)", "b": "import x from c\nfn f(p) = x", "c": "let x = 1",
                  "d": "let x = 1"}
        values = [("c", "x", 1), ("d", "x", 1)]
        self.rerun(True, before, before, values)
        self.rerun(False, before, {**before, "b": "import x from d\nfn f(p) = x"}, values)
        self.rerun(False, before, {**before, "b": "fn f(p) = x\nlet x = 1"}, values)

    def test_variables_with_other_values(self):
        before = {"a": "import x from b\nlet y = x", "b": "let x = 1"}
        self.rerun(True, before, before, [("b", "x", 1)])
        self.rerun(True, before, {**before, "b": "let x = 2"}, [("b", "x", 1)])
        self.rerun(False, before, before, [("b", "x", 1)], [("b", "x", 2)])
        self.rerun(False, before, before, [("b", "x", 1)], [("b", "x", "1")])
        self.rerun(False, before, before, [("b", "x", 1)], [])

    def test_variables_that_become_kept(self):
        for use in ("let y = x", "do set x = 1"):
            before = {"a": f"import x from b\n{use}", "b": "let x = 1"}
            self.rerun(False, before, {**before, "b": "keep x = 1"}, [("b", "x", 1)], [])

    def test_a_value_that_is_set_before_it_is_read(self):
        before = {"a": "import x from b\ndo (set x = 5; x)", "b": "let x = 1"}
        self.rerun(True, before, before, [("b", "x", 1)], [("b", "x", 2)])
        self.rerun(False, before, before, [("b", "x", 1)], [])

    def test_strings_that_are_held_elsewhere(self):
        before = {"a": "hold \"s\"\nhold \"t\""}
        self.rerun(True, before, before, held=[("b", "u")])
        self.rerun(False, before, before, held=[("b", "t")])
        self.rerun(False, before, before, held=[("a", "s")])


class Applying(unittest.TestCase):
    def check(self, trace, variables, held, memory, module="a"):
        with self.subTest(trace):
            self.assertIsNone(apply_trace(module, memory, tuple(trace)))
            self.assertEqual(state(memory), (variables, held))

    def test_lets_and_sets(self):
        self.check([("let", "a", "x", 1)], [("a", "x", 1)], [], Memory())
        self.check([("let", "a", "x", 1), ("set", "a", "x", 2), ("set", "b", "y", "s")],
                   [("a", "x", 2), ("b", "y", "s")], [],
                   filled([("b", "y", 0)]))
        self.check([("set", "b", "y", 2), ("set", "b", "y", 1)], [("b", "y", 1), ("c", "z", 3)], [],
                   filled([("b", "y", 0), ("c", "z", 3)]))

    def test_holds(self):
        self.check([("hold", "t"), ("hold", "s")], [], [("b", "u"), ("a", "t"), ("a", "s")], filled(held=[("b", "u")]))
        self.check([("hold", "t")], [], [("c", "t")], Memory(), "c")

    def test_what_has_no_effect(self):
        memory = filled([("b", "x", 1)], [("b", "s")])
        trace = [leads("a", "x", "b", "x"), ("read", "b", "x", 7), ("function", "a", "f", "fn f() = 1"),
                 ("keep", "k", 1)]
        self.check(trace, [("b", "x", 1)], [("b", "s")], memory)
        self.check([], [("b", "x", 1)], [("b", "s")], memory)

    def test_as_running_the_body(self):
        rows = ("import x, up from b", "let y = up(x)", "keep k = set x = y * 2", "hold \"s\" + t", "let t = \"t\"",
                "do (up(1); up(2))",
                "hold \"r\"")
        modules = modules_of(a=text_of(rows[0], rows[4], *rows[1:4], *rows[5:]),
                             b="let x = 1\nfn up(p) = set x = x + p")
        first = filled([("b", "x", 3), ("c", "z", 4)], [("b", "u")])
        second = filled([("b", "x", 3), ("c", "z", 4)], [("b", "u")])
        kind, trace = run_body(modules, "a", first)
        self.assertEqual(kind, "done")
        self.assertTrue(trace_holds(modules, "a", second, trace))
        apply_trace("a", second, trace)
        self.assertEqual(state(second), state(first))
        self.assertEqual(state(second), ([("a", "t", "t"), ("a", "y", 6), ("b", "x", 15), ("c", "z", 4)],
                                         [("b", "u"), ("a", "st"), ("a", "r")]))


ENTRIES = ("a", "b", "c")

# Each text exports x and f; the braces stand for another module.
XS = ("let x = 1", "let x = 2", "let x = 3", "import x from {}\nexport x from {}")
FS = ("fn f(p) = p + 1", "fn f(p) = p * 2", "fn f(p) = p + x", "fn f(p) = set x = x + p",
      "import f from {}\nexport f from {}")
BODIES = ("", "do f(2)", "do set x = x + 1", "hold \"s\"", "hold if x = 2 then \"s\" else \"t\"", "keep k = f(x)",
          "let y = f(x) + x",
          "let z = (f(1); x)\ndo if z < 3 then set x = 1 else f(1)")


def some_text(numbers, others):
    rows = []
    for choices in (XS, FS, BODIES, BODIES):
        rows.append(choices[numbers.below(len(choices))].replace("{}", others[numbers.below(2)]))
    if numbers.below(4) == 0:
        rows.reverse()
    return text_of(*rows)


def change(numbers, sources):
    """The sources with another text for one of them."""
    module = "abc"[numbers.below(3)]
    return {**sources, module: some_text(numbers, "abc".replace(module, ""))}


def replaced(sources, program):
    """What applying an update leads to, with the traces of the program before; and which bodies were run."""
    modules = modules_of(**sources)
    order = reach(modules, ENTRIES)[1]
    old_modules, old_traces = program
    memory = Memory()
    traces = []
    ran = []
    for module in order:
        trace = old_traces.get(module)
        same = trace is not None and body(old_modules[module]) == body(modules[module])
        if same and trace_holds(modules, module, memory, trace):
            apply_trace(module, memory, trace)
        else:
            kind, trace = run_body(modules, module, memory)
            if kind == "fault":
                return ("fault", ("run", module, trace)), ran
            ran.append(module)
        traces.append((module, trace))
    return (order, tuple(memory.variables()), tuple(memory.held()), tuple(traces)), ran


class ManyPrograms(unittest.TestCase):
    """What the traces are for: with them all is as if the texts were loaded from scratch."""

    def programs(self, many):
        """Texts of programs that can be loaded, each with some texts replaced in the one before."""
        numbers = Numbers()
        sources = dict.fromkeys("abc", "let x = 1\nfn f(p) = p")
        found = 0
        for _ in range(many):
            changed = change(numbers, sources)
            if numbers.below(2):
                changed = change(numbers, changed)
            loaded = load(changed, ENTRIES)
            if any(parse_module(text)[0] == "line" for text in changed.values()):
                continue
            if loaded[0] == "loaded" or loaded[1][0] == "run":
                found += 1
                yield changed, sources, loaded
            if loaded[0] == "loaded":
                sources = changed
        self.assertGreater(found, 100)

    def test_traces_may_stand_for_bodies(self):
        stood = ran_again = faults = 0
        for changed, sources, loaded in self.programs(2000):
            old = (modules_of(**sources), dict(load(sources, ENTRIES)[5]))
            result, ran = replaced(changed, old)
            if loaded[0] == "fault":
                faults += 1
                self.assertEqual(result, loaded)
                continue
            _, order, variables, _, held, traces = loaded
            self.assertEqual(result, (order, variables, held, traces))
            stood += len(order) - len(ran)
            ran_again += len([module for module in ran if changed[module] == sources[module] and module in old[1]])
        # The programs are such that all of it occurs.
        self.assertGreater(min(stood, ran_again, faults), 10)

    def test_a_trace_holds_where_its_body_was_run(self):
        for changed, _, loaded in self.programs(1000):
            if loaded[0] == "fault":
                continue
            modules = modules_of(**changed)
            ran, applied = Memory(), Memory()
            for module, trace in loaded[5]:
                self.assertTrue(trace_holds(modules, module, applied, trace))
                apply_trace(module, applied, trace)
                self.assertEqual(run_body(modules, module, ran), ("done", trace))
                self.assertEqual(state(applied), state(ran))
            self.assertIsNone(check_names(modules, loaded[1]))


if __name__ == "__main__":
    unittest.main()
