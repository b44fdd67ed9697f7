import unittest

from reading import error_of, interface, loader_of, text_of, told

from sameasnew import loader
from sameasnew.loader import Loader
from sameasnew.loading import load

EMPTY = ("loaded", (), (), (), (), ())


class Interface(unittest.TestCase):
    def test_methods(self):
        found = interface(Loader)
        for name, names in (
            ("__init__", ["entries"]), ("update", ["changes"]), ("call", ["module", "name", "arguments"]),
            ("version", []), ("sources", []), ("program", []), ("ran", []), ("things", []),
        ):
            with self.subTest(name):
                self.assertEqual(found[name], names)
        self.assertEqual(Loader.__module__, loader.__name__)


class Entries(unittest.TestCase):
    def test_entries(self):
        for entries in (("a",), ("abcdef",), ("b", "a"), ("c", "a", "b")):
            with self.subTest(entries):
                self.assertEqual(told(Loader(entries)), (0, (), EMPTY, (), []))

    def test_what_are_no_entries(self):
        for entries in ((), ("a", "b", "c", "d"), ("a", "a"), ("a", "b", "a"), ("",), ("let",), ("a", "as"), ("A",),
                        ("a1",), ("a b",), ("abcdefg",), ("a", "b", "c", ""), ("a", "a", "a", "a")):
            with self.subTest(entries):
                self.assertEqual(error_of(Loader, entries), "entries")

    def test_the_order_of_entries(self):
        texts = {"a": "hold \"s\"", "b": "hold \"t\""}
        self.assertEqual(loader_of("b", "a", **texts).program()[1], ("b", "a"))
        self.assertEqual(loader_of("a", "b", **texts).program()[1], ("a", "b"))

    def test_entries_are_not_kept(self):
        entries = ["a", "b"]
        one = Loader(entries)
        entries.append("c")
        self.assertEqual(one.update((("a", ""), ("b", ""))), ("applied", 1))


class Updates(unittest.TestCase):
    def applied(self, one, changes, ran):
        """The update is applied, and these bodies are run."""
        with self.subTest(changes):
            version = one.version() + 1
            self.assertEqual(one.update(tuple(changes.items())), ("applied", version))
            self.assertEqual(one.version(), version)
            self.assertEqual(one.ran(), ran)

    def rejected(self, one, changes, fault):
        with self.subTest(changes):
            before = told(one)
            self.assertEqual(one.update(tuple(changes.items())), ("rejected", fault))
            self.assertEqual(told(one), before)

    def as_from_scratch(self, one, *entries):
        """Where no kept variable has changed."""
        self.assertEqual(one.program(), load(dict(one.sources()), entries))

    def test_the_first_update(self):
        one = Loader(("a",))
        self.applied(one, {"a": "import x from b\nlet y = x", "b": "let x = 1\nhold \"s\"\nkeep k = 2"}, ("b", "a"))
        self.assertEqual(one.sources(),
                         (("a", "import x from b\nlet y = x"), ("b", "let x = 1\nhold \"s\"\nkeep k = 2")))
        self.as_from_scratch(one, "a")
        self.assertEqual(one.program()[1:5], (("b", "a"), (("a", "y", 1), ("b", "x", 1)), (("b", "k", 2),),
                                              (("b", "s"),)))
        self.assertEqual(one.things(), [("take", "b", "s")])

    def test_sources_rise(self):
        one = loader_of("b", b="", a="", ab="", c="let")
        self.assertEqual(one.sources(), (("a", ""), ("ab", ""), ("b", ""), ("c", "let")))

    def test_modules_that_are_not_reached(self):
        one = loader_of("a", a="let x = 1", b="let", c="do y")
        self.assertEqual((one.program()[1], one.ran()), (("a",), ("a",)))
        self.applied(one, {"b": "again"}, ())
        self.applied(one, {"a": "let x = 1\nimport z from d", "d": "let z = 1"}, ("d",))
        self.as_from_scratch(one, "a")

    def test_without_changes(self):
        self.rejected(Loader(("a",)), {}, ("module", "a"))
        one = loader_of("a", a="let x = 1\nhold \"s\"")
        program = one.program()
        self.applied(one, {}, ())
        self.applied(one, {}, ())
        self.assertEqual((one.version(), one.program(), one.things()), (3, program, [("take", "a", "s")]))

    def test_the_same_text_once_more(self):
        one = loader_of("a", a="let x = 1\nhold \"s\"")
        self.applied(one, {"a": "let x = 1\nhold \"s\""}, ())
        self.assertEqual(one.things(), [("take", "a", "s")])

    def test_only_the_body_counts(self):
        one = loader_of("a", a="let x = 1\ndo x + 1\nfn f() = 1")
        for text in ("let x=1\ndo (x)+1\nfn f() = 1", "\nfn f() = 2\n let x = (1)\n\ndo x + 1", "let x = 1\ndo x + 1",
                     "let x = 1\nfn g(p) = p\ndo x + 1\nexport x as z from a"):
            self.applied(one, {"a": text}, ())
            self.as_from_scratch(one, "a")
        for text in ("let x = 1", "let x = 1\ndo 1 + x", "let x = 2\ndo x + 1", "let x = 1\ndo x + 1\nkeep k = 1",
                     "keep k = 1\nlet x = 1\ndo x + 1"):
            self.applied(one, {"a": text}, ("a",))
            self.as_from_scratch(one, "a")

    def test_lines_of_a_body_that_are_turned(self):
        one = loader_of("a", a="hold \"s\"\nhold \"t\"")
        self.applied(one, {"a": "hold \"t\"\nhold \"s\""}, ("a",))
        self.assertEqual(one.program()[4], (("a", "t"), ("a", "s")))
        # What remains is neither released nor taken, though it is held in another order.
        self.assertEqual(one.things(), [("take", "a", "s"), ("take", "a", "t")])

    def test_what_a_body_asked(self):
        one = loader_of("a", a="import x, f from b\nlet y = f(x)",
                        b="let x = 1\nfn f(p) = p + 1\nfn g() = 1\nlet z = 1")
        self.applied(one, {"b": "let x = 1\nfn f(p) = p + 1\nfn g() = 2\nlet z = 2"}, ("b",))
        self.applied(one, {"b": "let x = 1\nfn f(p) = p + 2"}, ("b", "a"))
        self.applied(one, {"b": "let x = 2\nfn f(p) = p + 2"}, ("b", "a"))
        self.applied(one, {"b": "fn f(p) = (p + 2)\nlet x = 2"}, ())
        self.applied(one, {"b": "fn f(p) = p + 2\nlet x = 3 - 1"}, ("b",))
        self.applied(one, {"b": "fn f(q) = q + 2\nlet x = 3 - 1"}, ("a",))
        self.applied(one, {"b": "export f from c\nlet x = 3 - 1", "c": "fn f(q) = q + 2"}, ("c", "a"))
        self.as_from_scratch(one, "a")
        self.assertEqual(one.program()[2], (("a", "y", 4), ("b", "x", 2)))

    def test_a_value_that_comes_back(self):
        one = loader_of("a", a="import x from b\nlet y = x", b="let x = 1")
        self.applied(one, {"b": "let x = 2"}, ("b", "a"))
        self.applied(one, {"b": "let x = 1 + 1"}, ("b",))
        self.applied(one, {"b": "let x = 1"}, ("b", "a"))
        self.as_from_scratch(one, "a")

    def test_sets_of_other_modules(self):
        """Module a asks for x behind what b has set; c is left alone."""
        texts = {"a": "import x from c\nlet y = x", "b": "import x from c\ndo set x = x * 2", "c": "let x = 1"}
        one = loader_of("b", "a", **texts)
        self.assertEqual(one.program()[2], (("a", "y", 2), ("c", "x", 2)))
        self.applied(one, {"b": "import x from c\ndo set x = x + 1"}, ("b",))
        self.assertEqual(one.program()[2], (("a", "y", 2), ("c", "x", 2)))
        self.applied(one, {"b": "import x from c\ndo set x = x + 2"}, ("b", "a"))
        self.assertEqual(one.program()[2], (("a", "y", 3), ("c", "x", 3)))
        self.applied(one, {"c": "let x = 4"}, ("c", "b", "a"))
        self.applied(one, {"b": "import x as x from c\ndo set x = 2 + x"}, ("b",))
        self.as_from_scratch(one, "b", "a")

    def test_a_set_needs_a_value_only(self):
        one = loader_of("a", a="import x from b\ndo set x = 5", b="let x = 1")
        self.applied(one, {"b": "let x = 2"}, ("b",))
        self.assertEqual(one.program()[2], (("b", "x", 5),))
        self.rejected(one, {"b": "keep x = 1"}, ("run", "a", ("kept", "b", "x")))
        self.as_from_scratch(one, "a")

    def test_another_order_of_modules(self):
        texts = {"a": "import x from b\nimport y from c", "b": "let x = 1\nhold \"b\"", "c": "let y = 1\nhold \"c\""}
        one = loader_of("a", **texts)
        self.assertEqual(one.program()[1], ("b", "c", "a"))
        self.applied(one, {"a": "import y from c\nimport x from b"}, ())
        self.assertEqual(one.program()[1], ("c", "b", "a"))
        self.assertEqual(one.program()[4], (("c", "c"), ("b", "b")))
        self.assertEqual(one.things(), [("take", "b", "b"), ("take", "c", "c")])
        self.as_from_scratch(one, "a")

    def test_modules_that_are_added_and_removed(self):
        one = loader_of("a", a="let x = 1")
        self.applied(one, {"a": "let x = 1\nimport y from b", "b": "let y = 1"}, ("b",))
        self.rejected(one, {"b": None}, ("module", "b"))
        self.applied(one, {"a": "let x = 1", "b": None}, ())
        self.assertEqual(one.sources(), (("a", "let x = 1"),))
        self.rejected(one, {"a": None}, ("module", "a"))
        self.as_from_scratch(one, "a")

    def test_removing_a_module_that_there_is_not(self):
        one = loader_of("a", a="let x = 1")
        self.applied(one, {"b": None}, ())
        self.applied(one, {"b": None, "a": "let x = 2", "c": None}, ("a",))
        self.assertEqual(one.sources(), (("a", "let x = 2"),))
        self.rejected(Loader(("a",)), {"a": None}, ("module", "a"))

    def test_a_module_that_comes_back_is_run_again(self):
        one = loader_of("a", a="import x from b\nlet y = 1", b="let x = 1")
        self.applied(one, {"a": "let y = 1"}, ())
        self.assertEqual(one.program()[1], ("a",))
        # It stayed among the sources, but it was not in the program before.
        self.applied(one, {"a": "import x from b\nlet y = 1"}, ("b",))
        self.as_from_scratch(one, "a")

    def test_what_was_loaded_before_the_last_update_does_not_count(self):
        one = loader_of("a", a="let x = 1")
        self.applied(one, {"a": "let x = 2"}, ("a",))
        self.applied(one, {"a": "let x = 1"}, ("a",))

    def test_a_body_that_was_run_by_a_rejected_update_does_not_count(self):
        one = loader_of("a", a="import x from b\nlet y = x", b="let x = 1")
        self.rejected(one, {"b": "let x = 2\ndo 1 - \"a\""}, ("run", "b", ("type",)))
        self.rejected(one, {"a": "import x from b\nlet y = x - \"a\"", "b": "let x = 2"}, ("run", "a", ("type",)))
        self.applied(one, {"b": "let x = 2"}, ("b", "a"))

    def test_ran_is_in_the_order_of_modules(self):
        texts = {name: f"let x = {at}" for at, name in enumerate("bca")}
        one = loader_of("c", "a", "b", **texts)
        self.assertEqual(one.ran(), ("c", "a", "b"))
        self.applied(one, {"b": "let x = 7", "a": "let x = 8"}, ("a", "b"))
        self.applied(one, {"b": "let x = 8", "c": "let x = 9"}, ("c", "b"))

    def test_rejected_updates(self):
        one = loader_of("a", a="import f from b\nlet x = 1\ndo f(1)\nhold \"s\"\nkeep k = 1", b="fn f(p) = p")
        good = text_of("import f from b", "let x = 1", "do f(1)")
        for changes, fault in (
            ({"a": None}, ("module", "a")), ({"b": None}, ("module", "b")),
            ({"a": "let"}, ("line", "a", 1)), ({"b": "\nfn f(p) = p\nlet f = 1"}, ("line", "b", 3)),
            ({"b": ""}, ("name", "b", "f")), ({"a": good + "\ndo y"}, ("name", "a", "y")),
            ({"b": "let f = 1"}, ("function", "a", "f")), ({"b": "fn f() = 1"}, ("count", "a", "f")),
            ({"a": good + "\ndo f"}, ("variable", "a", "f")),
            ({"b": "fn f(p) = p + \"a\""}, ("run", "a", ("type",))),
            ({"b": "fn f(p) = p - 99999 - 9"}, ("run", "a", ("large",))),
            ({"b": "fn f(p) = f(p)"}, ("run", "a", ("deep",))),
            ({"b": "keep x = 1\nfn f(p) = x"}, ("run", "a", ("kept", "b", "x"))),
            ({"b": "fn f(p) = p\nhold \"s\""}, ("run", "a", ("held", "s"))),
            ({"b": "import x from a\nfn f(p) = set x = p\ndo f(1)"}, ("run", "b", ("early", "a", "x"))),
        ):
            self.rejected(one, changes, fault)
        self.applied(one, {"b": "fn f(p) = p + 1"}, ("a",))

    def test_a_trace_does_not_hold_where_a_string_is_held_now(self):
        one = loader_of("b", "a", a="hold \"s\"", b="let x = 1")
        self.rejected(one, {"b": "hold \"s\""}, ("run", "a", ("held", "s")))
        self.assertEqual(one.things(), [("take", "a", "s")])

    def test_eight_and_nine_sources(self):
        one = Loader(("a",))
        self.applied(one, {name: "" for name in "abcdefgh"}, ("a",))
        self.rejected(one, {"i": ""}, ("many",))
        self.rejected(one, {"i": "let", "a": "let"}, ("many",))
        self.applied(one, {"i": "", "h": None}, ())
        self.assertEqual("".join([name for name, _ in one.sources()]), "abcdefgi")

    def test_the_first_fault_counts(self):
        one = loader_of("a", a="")
        self.rejected(one, {"a": "import x from b\nlet", "b": "let"}, ("line", "a", 2))
        self.rejected(one, {"a": "import x from b\ndo 1 - \"a\"", "b": "do x"}, ("name", "b", "x"))
        self.rejected(one, {"a": "import x from b\ndo 1 - \"a\"", "b": "let x = 1\ndo 99999 + 1"},
                      ("run", "b", ("large",)))

    def test_later_changes_of_what_was_passed_have_no_effect(self):
        one = Loader(("a",))
        changes = [("a", "let x = 1"), ("b", "")]
        one.update(changes)
        changes[0] = ("a", "let x = 2")
        changes.clear()
        self.assertEqual(one.sources(), (("a", "let x = 1"), ("b", "")))

    def test_lists_are_new(self):
        one = loader_of("a", a="hold \"s\"")
        one.things().append(("take", "a", "t"))
        one.things().clear()
        self.assertEqual(one.things(), [("take", "a", "s")])

    def test_loaders_are_apart(self):
        first, second = Loader(("a",)), Loader(("a",))
        first.update((("a", "hold \"s\"\nkeep k = 1"),))
        self.assertEqual(told(second), (0, (), EMPTY, (), []))


class Kept(unittest.TestCase):
    COUNT = "keep k = 1\nkeep m = \"a\"\nfn up(p) = set k = k + p\nfn to(p) = set m = p"

    def counted(self):
        one = loader_of("a", a=self.COUNT)
        one.call("a", "up", (4,))
        one.call("a", "to", ("b",))
        self.assertEqual(one.program()[3], (("a", "k", 5), ("a", "m", "b")))
        return one

    def after(self, kept, **texts):
        with self.subTest(texts):
            one = self.counted()
            self.assertEqual(one.update(tuple(texts.items()))[0], "applied")
            self.assertEqual(one.program()[3], kept)
            return one

    def test_values_remain(self):
        self.after((("a", "k", 5), ("a", "m", "b")))
        self.after((("a", "k", 5), ("a", "m", "b")), b="let")
        self.after((("a", "k", 5), ("a", "m", "b")), a=self.COUNT + "\nfn f() = 1")

    def test_values_remain_though_the_body_is_run_again(self):
        one = self.after((("a", "k", 5), ("a", "m", "b")), a="keep k = 7\nkeep m = 8")
        self.assertEqual(one.ran(), ("a",))
        one = self.after((("a", "k", 5), ("a", "m", "b")), a="let x = 1\nkeep k = x\nkeep m = \"a\"")
        self.assertEqual(one.ran(), ("a",))

    def test_the_order_is_that_of_the_lines_now(self):
        self.after((("a", "m", "b"), ("a", "k", 5)), a="keep m = 1\nkeep k = 2")
        self.after((("b", "n", 3), ("a", "m", "b"), ("a", "k", 5)), a="import n from b\nkeep m = 1\nkeep k = 2",
                   b="keep n = 3")

    def test_new_ones_have_their_initial_values(self):
        self.after((("a", "k", 5), ("a", "n", 7)), a="keep k = 1\nkeep n = 7")
        self.after((("a", "n", 7),), a="keep n = 7")

    def test_of_another_module(self):
        self.after((("b", "k", 7),), a="import k from b", b="keep k = 7")
        self.after((("b", "k", 7), ("a", "m", "b")), a="import k from b\nkeep m = 8", b="keep k = 7")

    def test_what_was_away_begins_again(self):
        one = self.counted()
        one.update((("a", "keep m = 1"),))
        one.update((("a", "keep m = 1\nkeep k = 9"),))
        self.assertEqual(one.program()[3], (("a", "m", "b"), ("a", "k", 9)))

    def test_a_module_that_was_not_reached_in_between_begins_again(self):
        one = loader_of("a", a="import up from b", b=self.COUNT)
        one.call("b", "up", (4,))
        one.update((("a", ""),))
        self.assertEqual(one.program()[3], ())
        one.update((("a", "import up from b"),))
        self.assertEqual(one.program()[3], (("b", "k", 1), ("b", "m", "a")))
        self.assertEqual(one.ran(), ("b",))

    def test_a_variable_that_was_no_kept_one_in_between_begins_again(self):
        one = self.counted()
        one.update((("a", "let k = 3\nkeep m = 8"),))
        self.assertEqual(one.program()[2:4], ((("a", "k", 3),), (("a", "m", "b"),)))
        one.update((("a", "keep k = 4\nkeep m = 8"),))
        self.assertEqual(one.program()[2:4], ((), (("a", "k", 4), ("a", "m", "b"))))

    def test_a_rejected_update_changes_none(self):
        one = self.counted()
        self.assertEqual(one.update((("a", "keep m = 1\ndo m"),)), ("rejected", ("run", "a", ("kept", "a", "m"))))
        self.assertEqual(one.program()[3], (("a", "k", 5), ("a", "m", "b")))
        self.assertEqual(one.call("a", "up", (1,)), ("value", 6))

    def test_the_trace_has_the_initial_value(self):
        one = self.counted()
        one.update(())
        self.assertEqual(one.program()[5], (("a", (("keep", "k", 1), ("keep", "m", "a"))),))


class Things(unittest.TestCase):
    def moved(self, before, after, *things):
        """The things of an update from the first texts to the others, behind those that were taken at first."""
        with self.subTest((before, after)):
            one = loader_of("a", **before)
            first = one.things()
            self.assertEqual(first, [("take", *row) for row in one.program()[4]])
            changes = {**dict.fromkeys(before), **after}
            self.assertEqual(one.update(tuple(changes.items())), ("applied", 2))
            self.assertEqual(one.things(), first + list(things))
            self.assertEqual(one.program(), load(dict(one.sources()), ("a",)))

    def test_what_is_held_is_taken_in_its_order(self):
        one = loader_of("a", a="import x from b\nhold \"u\"\nhold \"t\"", b="let x = 1\nhold \"z\"\nhold \"a\"")
        self.assertEqual(one.things(), [("take", "b", "z"), ("take", "b", "a"), ("take", "a", "u"), ("take", "a", "t")])

    def test_what_is_not_held_any_more_is_released_in_the_reverse_of_its_order(self):
        self.moved({"a": "hold \"s\"\nhold \"t\"\nhold \"u\""}, {"a": "hold \"t\""},
                   ("release", "a", "u"), ("release", "a", "s"))
        self.moved({"a": "hold \"s\"\nhold \"t\"\nhold \"u\""}, {"a": ""},
                   ("release", "a", "u"), ("release", "a", "t"), ("release", "a", "s"))

    def test_what_is_new_is_taken_in_its_order(self):
        self.moved({"a": "hold \"t\""}, {"a": "hold \"s\"\nhold \"t\"\nhold \"u\""}, ("take", "a", "s"),
                   ("take", "a", "u"))

    def test_all_is_released_before_anything_is_taken(self):
        self.moved({"a": "hold \"s\"\nhold \"t\""}, {"a": "hold \"u\"\nhold \"t\"\nhold \"v\""},
                   ("release", "a", "s"), ("take", "a", "u"), ("take", "a", "v"))

    def test_what_remains(self):
        self.moved({"a": "hold \"s\"\nhold \"t\""}, {"a": "hold \"t\"\nhold \"s\""})
        self.moved({"a": "hold \"s\""}, {"a": "let x = \"s\"\nhold x"})
        self.moved({"a": "import x from b\nhold \"s\"", "b": "let x = 1\nhold \"t\""},
                   {"a": "hold \"s\"\nimport y from c", "b": None, "c": "let y = 1"}, ("release", "b", "t"))

    def test_a_string_that_moves_to_another_module(self):
        self.moved({"a": "import x from b\nhold \"s\"", "b": "let x = 1"},
                   {"a": "import x from b", "b": "let x = 1\nhold \"s\""},
                   ("release", "a", "s"), ("take", "b", "s"))
        self.moved({"a": "import x from b\nhold \"s\"\nhold \"t\"", "b": "let x = 1\nhold \"u\""},
                   {"a": "import x from b\nhold \"u\"\nhold \"t\"", "b": "let x = 1\nhold \"s\""},
                   ("release", "a", "s"), ("release", "b", "u"), ("take", "b", "s"), ("take", "a", "u"))

    def test_a_module_with_another_name(self):
        self.moved({"a": "import x from b", "b": "let x = 1\nhold \"s\"\nhold \"t\""},
                   {"a": "import x from c", "c": "let x = 1\nhold \"s\"\nhold \"t\""},
                   ("release", "b", "t"), ("release", "b", "s"), ("take", "c", "s"), ("take", "c", "t"))

    def test_over_several_updates(self):
        one = loader_of("a", a="hold \"s\"")
        one.update((("a", ""),))
        one.update((("a", "hold \"s\""),))
        one.update((("a", "hold \"s\"\nhold \"s\""),))
        one.update((("a", "hold \"\""),))
        self.assertEqual(one.things(), [("take", "a", "s"), ("release", "a", "s"), ("take", "a", "s"),
                                        ("release", "a", "s"), ("take", "a", "")])


class Refused(unittest.TestCase):
    def refused(self, field, changes):
        with self.subTest(changes):
            one = loader_of("a", a="keep k = 1\nhold \"s\"\nfn up() = set k = k + 1")
            one.call("a", "up", ())
            before = told(one)
            self.assertEqual(error_of(one.update, changes), field)
            self.assertEqual(told(one), before)

    def test_eight_and_nine_changes(self):
        self.assertIsNone(error_of(loader_of("a", a="").update, tuple([(name, "") for name in "abcdefgh"])))
        self.assertIsNone(error_of(loader_of("a", a="").update, tuple([(name, None) for name in "bcdefghi"])))
        self.refused("changes", tuple([(name, "") for name in "abcdefghi"]))
        self.refused("changes", tuple([(name, None) for name in "bcdefghij"]))

    def test_names(self):
        for name in ("", "A", "let", "as", "a1", "abcdefg", "a b", " a"):
            self.refused("changes", ((name, ""),))
            self.refused("changes", ((name, None),))
            self.refused("changes", (("a", ""), (name, "")))

    def test_one_twice(self):
        self.refused("changes", (("a", ""), ("a", "")))
        self.refused("changes", (("a", ""), ("b", ""), ("a", None)))
        self.refused("changes", (("b", None), ("b", None)))

    def test_long_texts(self):
        text = "do 1" + " " * 596
        one = loader_of("a", a=text)
        self.assertEqual(one.sources(), (("a", text),))
        self.refused("text", (("a", text + " "),))
        self.refused("text", (("b", ""), ("a", text + "\n")))
        self.refused("text", (("b", "x" * 601), ("a", "")))

    def test_changes_come_before_texts(self):
        long = "x" * 601
        self.refused("changes", (("a", long), ("a", "")))
        self.refused("changes", (("b", long), ("let", "")))
        self.refused("changes", tuple([(name, long) for name in "abcdefghi"]))

    def test_texts_come_before_faults(self):
        self.refused("text", (("a", "let" * 201),))
        self.refused("text", tuple([(name, "let" * 201) for name in "bcdefghi"]))
        self.refused("changes", (("a", "let"), ("a", "let")))


if __name__ == "__main__":
    unittest.main()
