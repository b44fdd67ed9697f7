"""Rows of updates, with calls between them, beside loading from scratch."""

import unittest

from drawing import drawn_call, drawn_changes
from reading import Numbers, told

from sameasnew.lines import body, parse_module
from sameasnew.loader import Loader
from sameasnew.loading import load

ENTRIES = ("c", "a", "b")


def with_changes(sources, changes):
    """The sources as a dict, changed."""
    found = {**sources, **dict(changes)}
    return {module: text for module, text in found.items() if text is not None}


def body_of(text):
    return body(parse_module(text)[1])


def expected_ran(old, new, old_sources, new_sources):
    """The modules whose bodies must be run between two programs that were loaded from scratch.

    What a body asked was answered otherwise exactly if running it from scratch leaves another trace.
    """
    old_traces, new_traces = dict(old[5]), dict(new[5])
    return tuple([module for module in new[1]
                  if module not in old_traces or body_of(old_sources[module]) != body_of(new_sources[module])
                  or old_traces[module] != new_traces[module]])


def expected_things(old, new):
    return ([("release", *row) for row in reversed(old[4]) if row not in new[4]]
            + [("take", *row) for row in new[4] if row not in old[4]])


def with_values(sources, kept):
    """The sources with these values as those of their kept variables."""
    values = {(module, name): f'"{value}"' if isinstance(value, str) else f"0 - {-value}" if value < 0 else str(value)
              for module, name, value in kept}
    found = {}
    for module, text in sources.items():
        rows = []
        for row in text.split("\n"):
            name = row.split(" ")[1] if row.startswith("keep ") else None
            if (module, name) in values:
                head, _, tree = row.partition(" = ")
                row = f"{head} = ({tree}; {values[module, name]})"
            rows.append(row)
        found[module] = "\n".join(rows)
    return found


class Beside:
    """A loader, and all that is expected of it."""

    def __init__(self, case):
        self.case = case
        self.loader = Loader(ENTRIES)
        self.sources = {}
        self.scratch = ("loaded", (), (), (), (), ())
        self.kept = {}
        self.things = []
        self.version = 0
        self.ran = ()
        self.counts = dict.fromkeys(("applied", "rejected", "stood", "again", "value", "fault", "changed"), 0)

    def check(self):
        program = self.scratch[:3] + (tuple([(*binding, value) for binding, value in self.kept.items()]),)
        program += self.scratch[4:]
        expected = (self.version, tuple(sorted(self.sources.items())), program, self.ran, self.things)
        self.case.assertEqual(told(self.loader), expected)

    def update(self, changes):
        sources = with_changes(self.sources, changes)
        loaded = load(sources, ENTRIES)
        found = self.loader.update(changes)
        if loaded[0] == "fault":
            self.case.assertEqual(found, ("rejected", loaded[1]))
            self.counts["rejected"] += 1
        else:
            self.case.assertEqual(found, ("applied", self.version + 1))
            self.counts["applied"] += 1
            self.follow(sources, loaded)
        self.check()

    def follow(self, sources, loaded):
        """All that is expected behind an update that is applied."""
        self.version += 1
        self.ran = expected_ran(self.scratch, loaded, self.sources, sources)
        self.things += expected_things(self.scratch, loaded)
        self.counts["stood"] += len(loaded[1]) - len(self.ran)
        self.counts["again"] += len([module for module in self.ran if module in self.scratch[1]
                                     and body_of(sources[module]) == body_of(self.sources[module])])
        self.kept = {row[:2]: self.kept.get(row[:2], row[2]) for row in loaded[3]}
        self.sources = sources
        self.scratch = loaded

    def call(self, module, name, arguments):
        """The same call of a new loader, with the values of the kept variables in its texts, has the same result."""
        kept = [(*binding, value) for binding, value in self.kept.items()]
        other = Loader(ENTRIES)
        self.case.assertEqual(other.update(tuple(with_values(self.sources, kept).items()))[0], "applied")
        expected = other.call(module, name, arguments)
        self.case.assertEqual(self.loader.call(module, name, arguments), expected)
        after = {row[:2]: row[2] for row in other.program()[3]}
        self.counts[expected[0]] += 1
        if expected[0] == "fault":
            self.case.assertEqual(after, self.kept)
        self.counts["changed"] += after != self.kept
        self.kept = after
        self.check()


class ManyUpdates(unittest.TestCase):
    def test_all_is_as_if_it_was_loaded_from_scratch(self):
        totals = {}
        for first in range(1, 41):
            numbers = Numbers(first)
            beside = Beside(self)
            for _ in range(60):
                beside.update(drawn_changes(numbers, beside.sources))
                while beside.version and numbers.below(2):
                    beside.call(*drawn_call(numbers))
            for name, many in beside.counts.items():
                totals[name] = totals.get(name, 0) + many
        # The rows are such that all of it occurs.
        self.assertGreater(min(totals.values()), 50, totals)


if __name__ == "__main__":
    unittest.main()
