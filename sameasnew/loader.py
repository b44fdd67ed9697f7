"""Loaders: programs whose modules are replaced."""

from sameasnew.bounds import check_arguments, check_changes, check_entries
from sameasnew.loading import renew
from sameasnew.programs import Program


class Loader:
    """Sources, entries, and the program that was loaded from them."""

    def __init__(self, entries):
        check_entries(entries)
        self.entries = tuple(entries)
        self.texts = {}
        self.loaded = Program({})
        self.applied = 0
        self.moved = []

    def update(self, changes):
        """Changes sources; a tuple "applied" and the version, or "rejected" and the fault."""
        kind, found = self.work_out(changes)
        return self.apply(found) if kind == "ready" else (kind, found)

    def work_out(self, changes):
        """A tuple "ready" and what apply needs to apply the update, or "rejected" and the fault. Nothing changes."""
        check_changes(changes)
        texts = changed(self.texts, changes)
        kind, found = renew(self.loaded, texts, self.entries)
        return ("ready", (texts, found)) if kind == "loaded" else ("rejected", found)

    def apply(self, worked_out):
        """Applies an update that was worked out since the last one was applied; a tuple "applied" and the version."""
        texts, program = worked_out
        self.moved.extend(moves(self.loaded.memory.held(), program.memory.held()))
        self.texts = texts
        self.loaded = program
        self.applied += 1
        return ("applied", self.applied)

    def call(self, module, name, arguments):
        """The result of a call from outside: a tuple "value" and the value, or "fault" and the fault."""
        check_arguments(arguments)
        return self.loaded.call(module, name, arguments)

    def version(self):
        """How many updates were applied."""
        return self.applied

    def sources(self):
        """The rising tuple of tuples of module and text."""
        return tuple([(module, self.texts[module]) for module in sorted(self.texts)])

    def program(self):
        """The tuple that load returns for the sources, with the present values of the kept variables."""
        return self.loaded.tell()

    def ran(self):
        """The tuple of the modules whose bodies were run by the last update that was applied, in their order."""
        return tuple(self.loaded.rerun)

    def things(self):
        """The list of all that was taken and released, in order."""
        return list(self.moved)


def changed(texts, changes):
    """The sources that the changes make of these; a new dict."""
    replaced = {module: text for module, text in changes}
    kept = {module: texts[module] for module in texts if module not in replaced}
    return kept | {module: replaced[module] for module in replaced if replaced[module] is not None}


def moves(before, after):
    """The list of what is released and taken, in order, where these were held and those are held now."""
    released = [("release", *row) for row in reversed(before) if row not in after]
    taken = [("take", *row) for row in after if row not in before]
    return released + taken
