"""What several tests need: trees, lines and modules out of texts, memories, drawn numbers, and expected errors."""

import inspect

from sameasnew.errors import ModuleError
from sameasnew.expressions import parse
from sameasnew.lines import parse_module
from sameasnew.loader import Loader
from sameasnew.running import Memory
from sameasnew.tokens import split


def tree_of(text):
    """The tree of an expression."""
    tree = parse(split(text))
    assert tree is not None, text
    return tree


def lines_of(text):
    """The tuple of the declarations of a text without a faulty line."""
    kind, lines = parse_module(text)
    assert kind == "module", (text, lines)
    return lines


def text_of(*lines):
    """The text that has these lines."""
    return "\n".join(lines)


def modules_of(**texts):
    """A dict from names to tuples of declarations."""
    return {name: lines_of(text) for name, text in texts.items()}


def filled(variables=(), held=()):
    """A memory with these variables and these strings."""
    memory = Memory()
    for module, name, value in variables:
        memory.give((module, name), value)
    for module, string in held:
        memory.take(module, string)
    return memory


def state(memory):
    """All that a memory tells."""
    return memory.variables(), memory.held()


def loader_of(*entries, **texts):
    """A loader to which these texts were given by one update."""
    loader = Loader(entries)
    found = loader.update(tuple(texts.items()))
    assert found == ("applied", 1), found
    return loader


def told(loader):
    """All that a loader tells."""
    return loader.version(), loader.sources(), loader.program(), loader.ran(), loader.things()


def interface(cls):
    """The arguments of all methods that are defined in the class itself, by their names."""
    return {name: list(inspect.signature(method).parameters)[1:] for name, method in vars(cls).items()
            if inspect.isfunction(method)}


def error_of(function, *arguments):
    """The name of the error of the package that a call raises, or the field of an OutOfRange, or None."""
    try:
        function(*arguments)
    except ModuleError as error:
        return getattr(error, "name", type(error).__name__)
    return None


class Numbers:
    """A row of numbers without a rule that is easily seen, always the same."""

    def __init__(self, first=1):
        self.last = first

    def below(self, many):
        self.last = (self.last * 1103515245 + 12345) % 2 ** 31
        return self.last // 65536 % many

    def one_of(self, rows):
        return rows[self.below(len(rows))]

    def some_of(self, rows, many):
        """So many different ones, in any order."""
        rest = list(rows)
        return [rest.pop(self.below(len(rest))) for _ in range(many)]
