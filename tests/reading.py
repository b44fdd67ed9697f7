"""What several tests need: trees, lines and modules out of texts, and memories."""

from sameasnew.expressions import parse
from sameasnew.lines import parse_module
from sameasnew.running import Memory
from sameasnew.tokens import split


def tree_of(text):
    """The tree of an expression."""
    tree = parse(split(text))
    assert tree is not None, text
    return tree


def lines_of(text):
    """The tuple of the declarations of a text without a faulty line."""
    kind, lines = parse_module(text)
    assert kind == "module", (text, lines)
    return lines


def text_of(*lines):
    """The text that has these lines."""
    return "\n".join(lines)


def modules_of(**texts):
    """A dict from names to tuples of declarations."""
    return {name: lines_of(text) for name, text in texts.items()}


def filled(variables=(), held=()):
    """A memory with these variables and these strings."""
    memory = Memory()
    for module, name, value in variables:
        memory.give((module, name), value)
    for module, string in held:
        memory.take(module, string)
    return memory


def state(memory):
    """All that a memory tells."""
    return memory.variables(), memory.held()
