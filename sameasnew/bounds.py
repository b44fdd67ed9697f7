"""The bounds of what is passed from outside: entries, changes and calls."""

from sameasnew.errors import OutOfRange
from sameasnew.lines import TEXT_MOST, has_twice
from sameasnew.loading import ENTRIES_MOST
from sameasnew.tokens import is_name, is_value

CHANGES_MOST = 8
ARGUMENTS_MOST = 3


def are_names(texts, most):
    """Whether these are different names, and not more than so many."""
    return len(texts) <= most and not has_twice(texts) and all([is_name(text) for text in texts])


def are_entries(names):
    """Whether these are names of which a loader can have entries."""
    return len(names) > 0 and are_names(names, ENTRIES_MOST)


def are_arguments(values):
    """Whether a call can have these arguments."""
    return len(values) <= ARGUMENTS_MOST and all([is_value(value) for value in values])


def check_entries(names):
    """The names must be entries."""
    if not are_entries(names):
        raise OutOfRange("entries")


def check_changes(changes):
    """The changes must be such that an update can have them."""
    if not are_names([module for module, _ in changes], CHANGES_MOST):
        raise OutOfRange("changes")
    if any([text is not None and len(text) > TEXT_MOST for _, text in changes]):
        raise OutOfRange("text")


def check_arguments(values):
    """The values must be arguments."""
    if not are_arguments(values):
        raise OutOfRange("arguments")


def check_call(module, name, arguments):
    """The parts of a call that a holder makes must be two names and arguments."""
    if not is_name(module):
        raise OutOfRange("module")
    if not is_name(name):
        raise OutOfRange("name")
    check_arguments(arguments)
