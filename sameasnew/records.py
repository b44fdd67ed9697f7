"""The records of a log, and their written form."""

from sameasnew.bounds import CHANGES_MOST, are_arguments, are_entries
from sameasnew.lines import TEXT_MOST
from sameasnew.tokens import CHARACTERS, is_name, split

HOLDERS_MOST = 3
COUNT_MOST = 9999


def write_record(record):
    """The written form of a record."""
    word = record[0]
    if word == "entries":
        parts = record[1]
    elif word == "text":
        parts = (record[1], record[2].replace("\n", "|"))
    elif word == "call":
        parts = (*record[1:5], *[write_value(value) for value in record[5]])
    else:
        parts = record[1:]
    return " ".join([word] + [str(part) for part in parts])


def write_value(value):
    """The written form of a value."""
    return str(value) if isinstance(value, int) else f'"{value}"'


def read_record(text):
    """The record of which this is the written form, or None."""
    if not all([character in CHARACTERS for character in text]):
        return None
    word, _, rest = text.partition(" ")
    record = record_of(word, rest)
    # Other blanks and zeros ahead are not looked for where the parts are read: only one text is written for a record.
    return record if record is not None and write_record(record) == text else None


def record_of(word, rest):
    """The record with this word and, behind it, this text, which may be written otherwise than it would be; or None."""
    if word == "entries":
        names = tuple(rest.split(" "))
        return ("entries", names) if are_entries(names) else None
    if word == "text":
        return text_of(rest)
    if word == "remove":
        return ("remove", rest) if is_name(rest) else None
    if word == "update":
        many = number_of(rest, CHANGES_MOST)
        return None if many is None else ("update", many)
    return call_of(rest) if word == "call" else None


def text_of(rest):
    """As record_of, of a text."""
    module, _, written = rest.partition(" ")
    if not is_name(module) or len(written) > TEXT_MOST:
        return None
    return ("text", module, written.replace("|", "\n"))


def call_of(rest):
    """As record_of, of a call."""
    parts = rest.split(" ", 4)
    if len(parts) < 4 or not is_name(parts[2]) or not is_name(parts[3]):
        return None
    holder, number = number_of(parts[0], HOLDERS_MOST - 1), number_of(parts[1], COUNT_MOST)
    arguments = values_of(parts[4]) if len(parts) == 5 else ()
    if None in (holder, number, arguments):
        return None
    return ("call", holder, number, parts[2], parts[3], arguments)


def number_of(text, most):
    """The number with these digits, from 0 to the greatest one, or None."""
    if not text.isdigit() or len(text) > len(str(most)):
        return None
    return int(text) if int(text) <= most else None


def values_of(text):
    """The tuple of the arguments that are written so, or None."""
    tokens = split(text)
    if tokens is None:
        return None
    values = []
    sign = 1
    for kind, content in tokens:
        if kind == "number":
            values.append(sign * content)
        elif kind == "string":
            values.append(content)
        # Words and other signs may pass, for the values are not written with them.
        sign = -1 if kind == "sign" else 1
    return tuple(values) if are_arguments(values) else None
