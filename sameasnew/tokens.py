"""Names, values, and the tokens of a line."""

NAME_MOST = 6
NUMBER_MOST = 99999
STRING_MOST = 20
RESERVED = (
    "import", "export", "let", "keep", "fn", "do", "hold", "if", "then", "else", "set", "from", "as",
)

LETTERS = "abcdefghijklmnopqrstuvwxyz"
DIGITS = "0123456789"
SIGNS = "(),;+-*<="

# From the space to ~, rising; no string contains the percent sign.
CHARACTERS = " !\"#$&'()*+,-./0123456789:;<=>?@ABCDEFGHIJKLMNOPQRSTUVWXYZ[\\]^_`abcdefghijklmnopqrstuvwxyz{|}~"


def is_name(text):
    """Whether the text is a name of the language."""
    if not 1 <= len(text) <= NAME_MOST or text in RESERVED:
        return False
    return all(letter in LETTERS for letter in text)


def is_value(value):
    """Whether this is a number or a string that the language has as a value."""
    if isinstance(value, bool):
        return False
    if isinstance(value, int):
        return -NUMBER_MOST <= value <= NUMBER_MOST
    if not isinstance(value, str) or len(value) > STRING_MOST:
        return False
    return all(character in CHARACTERS and character not in ('"', "|") for character in value)


def split(line):
    """The list of the tokens of a line, or None if the line cannot be split."""
    tokens = []
    at = 0
    while at < len(line):
        if line[at] == " ":
            at += 1
            continue
        token, at = token_at(line, at)
        if token is None:
            return None
        tokens.append(token)
    return tokens


def token_at(line, at):
    """The token that begins at this index, or None, and the index behind it."""
    first = line[at]
    if first in LETTERS:
        return word_at(line, at)
    if first in DIGITS:
        return number_at(line, at)
    if first == '"':
        return string_at(line, at)
    if first in SIGNS:
        return ("sign", first), at + 1
    return None, at


def word_at(line, at):
    """As token_at, where a letter stands."""
    end = end_of_run(line, at, LETTERS)
    if end - at > NAME_MOST:
        return None, end
    return ("word", line[at:end]), end


def number_at(line, at):
    """As token_at, where a digit stands."""
    end = end_of_run(line, at, DIGITS)
    digits = line[at:end]
    # Too many digits are refused unread, for Python refuses to read very many of them.
    if len(digits) > len(str(NUMBER_MOST)) or digits != str(int(digits)):
        return None, end
    return ("number", int(digits)), end


def string_at(line, at):
    """As token_at, where a double quote stands."""
    end = line.find('"', at + 1)
    if end < 0 or not is_value(line[at + 1:end]):
        return None, end
    return ("string", line[at + 1:end]), end + 1


def end_of_run(line, at, characters):
    """The index behind as many of the characters as follow one another from this index on."""
    end = at
    while end < len(line) and line[end] in characters:
        end += 1
    return end
