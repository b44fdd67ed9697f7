"""The lines of a module's text: their declarations, their canonical texts, and the body."""

from sameasnew.expressions import CLOSING, OPENING, parse, write
from sameasnew.tokens import is_name, split

LINES_MOST = 12
TEXT_MOST = 600

# The first words of lines that list names of other modules, of lines that make own names, and of those of a body.
LISTING = ("import", "export")
OWN = ("let", "keep", "fn")
BODY = ("let", "keep", "do", "hold")

AS = ("word", "as")
FROM = ("word", "from")
COMMA = ("sign", ",")
EQUALS = ("sign", "=")


def parse_module(text):
    """A tuple "module" and the tuple of the declarations, or a tuple "line" and the number of the faulty line."""
    lines = []
    for number, line in enumerate(text.split("\n"), start=1):
        tokens = split(line)
        if tokens == []:
            continue
        found = None if tokens is None else parse_line(tokens)
        if found is None or len(lines) == LINES_MOST:
            return ("line", number)
        lines.append(found)
        if any_twice(lines):
            return ("line", number)
    return ("module", tuple(lines))


def parse_line(tokens):
    """The declaration of a line with these tokens, or None if there is none."""
    kind, word = tokens[0]
    if kind != "word":
        return None
    if word in LISTING:
        return parse_listing(word, tokens)
    if word in ("let", "keep"):
        return parse_variable(word, tokens)
    if word == "fn":
        return parse_function(tokens)
    if word in ("do", "hold"):
        return with_tree((word,), tokens[1:])
    return None


def parse_listing(word, tokens):
    """As parse_line, of a line that begins with import or export."""
    module = name_of(tokens[-1:])
    pairs = [pair_of(part) for part in split_at_commas(tokens[1:-2])]
    if module is None or tokens[-2] != FROM or None in pairs:
        return None
    return (word, tuple(pairs), module)


def parse_variable(word, tokens):
    """As parse_line, of a line that begins with let or keep."""
    name = name_of(tokens[1:2])
    if name is None or tokens[2:3] != [EQUALS]:
        return None
    return with_tree((word, name), tokens[3:])


def parse_function(tokens):
    """As parse_line, of a line that begins with fn."""
    name = name_of(tokens[1:2])
    if name is None or tokens[2:3] != [OPENING] or CLOSING not in tokens:
        return None
    end = tokens.index(CLOSING)
    parts = [] if end == 3 else split_at_commas(tokens[3:end])
    parameters = [name_of(part) for part in parts]
    if None in parameters or has_twice(parameters) or tokens[end + 1:end + 2] != [EQUALS]:
        return None
    return with_tree(("fn", name, tuple(parameters)), tokens[end + 2:])


def with_tree(begun, tokens):
    """The declaration that begins so and ends with the tree of these tokens, or None if there is no tree."""
    tree = parse(tokens)
    return None if tree is None else begun + (tree,)


def name_of(tokens):
    """The name if the tokens are just one name, otherwise None."""
    if len(tokens) != 1:
        return None
    kind, text = tokens[0]
    return text if kind == "word" and is_name(text) else None


def pair_of(tokens):
    """The names there and here of an item of a list, or None if the tokens are no such item."""
    if len(tokens) == 3 and tokens[1] == AS:
        there, here = name_of(tokens[:1]), name_of(tokens[2:])
    else:
        there = here = name_of(tokens)
    return None if there is None or here is None else (there, here)


def split_at_commas(tokens):
    """The lists of the tokens before, between and behind the commas."""
    parts = [[]]
    for token in tokens:
        if token == COMMA:
            parts.append([])
        else:
            parts[-1].append(token)
    return parts


def has_twice(names):
    """Whether the list has a name twice."""
    return len(set(names)) < len(names)


def any_twice(lines):
    """Whether a name is made available twice, or exported twice, by these lines together."""
    own = [line[1] for line in lines if line[0] in OWN]
    imported = [here for line in lines if line[0] == "import" for _, here in line[1]]
    exported = [here for line in lines if line[0] == "export" for _, here in line[1]]
    return has_twice(own + imported) or has_twice(own + exported)


def write_line(declaration):
    """The canonical text of a line."""
    kind = declaration[0]
    if kind in LISTING:
        items = ", ".join([write_pair(pair) for pair in declaration[1]])
        return f"{kind} {items} from {declaration[2]}"
    if kind == "fn":
        parameters = ", ".join(declaration[2])
        return f"fn {declaration[1]}({parameters}) = {write(declaration[3])}"
    if kind in OWN:
        return f"{kind} {declaration[1]} = {write(declaration[2])}"
    return f"{kind} {write(declaration[1])}"


def write_pair(pair):
    """The canonical text of an item of a list."""
    there, here = pair
    return there if there == here else f"{there} as {here}"


def body(lines):
    """The body of a module with these declarations."""
    return tuple([write_line(line) for line in lines if line[0] in BODY])
