"""Expressions: their trees, the heights of these, and their canonical texts."""

from sameasnew.errors import ModuleError
from sameasnew.tokens import is_name

NESTED_MOST = 10
HEIGHT_MOST = 12

OPENING = ("sign", "(")
CLOSING = ("sign", ")")

# How tightly the forms of the grammar bind; what is not listed is an atom.
TIGHTNESS = {"if": 0, "set": 0, "=": 1, "<": 1, "+": 2, "-": 2, "*": 3}
ATOM = 4

# The least tightness that the grammar lets the left and the right operand of a sign have.
OPERANDS = {"=": (2, 2), "<": (2, 2), "+": (2, 3), "-": (2, 3), "*": (3, 4)}


class NoExpression(ModuleError):
    """The tokens are no expression; parse catches it."""


class Reader:
    """Goes through tokens from left to right; its methods read what the grammar calls so."""

    def __init__(self, tokens):
        self.tokens = list(tokens)
        self.at = 0
        self.nested = 0
        self.branches = 0

    def at_end(self):
        """Whether no token is left."""
        return self.at == len(self.tokens)

    def next_is(self, token):
        """Whether the next token is this one."""
        return not self.at_end() and self.tokens[self.at] == token

    def accept(self, token):
        """Goes past the next token if it is this one; whether it was."""
        if not self.next_is(token):
            return False
        self.at += 1
        return True

    def expect(self, token):
        """Goes past the next token, which must be this one."""
        if not self.accept(token):
            raise NoExpression("another token must stand here")

    def take(self):
        """Goes past the next token, whatever it is, and gives it."""
        if self.at_end():
            raise NoExpression("a token is missing")
        self.at += 1
        return self.tokens[self.at - 1]

    def accept_sign(self, signs):
        """Goes past the next token if it is one of the signs; the sign, or None."""
        for sign in signs:
            if self.accept(("sign", sign)):
                return sign
        return None

    def whole(self):
        """Reads a whole."""
        if self.accept(("word", "if")):
            return self.choice()
        if self.accept(("word", "set")):
            return self.setting()
        return self.compared()

    def choice(self):
        """Reads an if, behind its first word."""
        test = self.branch()
        self.expect(("word", "then"))
        first = self.branch()
        self.expect(("word", "else"))
        return bounded(("if", test, first, self.branch()))

    def setting(self):
        """Reads a set, behind its first word."""
        name = self.target()
        self.expect(("sign", "="))
        return bounded(("set", name, self.branch()))

    def branch(self):
        """Reads a whole that is a part of an if or a set."""
        self.branches += 1
        # Each if and set around it adds 1 to the height, so reading on is of no use,
        # and would need as deep a recursion as there are such words.
        if self.branches >= HEIGHT_MOST:
            raise NoExpression("the expression is too high")
        tree = self.whole()
        self.branches -= 1
        return tree

    def target(self):
        """Reads the name of a set."""
        kind, text = self.take()
        if kind != "word" or not is_name(text):
            raise NoExpression("a name must stand here")
        return text

    def compared(self):
        """Reads a compared."""
        left = self.added()
        sign = self.accept_sign(("=", "<"))
        if sign is None:
            return left
        return bounded((sign, left, self.added()))

    def added(self):
        """Reads what the grammar calls a sum."""
        tree = self.multiplied()
        sign = self.accept_sign(("+", "-"))
        while sign is not None:
            tree = bounded((sign, tree, self.multiplied()))
            sign = self.accept_sign(("+", "-"))
        return tree

    def multiplied(self):
        """Reads what the grammar calls a product."""
        tree = self.atom()
        while self.accept(("sign", "*")):
            tree = bounded(("*", tree, self.atom()))
        return tree

    def atom(self):
        """Reads an atom."""
        if self.accept(OPENING):
            return self.sequence()
        kind, content = self.take()
        if kind in ("number", "string"):
            return (kind, content)
        if kind != "word" or not is_name(content):
            raise NoExpression("an atom must stand here")
        if self.accept(OPENING):
            return bounded(("call", content, self.arguments()))
        return ("name", content)

    def arguments(self):
        """Reads the arguments of a call, behind the opening parenthesis."""
        self.enter()
        trees = [] if self.next_is(CLOSING) else self.wholes(",")
        self.leave()
        return tuple(trees)

    def sequence(self):
        """Reads the parts of a sequence, or one expression, behind the opening parenthesis."""
        self.enter()
        parts = self.wholes(";")
        self.leave()
        tree = parts[-1]
        for part in reversed(parts[:-1]):
            tree = bounded(("then", part, tree))
        return tree

    def wholes(self, between):
        """Reads one whole or more, with this sign between them; their list."""
        trees = [self.whole()]
        while self.accept(("sign", between)):
            trees.append(self.whole())
        return trees

    def enter(self):
        """Notes that a parenthesis was opened."""
        self.nested += 1
        if self.nested > NESTED_MOST:
            raise NoExpression("the parentheses are nested too deep")

    def leave(self):
        """Goes past the closing parenthesis."""
        self.expect(CLOSING)
        self.nested -= 1


def bounded(tree):
    """The tree itself, which must not be too high."""
    if height(tree) > HEIGHT_MOST:
        raise NoExpression("the expression is too high")
    return tree


def parse(tokens):
    """The tree of tokens that are one expression with nothing behind it, otherwise None."""
    reader = Reader(tokens)
    try:
        tree = reader.whole()
    except NoExpression:
        return None
    return tree if reader.at_end() else None


def parts_of(tree):
    """The tuple of the trees of which a tree is made."""
    kind = tree[0]
    if kind in ("number", "string", "name"):
        return ()
    if kind == "call":
        return tree[2]
    if kind == "set":
        return tree[2:]
    return tree[1:]


def height(tree):
    """The height of a tree."""
    return 1 + max([height(part) for part in parts_of(tree)], default=0)


def write(tree):
    """The canonical text of a tree."""
    kind = tree[0]
    if kind == "number":
        return str(tree[1])
    if kind == "string":
        return f'"{tree[1]}"'
    if kind == "name":
        return tree[1]
    if kind == "call":
        return write_call(tree)
    if kind == "if":
        return f"if {write(tree[1])} then {write(tree[2])} else {write(tree[3])}"
    if kind == "set":
        return f"set {tree[1]} = {write(tree[2])}"
    if kind == "then":
        return write_sequence(tree)
    return write_signed(tree)


def write_call(tree):
    """The canonical text of a call."""
    texts = ", ".join([write(part) for part in tree[2]])
    return f"{tree[1]}({texts})"


def write_sequence(tree):
    """The canonical text of a sequence, with all its parts in the same parentheses."""
    texts = []
    rest = tree
    while rest[0] == "then":
        texts.append(write(rest[1]))
        rest = rest[2]
    texts.append(write(rest))
    inner = "; ".join(texts)
    return f"({inner})"


def write_signed(tree):
    """The canonical text of a tree of two operands and the sign between them."""
    sign, left, right = tree
    left_least, right_least = OPERANDS[sign]
    return f"{write_operand(left, left_least)} {sign} {write_operand(right, right_least)}"


def write_operand(tree, least):
    """The canonical text, in parentheses if the tree does not bind tightly enough without them."""
    text = write(tree)
    if TIGHTNESS.get(tree[0], ATOM) < least:
        return f"({text})"
    return text
