"""Drawn texts, changes and calls, for tests over many programs."""

from reading import text_of

MODULES = ("a", "b", "c", "d")

# A dot stands for a number, an @ for another module.
XS = ("let x = .", "let x = .", "let x = .\ndo set x = x + .", "let x = f(.)", "import x from @\nexport x from @")
FS = ("fn f(p) = p + .", "fn f(p) = p * x", "fn f(p) = set x = x + p", "fn f(p) = if p < . then p else set k = k + p",
      "import f from @\nexport f from @", "fn f(p) = (set k = p; x)")
KS = ("keep k = .", "keep k = .", "keep k = x * .", "import k from @\nexport k from @", "keep m = .\nkeep k = \"s\"")
BODIES = ("", "do f(.)", "import x as w from @\nlet v = w", "import x as w, f as g from @\nlet v = g(w)",
          "import x as z, k as n from @\nlet v = z\nfn h(p, q) = set n = z + p * q", "hold \"s\"", "hold \"t.\"",
          "hold if x < . then \"s\" else \"t\"", "let y = x + f(.)",
          "import x as z from @\ndo set z = z * .", "import f as g from @\nlet z = g(.)", "hold \"u\"\nhold \"v\"",
          "import k as n from @\nfn h(p, q) = set n = n + p * q")
RARE = ("do 1 - \"a\"", "let", "do q", "import x as w from q", "hold \"s\" + 1", "do k", "do 99999 + x")

CALLS = (("f", 1), ("f", 1), ("f", 1), ("f", 1), ("h", 2), ("h", 2), ("k", 0), ("x", 0), ("f", 2), ("q", 1))


def filled_in(numbers, text, module):
    """The text with numbers and other modules in place of its signs."""
    others = [name for name in MODULES if name != module]
    other = numbers.one_of(others)
    return "".join([str(numbers.below(4)) if sign == "." else other if sign == "@" else sign for sign in text])


def drawn_text(numbers, module):
    rows = [filled_in(numbers, numbers.one_of(choices), module) for choices in (XS, FS, KS, BODIES)]
    if numbers.below(12) == 0:
        rows.append(filled_in(numbers, numbers.one_of(RARE), module))
    return text_of(*(numbers.some_of(rows, len(rows)) if numbers.below(4) == 0 else rows))


def another_number(numbers, text):
    """The text with another digit in place of one."""
    places = [at for at, sign in enumerate(text) if sign in "0123"]
    if not places:
        return text
    at = numbers.one_of(places)
    return text[:at] + str(numbers.below(4)) + text[at + 1:]


def turned(numbers, text):
    """The text with its lines from another one on."""
    rows = text.split("\n")
    at = numbers.below(len(rows))
    return text_of(*rows[at:], *rows[:at])


def drawn_change(numbers, sources):
    """A change of one module of sources, which are a dict from names to texts."""
    module = numbers.one_of(MODULES)
    text = sources.get(module)
    kind = numbers.below(10)
    if text is None or kind == 0:
        return (module, drawn_text(numbers, module))
    if kind == 1:
        return (module, None)
    if kind == 2:
        return (module, text)
    if kind < 5:
        return (module, turned(numbers, text))
    return (module, another_number(numbers, text))


def drawn_changes(numbers, sources):
    """A tuple of changes of different modules."""
    if not sources:
        return tuple([(module, drawn_text(numbers, module)) for module in MODULES])
    changes = dict(drawn_change(numbers, sources) for _ in range(numbers.one_of((0, 1, 1, 1, 2, 3))))
    return tuple(changes.items())


def drawn_call(numbers):
    """A module, a name and arguments."""
    module = numbers.one_of(("a", "b") + MODULES)
    name, many = numbers.one_of(CALLS)
    return module, name, tuple([numbers.one_of((0, 1, 2, 3, -1, "s")) for _ in range(many)])
