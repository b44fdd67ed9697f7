"""Memories, running the bodies of modules, and the traces of what was run."""

from sameasnew.errors import ModuleError
from sameasnew.lines import BODY, write_line
from sameasnew.resolving import available, declaration
from sameasnew.tokens import NUMBER_MOST, STRING_MOST

STEPS_MOST = 200
CALLS_MOST = 8


class Memory:
    """The values of variables, and what is held."""

    def __init__(self):
        self.given = {}
        self.holders = {}

    def value(self, binding):
        """The value of a variable, or None."""
        return self.given.get(binding)

    def give(self, binding, value):
        """From now on the variable has this value."""
        self.given[binding] = value

    def variables(self):
        """The rising list of tuples of module, name and value."""
        return [(*binding, self.given[binding]) for binding in sorted(self.given)]

    def held(self):
        """The list of tuples of module and string, in the order in which they were held."""
        return [(module, string) for string, module in self.holders.items()]

    def take(self, module, string):
        """From now on the module holds the string, if it was not held yet; whether it was not."""
        if string in self.holders:
            return False
        self.holders[string] = module
        return True


class Stopped(ModuleError):
    """What is run has a fault; the field words tells which one. run_body and run_call catch it."""

    def __init__(self, words):
        super().__init__(f"stopped, because of {words[0]}")
        self.words = words


class Runner:
    """Runs lines of modules, counts their steps, and notes their trace.

    A scope, here, is a tuple of the module of an expression and a dict of the arguments of its function.
    """

    def __init__(self, modules, memory):
        self.modules = modules
        self.memory = memory
        self.trace = []
        self.steps = 0
        self.calls = 0

    def run_line(self, module, line):
        """Runs a line of the module; import, export and fn lines do nothing."""
        if line[0] not in BODY:
            return
        value = self.evaluate(line[-1], (module, {}))
        if line[0] == "let":
            self.assign("let", (module, line[1]), value)
        elif line[0] == "keep":
            self.trace.append(("keep", line[1], value))
        elif line[0] == "hold":
            self.hold(module, value)

    def hold(self, module, value):
        """The module holds the value, which must be a string that is not held yet."""
        if not isinstance(value, str):
            raise Stopped(("type",))
        if not self.memory.take(module, value):
            raise Stopped(("held", value))
        self.trace.append(("hold", value))

    def assign(self, word, binding, value):
        """Gives a variable its value, by a let line or by a set."""
        self.memory.give(binding, value)
        self.trace.append((word, *binding, value))

    def evaluate(self, tree, scope):
        """The value of a tree."""
        if self.steps == STEPS_MOST:
            raise Stopped(("steps",))
        self.steps += 1
        kind = tree[0]
        if kind in ("number", "string"):
            return tree[1]
        if kind == "name":
            return self.read(tree[1], scope)
        if kind == "call":
            return self.call(tree, scope)
        if kind == "if":
            return self.choose(tree, scope)
        if kind == "set":
            return self.change(tree, scope)
        first = self.evaluate(tree[1], scope)
        second = self.evaluate(tree[2], scope)
        return second if kind == "then" else combine(kind, first, second)

    def lead(self, name, scope):
        """The binding to which a name leads that is no parameter."""
        binding = available(self.modules, scope[0], name)
        self.trace.append(("leads", scope[0], name, binding))
        return binding

    def present(self, binding):
        """The value that a variable has, which must have one and must not be kept."""
        if declaration(self.modules, binding)[0] == "keep":
            raise Stopped(("kept", *binding))
        value = self.memory.value(binding)
        if value is None:
            raise Stopped(("early", *binding))
        return value

    def read(self, name, scope):
        """The value of a name."""
        arguments = scope[1]
        if name in arguments:
            return arguments[name]
        binding = self.lead(name, scope)
        value = self.present(binding)
        self.trace.append(("read", *binding, value))
        return value

    def choose(self, tree, scope):
        """The value of an if."""
        test = self.evaluate(tree[1], scope)
        if not isinstance(test, int):
            raise Stopped(("type",))
        return self.evaluate(tree[3] if test == 0 else tree[2], scope)

    def change(self, tree, scope):
        """The value of a set, after the variable was given it."""
        value = self.evaluate(tree[2], scope)
        binding = self.lead(tree[1], scope)
        # What cannot be read cannot be set either.
        self.present(binding)
        self.assign("set", binding, value)
        return value

    def call(self, tree, scope):
        """The value of a call."""
        binding = self.lead(tree[1], scope)
        return self.enter(binding, [self.evaluate(part, scope) for part in tree[2]])

    def enter(self, binding, values):
        """The value of the function of the binding for these arguments."""
        if self.calls == CALLS_MOST:
            raise Stopped(("deep",))
        line = declaration(self.modules, binding)
        self.trace.append(("function", *binding, write_line(line)))
        self.calls += 1
        value = self.evaluate(line[3], (binding[0], dict(zip(line[2], values))))
        self.calls -= 1
        return value


class OutsideRunner(Runner):
    """Runs a call from outside, in which only kept variables are set; it has kept variables of its own."""

    def __init__(self, modules, memory, kept):
        Runner.__init__(self, modules, memory)
        self.kept = {binding: kept[binding] for binding in kept}

    def present(self, binding):
        """The value that a variable has; there is one, for the bodies of all modules were run."""
        return self.kept[binding] if binding in self.kept else self.memory.value(binding)

    def assign(self, word, binding, value):
        """Gives a variable its value, which must be a kept one."""
        if binding not in self.kept:
            raise Stopped(("plain", *binding))
        self.kept[binding] = value

    def result(self, binding, values):
        """The value of the function of the binding for these arguments, or of the variable of the binding."""
        if declaration(self.modules, binding)[0] == "fn":
            return self.enter(binding, values)
        return self.present(binding)


def combine(sign, left, right):
    """The value that a sign makes of the values of its operands."""
    if sign == "=":
        return 1 if left == right else 0
    strings = isinstance(left, str) and isinstance(right, str)
    numbers = isinstance(left, int) and isinstance(right, int)
    if not numbers and not (strings and sign in ("+", "<")):
        raise Stopped(("type",))
    if sign == "<":
        return 1 if left < right else 0
    if sign == "+":
        return bounded(left + right)
    return bounded(left - right if sign == "-" else left * right)


def bounded(value):
    """The value itself, which must not be too large or too long."""
    if isinstance(value, str):
        if len(value) > STRING_MOST:
            raise Stopped(("long",))
    elif not -NUMBER_MOST <= value <= NUMBER_MOST:
        raise Stopped(("large",))
    return value


def run_body(modules, module, memory):
    """A tuple "done" and the trace, with all effects on the memory; or "fault" and the words of the fault."""
    runner = Runner(modules, memory)
    try:
        for line in modules[module]:
            runner.run_line(module, line)
    except Stopped as stop:
        return ("fault", stop.words)
    return ("done", tuple(runner.trace))


def run_call(modules, memory, kept, binding, values):
    """A tuple "done", the result of a call from outside, and the kept variables then; or "fault" and the words of it.

    The kept variables are a dict of values by bindings; neither it nor the memory changes.
    """
    runner = OutsideRunner(modules, memory, kept)
    try:
        value = runner.result(binding, values)
    except Stopped as stop:
        return ("fault", stop.words)
    return ("done", value, runner.kept)


def trace_holds(modules, module, memory, trace):
    """Whether the trace of a module holds; the memory does not change."""
    scratch = copy_of(memory)
    for event in trace:
        if not event_holds(modules, scratch, event):
            return False
        take_effect(module, scratch, event)
    return True


def event_holds(modules, memory, event):
    """Whether an event of a trace would be the same now."""
    kind = event[0]
    if kind == "leads":
        return available(modules, event[1], event[2]) == event[3]
    if kind == "read":
        return memory.value((event[1], event[2])) == event[3]
    if kind == "function":
        line = declaration(modules, (event[1], event[2]))
        return line is not None and write_line(line) == event[3]
    if kind == "set":
        return memory.value((event[1], event[2])) is not None
    if kind == "hold":
        return event[1] not in [string for _, string in memory.held()]
    return True


def apply_trace(module, memory, trace):
    """The lets, sets and holds of the trace of a module take effect on the memory."""
    for event in trace:
        take_effect(module, memory, event)


def take_effect(module, memory, event):
    """An event of the trace of a module takes effect on the memory."""
    if event[0] in ("let", "set"):
        memory.give((event[1], event[2]), event[3])
    elif event[0] == "hold":
        memory.take(module, event[1])


def copy_of(memory):
    """A new memory with the same variables and the same that is held."""
    scratch = Memory()
    for module, name, value in memory.variables():
        scratch.give((module, name), value)
    for module, string in memory.held():
        scratch.take(module, string)
    return scratch
