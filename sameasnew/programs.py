"""Programs: what is there when modules were loaded."""

from sameasnew.lines import body
from sameasnew.resolving import declaration, follow
from sameasnew.running import Memory, apply_trace, run_body, run_call, trace_holds


class Program:
    """The modules that were loaded, the memory, and what else is known of them.

    The traces are by modules, in the order of modules; the values of the kept variables by bindings, in their order.
    """

    def __init__(self, modules):
        self.modules = modules
        self.memory = Memory()
        self.traces = {}
        self.kept = {}
        self.rerun = []

    def complete(self, module, before):
        """Completes a module, where another program was loaded before; the words of a fault, or None."""
        trace = self.trace_of(module, before)
        if trace is None:
            kind, trace = run_body(self.modules, module, self.memory)
            if kind == "fault":
                return trace
            self.rerun.append(module)
        else:
            apply_trace(module, self.memory, trace)
        self.traces[module] = trace
        self.keep(module, before)
        return None

    def trace_of(self, module, before):
        """The trace of the program before that stands for the body of the module, or None if the body must be run."""
        trace = before.traces.get(module)
        if trace is None or body(before.modules[module]) != body(self.modules[module]):
            return None
        return trace if trace_holds(self.modules, module, self.memory, trace) else None

    def keep(self, module, before):
        """The kept variables of a module have the values of the program before, or else their initial ones."""
        for event in self.traces[module]:
            if event[0] == "keep":
                binding = (module, event[1])
                self.kept[binding] = before.kept.get(binding, event[2])

    def tell(self):
        """The tuple that load returns for the program."""
        variables = tuple(self.memory.variables())
        kept = tuple([(*binding, value) for binding, value in self.kept.items()])
        held = tuple(self.memory.held())
        return ("loaded", tuple(self.traces), variables, kept, held, tuple(self.traces.items()))

    def call(self, module, name, arguments):
        """The result of a call from outside, with its effect on the kept variables."""
        fault = self.fault_of_call(module, name, len(arguments))
        if fault is not None:
            return ("fault", fault)
        found = run_call(self.modules, self.memory, self.kept, follow(self.modules, module, name), arguments)
        if found[0] == "fault":
            return ("fault", ("run", "", found[1]))
        _, value, self.kept = found
        return ("value", value)

    def fault_of_call(self, module, name, many):
        """The fault of a call from outside with so many arguments before anything is run, or None."""
        if module not in self.traces:
            return ("module", module)
        binding = follow(self.modules, module, name)
        if binding is None:
            return ("name", module, name)
        line = declaration(self.modules, binding)
        expected = len(line[2]) if line[0] == "fn" else 0
        return None if many == expected else ("count", module, name)
