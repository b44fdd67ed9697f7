"""Loading a program from its sources."""

from sameasnew.lines import parse_module
from sameasnew.resolving import check_names, reach
from sameasnew.running import Memory, run_body

SOURCES_MOST = 8
ENTRIES_MOST = 3


def load(sources, entries):
    """A tuple "loaded", order, variables, kept, held, traces; or "fault" and the fault."""
    prepared = prepare(sources, entries)
    if prepared[0] == "fault":
        return prepared
    _, modules, order = prepared
    memory = Memory()
    traces = []
    for module in order:
        kind, found = run_body(modules, module, memory)
        if kind == "fault":
            return ("fault", ("run", module, found))
        traces.append((module, found))
    return ("loaded", order, tuple(memory.variables()), initial(traces), tuple(memory.held()), tuple(traces))


def prepare(sources, entries):
    """A tuple "ready", modules and order, or "fault" and the first fault of those before anything is run."""
    if len(sources) > SOURCES_MOST:
        return ("fault", ("many",))
    modules = {}
    faulty = {}
    for module in sources:
        kind, found = parse_module(sources[module])
        if kind == "module":
            modules[module] = found
        else:
            faulty[module] = found
    # A module with a faulty line is left out of the modules, so that reach stops when it is visited.
    kind, found = reach(modules, entries)
    if kind == "module":
        return ("fault", ("line", found, faulty[found]) if found in faulty else ("module", found))
    fault = check_names(modules, found)
    return ("ready", modules, found) if fault is None else ("fault", fault)


def initial(traces):
    """The kept variables with their initial values, in the order of modules, line by line."""
    return tuple([(module, *event[1:]) for module, trace in traces for event in trace if event[0] == "keep"])
