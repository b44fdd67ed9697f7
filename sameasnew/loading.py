"""Loading a program from its sources, from scratch or in place of another one."""

from sameasnew.lines import parse_module
from sameasnew.programs import Program
from sameasnew.resolving import check_names, reach

SOURCES_MOST = 8
ENTRIES_MOST = 3


def load(sources, entries):
    """A tuple "loaded", order, variables, kept, held, traces; or "fault" and the fault."""
    kind, found = renew(Program({}), sources, entries)
    return found.tell() if kind == "loaded" else (kind, found)


def renew(before, sources, entries):
    """A tuple "loaded" and the program of the sources, where that of before was loaded; or "fault" and the fault."""
    prepared = prepare(sources, entries)
    if prepared[0] == "fault":
        return prepared
    _, modules, order = prepared
    program = Program(modules)
    for module in order:
        words = program.complete(module, before)
        if words is not None:
            return ("fault", ("run", module, words))
    return ("loaded", program)


def prepare(sources, entries):
    """A tuple "ready", modules and order, or "fault" and the first fault of those before anything is run."""
    if len(sources) > SOURCES_MOST:
        return ("fault", ("many",))
    modules = {}
    faulty = {}
    for module in sources:
        kind, found = parse_module(sources[module])
        if kind == "module":
            modules[module] = found
        else:
            faulty[module] = found
    # A module with a faulty line is left out of the modules, so that reach stops when it is visited.
    kind, found = reach(modules, entries)
    if kind == "module":
        return ("fault", ("line", found, faulty[found]) if found in faulty else ("module", found))
    fault = check_names(modules, found)
    return ("ready", modules, found) if fault is None else ("fault", fault)
