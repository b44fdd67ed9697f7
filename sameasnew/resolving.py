"""Where names lead, in which order modules are reached, and the faults of names."""

from sameasnew.expressions import parts_of
from sameasnew.lines import LISTING, OWN


def declaration(modules, binding):
    """The declaration of a binding, or None if there is none."""
    module, name = binding
    for line in modules.get(module, ()):
        if line[0] in OWN and line[1] == name:
            return line
    return None


def listed(modules, word, place):
    """The module and the name there of what a line with this word, import or export, calls so here, or None."""
    module, name = place
    for line in modules.get(module, ()):
        if line[0] == word:
            for there, here in line[1]:
                if here == name:
                    return (line[2], there)
    return None


def follow(modules, module, name):
    """The binding to which a name that the module exports leads, or None."""
    passed = []
    place = (module, name)
    while place is not None and place not in passed:
        if declaration(modules, place) is not None:
            return place
        passed.append(place)
        place = listed(modules, "export", place)
    return None


def available(modules, module, name):
    """The binding to which a name that is available in the module leads, or None."""
    if declaration(modules, (module, name)) is not None:
        return (module, name)
    place = listed(modules, "import", (module, name))
    return None if place is None else follow(modules, place[0], place[1])


class Walk:
    """Visits modules, and notes the order in which they are completed."""

    def __init__(self, modules):
        self.modules = modules
        self.visited = {}
        self.completed = []

    def visit(self, module):
        """Visits the module with all that it reaches; the first module that is not there, or None."""
        if module in self.visited:
            return None
        if module not in self.modules:
            return module
        self.visited[module] = True
        for line in self.modules[module]:
            missing = self.visit(line[2]) if line[0] in LISTING else None
            if missing is not None:
                return missing
        self.completed.append(module)
        return None


def reach(modules, entries):
    """A tuple "order" and the names in the order of modules, or "module" and the first one that is not there."""
    walk = Walk(modules)
    for module in entries:
        missing = walk.visit(module)
        if missing is not None:
            return ("module", missing)
    return ("order", tuple(walk.completed))


def check_names(modules, order):
    """The first fault of names in these modules, or None."""
    for module in order:
        for line in modules[module]:
            fault = fault_of_line(modules, module, line)
            if fault is not None:
                return fault
    return None


def fault_of_line(modules, module, line):
    """The first fault of names in a line of the module, or None."""
    if line[0] in LISTING:
        return fault_of_listing(modules, line)
    parameters = line[2] if line[0] == "fn" else ()
    return Scope(modules, module, parameters).fault(line[-1])


def fault_of_listing(modules, line):
    """The first fault of names in an import or export line, or None."""
    for there, _ in line[1]:
        if follow(modules, line[2], there) is None:
            return ("name", line[2], there)
    return None


class Scope:
    """What names mean in an expression of a module: its parameters, and what is available."""

    def __init__(self, modules, module, parameters):
        self.modules = modules
        self.module = module
        self.parameters = parameters

    def fault(self, tree):
        """The first fault of names in a tree, or None."""
        found = self.fault_at_top(tree)
        for part in parts_of(tree):
            if found is None:
                found = self.fault(part)
        return found

    def fault_at_top(self, tree):
        """The fault of the name that stands in the tree itself, not in its parts, or None."""
        if tree[0] == "name":
            return self.fault_of_variable(tree[1], ("let", "keep", "parameter"))
        if tree[0] == "set":
            return self.fault_of_variable(tree[1], ("let", "keep"))
        if tree[0] == "call":
            return self.fault_of_call(tree[1], len(tree[2]))
        return None

    def meaning(self, name):
        """The declaration that a name means, for a parameter a tuple "parameter", or None."""
        if name in self.parameters:
            return ("parameter",)
        binding = available(self.modules, self.module, name)
        return None if binding is None else declaration(self.modules, binding)

    def fault_of_variable(self, name, kinds):
        """The fault of a name that must mean something of these kinds, or None."""
        meaning = self.meaning(name)
        if meaning is None:
            return ("name", self.module, name)
        return None if meaning[0] in kinds else ("variable", self.module, name)

    def fault_of_call(self, name, many):
        """The fault of a name that is called with so many arguments, or None."""
        meaning = self.meaning(name)
        if meaning is None:
            return ("name", self.module, name)
        if meaning[0] != "fn":
            return ("function", self.module, name)
        return None if len(meaning[2]) == many else ("count", self.module, name)
