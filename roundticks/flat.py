"""Flat networks of modules: all points and rules of the modules that they use, copy by copy."""

from roundticks.errors import TooGreat
from roundticks.networks import Network

MOST_POINTS = 200


def size_of(program, name, sizes):
    """How many points the flat network of a module has; sizes has those of the earlier modules."""
    size = len(program.points(name))
    for item in program.module(name)[1]:
        if item[0] == "use":
            size += sizes[item[1]] - len(program.doors(item[1]))
        if item[0] == "chain":
            # Each copy has its points but into and out; between two copies there is one point more.
            size += item[1] * (sizes[item[2]] - 2) + item[1] - 1
    return size


def flat_size(program, name):
    """How many points the flat network of a module has."""
    found = program.module(name)[0]
    sizes = {}
    for own in program.names():
        sizes[own] = size_of(program, own, sizes)
    return sizes[found]


class Flattening:
    """The points and rules of a flat network, as they are put together."""

    def __init__(self, points):
        self._points = list(points)
        self._own = {point[0]: True for point in points}
        self._rules = []
        self._next = 0

    def network(self):
        """The network of the points and rules."""
        return Network(self._points, self._rules)

    def add_rule(self, rule):
        """Puts a rule between points behind the others."""
        self._rules.append(rule)

    def add_use(self, used, joins):
        """Puts the points of a used network that are not joined behind the others, and its rules."""
        names = dict(joins)
        self._add_hidden(used, names)
        self._add_rules(used, names)

    def add_chain(self, used, item):
        """Puts the copies of a used network that a chain item tells behind the others, one after another."""
        many, _, into, out, start, last = item[1:]
        for copy in range(1, many + 1):
            names = {into: start, out: last}
            self._add_hidden(used, names)
            if copy < many:
                names[out] = self._new_point(used.clock(out))
            self._add_rules(used, names)
            start = names[out]

    def _new_point(self, clock):
        """Puts a point under the next free name behind the others, and returns the name."""
        while f"x{self._next}" in self._own:
            self._next += 1
        name = f"x{self._next}"
        self._next += 1
        self._points.append((name, *clock))
        return name

    def _add_hidden(self, used, names):
        """Puts a point behind the others for each point of a used network that names does not tell."""
        for name, first, step in used.points():
            if name not in names:
                names[name] = self._new_point((first, step))

    def _add_rules(self, used, names):
        """Puts the rules of a used network behind the others, between the points that stand for theirs."""
        for start, end, least in used.rules():
            self._rules.append((names[start], names[end], least))


def flat_by(program, name, flats):
    """The flat network of a module; flats has those of the modules that it uses."""
    flattening = Flattening(program.points(name))
    for item in program.module(name)[1]:
        if item[0] == "rule":
            flattening.add_rule(item[1:])
        if item[0] == "use":
            flattening.add_use(flats[item[1]], item[2])
        if item[0] == "chain":
            flattening.add_chain(flats[item[2]], item)
    return flattening.network()


def needed(program, name):
    """The list of the names of a module and of all that it uses, itself or through others, in order."""
    found = {program.module(name)[0]: True}
    for own in program.names()[::-1]:
        if own in found:
            for used in program.uses(own):
                found[used] = True
    return [own for own in program.names() if own in found]


def check_size(program, name):
    """Refuses a module whose flat network has too many points."""
    if flat_size(program, name) > MOST_POINTS:
        raise TooGreat()


def flat(program, name):
    """The flat network of a module."""
    check_size(program, name)
    # Modules that it does not use may be far too great to be flattened.
    flats = {}
    for own in needed(program, name):
        flats[own] = flat_by(program, own, flats)
    return flats[name]
