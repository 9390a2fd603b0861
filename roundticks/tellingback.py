"""Tables written back as networks, and as modules."""

from roundticks.leading import jumps
from roundticks.networks import Network


def leaps(table):
    """The list (p, q, v, value) of all jumps of the leads between doors, p and q being doors, that do not stay."""
    found = []
    for p in table.doors():
        for q in table.doors():
            lead = table.lead(p[0], q[0])
            if lead is not None:
                found += [(p, q, v, lead.at(v)) for v in jumps(lead) if p != q or lead.at(v) != v]
    return found


def free_names(taken, many):
    """The first so many of j0, j1, j2 and so on that are not taken."""
    return [name for name in [f"j{k}" for k in range(many + len(taken))] if name not in taken][:many]


def told_back(table):
    """A network whose table between the doors is alike."""
    points = table.doors()
    rules = []
    found = leaps(table)
    names = free_names([point[0] for point in points], len(found))
    for name, (p, q, v, value) in zip(names, found):
        points.append((name, v, table.period()))
        # From a number of p the first rule leads to the greatest v, but for periods, that is at most it.
        rules.append((p[0], name, p[2] - table.period()))
        rules.append((name, q[0], value - v))
    return Network(points, rules)


def module_back(table, name):
    """A module with a name whose table is alike."""
    network = told_back(table)
    many = len(table.doors())
    doors = [("door", *point) for point in network.points()[:many]]
    points = [("point", *point) for point in network.points()[many:]]
    rules = [("rule", *rule) for rule in network.rules()]
    return (name, tuple(doors + points + rules))
