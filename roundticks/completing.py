"""Which numbers of some points can be completed to a timetable, and why others can not."""

from roundticks.networks import Network
from roundticks.numbers import is_on
from roundticks.rising import earliest, find_ring, forced
from roundticks.timetables import shifted


def first_off(network, names, numbers):
    """The first place at which a number is none of its point's clock, or None."""
    for k, name in enumerate(names):
        if not is_on(network.clock(name), numbers[k]):
            return k
    return None


def forced_by(network, names, numbers):
    """What the floors of these points alone force."""
    floors = dict(zip(names, numbers))
    return forced(network, [floors.get(name) for name in network.names()])


def can_complete(network, names, numbers):
    """Whether numbers of some points can be completed to a timetable."""
    return completed(network, names, numbers) is not None


def completed(network, names, numbers):
    """A timetable with these numbers for these points, or None."""
    if find_ring(network) is not None:
        return None
    # A number that is none of its clock is raised, too.
    least = forced_by(network, names, numbers)
    if [least[network.index(name)] for name in names] != list(numbers):
        return None
    return filled(network, least)


def filled(network, least):
    """The timetable that has the forced numbers, and some others where nothing is forced."""
    timetable = earliest(network, [0] * len(least))
    period = network.period()
    # So many periods below, a timetable is nowhere later than what is forced.
    times = [-((had - number) // period) for had, number in zip(least, timetable) if had is not None]
    low = shifted(network, timetable, -max(times, default=0))
    return tuple([number if had is None else had for had, number in zip(least, low)])


def first_raised(network, name, number, names, numbers):
    """The first place of a point to which the lead from a point with a number has more than its own, or None."""
    least = forced_by(network, [name], [number])
    for k, other in enumerate(names):
        value = least[network.index(other)]
        if value is not None and value > numbers[k]:
            return k
    return None


def why_not(network, names, numbers):
    """None if the numbers can be completed; otherwise a tuple that tells what is in the way first."""
    ring = find_ring(network)
    if ring is not None:
        return ("ring", ring)
    off = first_off(network, names, numbers)
    if off is not None:
        return ("clock", off)
    for j, name in enumerate(names):
        k = first_raised(network, name, numbers[j], names, numbers)
        if k is not None:
            return ("leads", j, k)
    return None


def free_name(network):
    """The first of z0, z1, z2 and so on that is no name of a point."""
    k = 0
    while network.has_name(f"z{k}"):
        k += 1
    return f"z{k}"


def pinned(network, names, numbers):
    """The network pinned to numbers of some points."""
    z = free_name(network)
    rules = network.rules()
    for name, number in zip(names, numbers):
        rules.append((z, name, number))
        rules.append((name, z, -number))
    return Network(network.points() + [(z, 0, network.period())], rules)


def door_numbers_fit(table, numbers):
    """Whether numbers, one for each door of a closed table, can be those of a timetable."""
    had = {}
    for (name, first, step), number in zip(table.doors(), numbers):
        if not is_on((first, step), number):
            return False
        had[name] = number
    for p, number in had.items():
        for q, most in had.items():
            lead = table.lead(p, q)
            if lead is not None and lead.at(number) > most:
                return False
    return True
