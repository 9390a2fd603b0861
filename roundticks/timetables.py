"""Timetables of networks: judged, compared and shifted."""

from roundticks.numbers import is_on


def judge_timetable(network, value):
    """None if a value is a timetable; otherwise a tuple that tells what is wrong first."""
    points = network.points()
    if not isinstance(value, (list, tuple)) or len(value) != len(points):
        return ("form",)
    for k, point in enumerate(points):
        if not is_on(point[1:], value[k]):
            return ("clock", k)
    for k, (start, end, least) in enumerate(network.rules()):
        if value[network.index(end)] < value[network.index(start)] + least:
            return ("rule", k)
    return None


def later_of(network, one, other):
    """The later one of two timetables of a network."""
    return tuple([max(one[k], other[k]) for k in range(len(network.names()))])


def earlier_of(network, one, other):
    """The earlier one of two timetables of a network."""
    return tuple([min(one[k], other[k]) for k in range(len(network.names()))])


def shifted(network, timetable, times):
    """A timetable with all numbers greater by so many periods."""
    distance = network.period() * times
    return tuple([number + distance for number in timetable])
