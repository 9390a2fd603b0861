"""A dispatcher, who fixes points one by one while time goes on, and never comes to a stop."""

from roundticks.completing import filled
from roundticks.elimination import possible_numbers
from roundticks.errors import BadAct, Gain, NothingDone, NoWay, UnknownName
from roundticks.numbers import is_on
from roundticks.rising import find_ring, forced, mirrored
from roundticks.words import is_integer


class Dispatcher:
    """A network with a timetable, and the acts that were done; all else is told by these."""

    def __init__(self, network):
        ring = find_ring(network)
        if ring is not None:
            raise Gain(ring)
        self._network = network
        self._acts = []
        # What was found out already: the possible rests of points, and what holds since the last act.
        self._rests = {}
        self._least = None
        self._greatest = None

    def network(self):
        """The network."""
        return self._network

    def now(self):
        """The integer that was waited for last, or None."""
        times = [act[1] for act in self._acts if act[0] == "wait"]
        return times[-1] if times else None

    def fixed(self):
        """The list of the pairs of the fixed points and their numbers, in the order in which they were fixed."""
        return [act[1:] for act in self._acts if act[0] == "fix"]

    def acts(self):
        """The list of the acts."""
        return list(self._acts)

    def open_names(self):
        """The list of the names of the points that are not fixed."""
        numbers = dict(self.fixed())
        return [name for name in self._network.names() if name not in numbers]

    def _ends(self, name):
        """The pair of the least and the greatest number of a point, None for no bound."""
        place = self._network.index(name)
        return (self._least_numbers()[place], self._greatest_numbers()[place])

    def _least_numbers(self):
        """What the fixed numbers, and now, force."""
        if self._least is None:
            numbers, now = dict(self.fixed()), self.now()
            self._least = forced(self._network, [numbers.get(name, now) for name in self._network.names()])
        return self._least

    def _greatest_numbers(self):
        """The greatest numbers of all points from which no fixed point is raised, None where there are no such."""
        if self._greatest is None:
            # Going down from the fixed numbers is rising in the network seen from the other end of time.
            ceilings = {name: -number for name, number in self.fixed()}
            found = forced(mirrored(self._network), [ceilings.get(name) for name in self._network.names()])
            self._greatest = tuple([None if number is None else -number for number in found])
        return self._greatest

    def _possible(self, name):
        """The possible numbers of a point from 0 to period - 1."""
        if name not in self._rests:
            self._rests[name] = tuple(possible_numbers(self._network, name))
        return self._rests[name]

    def _forget(self):
        """Forgets what held before an act was done or taken back."""
        self._least = None
        self._greatest = None

    def fix_word(self, name, number):
        """The word that tells why a point cannot get a number, or None if it can."""
        if not self._network.has_name(name):
            return "name"
        if name not in self.open_names():
            return "fixed"
        if not is_on(self._network.clock(name), number):
            return "number"
        if number % self._network.period() not in self._possible(name):
            return "rest"
        least, greatest = self._ends(name)
        if least is not None and number < least:
            return "least"
        return "late" if greatest is not None and number > greatest else None

    def fix(self, name, number):
        """Fixes a point at a number, and returns the number of acts done so far."""
        word = self.fix_word(name, number)
        if word is not None:
            raise BadAct(word)
        return self._do(("fix", name, number))

    def wait_word(self, now):
        """The word that tells why it cannot become so late, or None if it can."""
        before = self.now()
        if not is_integer(now) or (before is not None and now <= before):
            return "now"
        last = self.latest_now()
        return "late" if last is not None and now > last else None

    def wait(self, now):
        """Waits until now, and returns the number of acts done so far."""
        word = self.wait_word(now)
        if word is not None:
            raise BadAct(word)
        return self._do(("wait", now))

    def _do(self, act):
        """Does an act that can be done, and returns the number of acts."""
        self._acts.append(act)
        self._forget()
        return len(self._acts)

    def undo(self):
        """Takes the last act back, and returns the number of acts that are left."""
        if not self._acts:
            raise NothingDone()
        self._acts.pop()
        self._forget()
        return len(self._acts)

    def window(self, name):
        """The triple of the least and the greatest number that an open point can get, and of its possible rests."""
        if not self._network.has_name(name):
            raise UnknownName(name)
        if name not in self.open_names():
            raise NoWay()
        least, greatest = self._ends(name)
        return (least, greatest, list(self._possible(name)))

    def latest_now(self):
        """The latest now, or None for no bound."""
        lasts = [self._ends(name)[1] for name in self.open_names()]
        return min([last for last in lasts if last is not None], default=None)

    def due(self):
        """The list of the names of all points that must be fixed ahead of waiting for longer."""
        last = self.latest_now()
        if last is None:
            return []
        return [name for name in self.open_names() if self._ends(name)[1] == last]

    def course(self):
        """A timetable with the fixed numbers, and with at least now at all other points."""
        return filled(self._network, self._least_numbers())

    def twin(self):
        """An equal dispatcher, with the same past, that goes its own way."""
        other = Dispatcher(self._network)
        other._acts.extend(self._acts)
        return other

    def __eq__(self, other):
        return isinstance(other, Dispatcher) and self._network == other._network and self._acts == other._acts

    def __ne__(self, other):
        return not self == other
