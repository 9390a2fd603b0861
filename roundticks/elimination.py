"""What is left of networks between doors, when all other points have gone out."""

from roundticks.counts import counts_of, later_row, number_of, star_row, then_row
from roundticks.errors import Gain
from roundticks.leading import rule_lead
from roundticks.leads import Lead
from roundticks.numbers import rests
from roundticks.rising import find_ring
from roundticks.tables import Table


class Web:
    """Points and the leads between them, as rows of counts, while the points go out one by one."""

    def __init__(self, points, period):
        self._points = {point[0]: point for point in points}
        self._period = period
        self._rows = {name: {name: list(range(period // step))} for name, _, step in points}
        self._starts = {name: {name: True} for name in self._rows}

    def clock(self, name):
        """The clock of a point."""
        return self._points[name][1:]

    def period(self):
        """The period of all leads."""
        return self._period

    def put(self, p, q, lead):
        """Makes the lead from p to q at least this one."""
        self._put_row(p, q, counts_of(lead))

    def _put_row(self, p, q, row):
        """Makes the row from p to q at least this one."""
        rows = self._rows[p]
        rows[q] = later_row(rows[q], row) if q in rows else row
        self._starts[q][p] = True

    def lead(self, p, q):
        """The lead from p to q, which there is."""
        end = self.clock(q)
        row = [number_of(end, count) for count in self._rows[p][q]]
        return Lead(self.clock(p), end, self._period, row)

    def work(self, name):
        """How many ways there are through a point."""
        return len(self._starts[name]) * len(self._rows[name])

    def let_out(self, name, is_kept):
        """Lets a point go out, which is forgotten unless it is kept; returns False if its lead to itself gains."""
        star, _ = star_row(self._rows[name][name])
        if star is None:
            return False
        ends = dict(self._rows[name])
        starts = {p: self._rows[p][name] for p in self._starts[name]}
        if not is_kept:
            self._forget(name)
            del ends[name]
            del starts[name]
        for p, row in starts.items():
            through = then_row(row, star, len(star))
            for q, onward in ends.items():
                self._put_row(p, q, then_row(through, onward, self._period // self._points[q][2]))
        return True

    def _forget(self, name):
        """Forgets all leads from and to a point."""
        for q in list(self._rows[name]):
            del self._starts[q][name]
        for p in list(self._starts[name]):
            del self._rows[p][name]
        del self._rows[name]
        del self._starts[name]

    def let_hidden_out(self, doors):
        """Lets all points but the doors go out; returns False if a lead to itself gains."""
        hidden = [name for name in self._rows if name not in doors]
        while hidden:
            # Whatever the sequence, the leads are the same; points with few ways through them leave few new leads.
            name = min(hidden, key=self.work)
            hidden.remove(name)
            if not self.let_out(name, False):
                return False
        return True

    def closed_table(self, doors):
        """The table between doors, when all points have gone out; None if a lead to itself gains."""
        if not self.let_hidden_out(doors):
            return None
        for name in doors:
            if not self.let_out(name, True):
                return None
        return self.table(doors)

    def table(self, doors):
        """The table of the leads between doors."""
        leads = [(p, q, self.lead(p, q)) for p in doors for q in doors if q in self._rows[p]]
        return Table([self._points[name] for name in doors], self._period, leads)


def web_of(network):
    """The points of a network and the leads of its rules."""
    web = Web(network.points(), network.period())
    for start, end, least in network.rules():
        web.put(start, end, rule_lead(web.clock(start), web.clock(end), web.period(), least))
    return web


def table_of(network, doors):
    """The table of a network between doors, or None if it has no timetable."""
    return web_of(network).closed_table(doors)


def table_by(network, doors, sequence):
    """The table of a network between doors, as all points go out in a sequence; None if it has no timetable."""
    web = web_of(network)
    for name in sequence:
        if not web.let_out(name, name in doors):
            return None
    return web.table(doors)


def table_between(network, p, q):
    """The table of a network between two points, which may be the same; None if it has no timetable."""
    return table_of(network, [p] if p == q else [p, q])


def lead_from(network, p, q):
    """The lead from a point to a point of a network, or None."""
    table = table_between(network, p, q)
    if table is None:
        raise Gain(find_ring(network))
    return table.lead(p, q)


def possible_numbers(network, name):
    """The ascending list of the possible numbers of a point from 0 to period - 1."""
    table = table_of(network, [name])
    if table is None:
        return []
    lead = table.lead(name, name)
    return [v for v in rests(lead.start(), lead.period()) if lead.at(v) == v]
