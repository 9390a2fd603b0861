"""Tables: doors, and the leads between them."""

from math import lcm

from roundticks.errors import BadTable, UnknownName
from roundticks.leading import and_then, staying_lead, with_period
from roundticks.leads import Lead
from roundticks.networks import is_name_of, wrong_in_points
from roundticks.numbers import are_alike_clocks, is_period


def fits(value, start, end, period):
    """Whether a value is a lead between clocks alike to these, with this period."""
    if not isinstance(value, Lead) or value.period() != period:
        return False
    return are_alike_clocks(value.start(), start) and are_alike_clocks(value.end(), end)


def wrong_in_member(member, clocks, period, earlier):
    """The place of the first wrong part within a member of the leads, as the end of its path, or None."""
    if not isinstance(member, tuple) or len(member) != 3:
        return ()
    p, q, lead = member
    if not is_name_of(p, clocks):
        return (0,)
    if not is_name_of(q, clocks):
        return (1,)
    if not fits(lead, clocks[p], clocks[q], period):
        return (2,)
    if (p, q) in earlier:
        return ()
    return None


def wrong_in_leads(leads, clocks, period):
    """The path of the first wrong part of what should be the leads of a table, or None."""
    if not isinstance(leads, (list, tuple)):
        return (2,)
    earlier = {}
    for k, member in enumerate(leads):
        wrong = wrong_in_member(member, clocks, period, earlier)
        if wrong is not None:
            return (2, k) + wrong
        earlier[(member[0], member[1])] = True
    for k, name in enumerate(clocks):
        if (name, name) not in earlier:
            return (3, k)
    return None


class Table:
    """Doors, a period, and leads from doors to doors; it never changes."""

    def __init__(self, doors, period, leads):
        wrong = wrong_in_points(doors)
        if wrong is not None:
            raise BadTable(wrong)
        clocks = {name: (first, step) for name, first, step in doors}
        if not is_period(period, [door[2] for door in doors]):
            raise BadTable((1,))
        wrong = wrong_in_leads(leads, clocks, period)
        if wrong is not None:
            raise BadTable(wrong)
        self._doors = tuple(doors)
        self._clocks = clocks
        self._period = period
        self._leads = {(p, q): lead for p, q, lead in leads}

    def doors(self):
        """The list of the points that are doors."""
        return list(self._doors)

    def period(self):
        """The period."""
        return self._period

    def lead(self, p, q):
        """The lead from one door to another one, or None."""
        for name in (p, q):
            if not is_name_of(name, self._clocks):
                raise UnknownName(name)
        return self._leads.get((p, q))

    def is_closed(self):
        """Whether the leads of doors to themselves never go back, and all that lead on are leads, too."""
        for name, clock in self._clocks.items():
            if not is_at_least(self._leads[(name, name)], staying_lead(clock, self._period)):
                return False
        for p, q in self._leads:
            for r in self._clocks:
                if not self._is_closed_at(p, q, r):
                    return False
        return True

    def _is_closed_at(self, p, q, r):
        """Whether what leads from p to q and on to r is a lead from p to r, too; there is one from p to q."""
        onward = self._leads.get((q, r))
        if onward is None:
            return True
        return is_at_least(self._leads.get((p, r)), and_then(self._leads[(p, q)], onward))

    def __eq__(self, other):
        if not isinstance(other, Table):
            return False
        return (self._doors == other._doors and self._period == other._period
                and self._leads == other._leads)

    def __ne__(self, other):
        return not self == other


def is_at_least(lead, other):
    """Whether there is a lead, and its values are at least those of another one of its kind."""
    return lead is not None and all([x >= y for x, y in zip(lead.row(), other.row())])


def have_alike_doors(one, other):
    """Whether two tables have the same names of doors in the same order, with alike clocks."""
    ours, theirs = one.doors(), other.doors()
    if [door[0] for door in ours] != [door[0] for door in theirs]:
        return False
    return all([are_alike_clocks(x[1:], y[1:]) for x, y in zip(ours, theirs)])


def are_alike_leads(one, other, period):
    """Whether there are no two leads, or two with the same values; the period is a multiple of both periods."""
    if one is None or other is None:
        return one is None and other is None
    return with_period(one, period // one.period()) == with_period(other, period // other.period())


def are_alike_tables(one, other):
    """Whether two tables are alike."""
    if not have_alike_doors(one, other):
        return False
    period = lcm(one.period(), other.period())
    names = [door[0] for door in one.doors()]
    return all([are_alike_leads(one.lead(p, q), other.lead(p, q), period) for p in names for q in names])
