"""Which networks can stand for each other, and what tells those apart that can not."""

from math import lcm

from roundticks.elimination import table_of
from roundticks.errors import Unlike
from roundticks.leading import with_period
from roundticks.networks import GREATEST_STEP
from roundticks.numbers import are_alike_clocks, rests, up
from roundticks.tables import are_alike_tables
from roundticks.words import is_integer, is_number


def is_common(one, other, name):
    """Whether two networks have a point with a name, with alike clocks."""
    return one.has_name(name) and other.has_name(name) and are_alike_clocks(one.clock(name), other.clock(name))


def both_tables(one, other, doors):
    """The pair of the tables of two networks between doors, None for a network without a timetable."""
    for name in doors:
        if not is_common(one, other, name):
            raise Unlike()
    return (table_of(one, doors), table_of(other, doors))


def can_exchange(one, other, doors):
    """Whether two networks can be exchanged."""
    ours, theirs = both_tables(one, other, doors)
    if ours is None or theirs is None:
        return ours is None and theirs is None
    return are_alike_tables(ours, theirs)


def surrounding(one, other, doors):
    """A surrounding paper for two networks and doors, or None."""
    tables = both_tables(one, other, doors)
    if tables[0] is None or tables[1] is None:
        return bare_paper(tables)
    for p in doors:
        for q in doors:
            paper = point_paper(tables, p, q)
            if paper is not None:
                return paper
    return None


def bare_paper(tables):
    """The paper that tells which network alone has a timetable, or None if none has."""
    for k in (0, 1):
        if tables[k] is not None:
            return ("bare", k)
    return None


def point_paper(tables, p, q):
    """The paper of one point between p and q at which two tables are not alike, or None if they are there."""
    leads = [table.lead(p, q) for table in tables]
    for k in (0, 1):
        if leads[k] is None:
            return None if leads[1 - k] is None else paper_without(tables, k, p, q)
    period = lcm(tables[0].period(), tables[1].period())
    rows = [with_period(lead, period // lead.period()).row() for lead in leads]
    for v, ours, theirs in zip(rests(leads[0].start(), period), rows[0], rows[1]):
        if ours != theirs:
            k = 0 if ours < theirs else 1
            return ("point", k, v, tables[1 - k].period(), p, q, min(ours, theirs) - v)
    return None


def paper_without(tables, k, p, q):
    """The paper for a network, number k, that has no lead from p to q, which the other one has."""
    lead = tables[1 - k].lead(p, q)
    v = rests(lead.start(), lead.period())[0]
    return ("point", k, v, lead.period(), p, q, lead.at(v) - v - 1)


def is_bare(value):
    """Whether a value is a paper of two members."""
    return len(value) == 2 and value[0] == "bare"


def is_point(value, doors):
    """Whether a value has the form of a paper of one point between doors."""
    if len(value) != 7 or value[0] != "point":
        return False
    _, _, v, step, p, q, c = value
    if not is_integer(v) or not is_integer(step) or not is_integer(c):
        return False
    return 1 <= step <= GREATEST_STEP and p in doors and q in doors


def goes_with(table, value):
    """Whether the surrounding of a paper of one point goes with the network that has a table, or None."""
    _, _, v, step, p, q, c = value
    if table is None:
        return False
    lead = table.lead(p, q)
    if lead is None:
        return True
    # With so many numbers of w it has each of its rests by the period of the table.
    tried = [v + j * step for j in range(table.period())]
    return any([lead.at(up(lead.start(), w)) <= w + c for w in tried])


def judge_surrounding(one, other, doors, value):
    """Whether a value is a surrounding paper for two networks and doors."""
    tables = both_tables(one, other, doors)
    if not isinstance(value, tuple) or len(value) < 2 or not is_number(value[1]) or value[1] > 1:
        return False
    if is_bare(value):
        goes = [table is not None for table in tables]
    elif is_point(value, doors):
        goes = [goes_with(table, value) for table in tables]
    else:
        return False
    return goes[value[1]] and not goes[1 - value[1]]
