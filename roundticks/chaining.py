"""Tables glued at a door, and chains of very many copies of one."""

from roundticks.counts import counts_of, later_row, number_of, star_row, then_row
from roundticks.errors import Unlike
from roundticks.leads import Lead
from roundticks.numbers import are_alike_clocks
from roundticks.tables import Table

# A LINK is a tuple of four rows of counts, each of which may be None: the leads of a table
# with the doors p and q from p to p, from p to q, from q to p, and from q to q.


def check_doors(tables):
    """Refuses tables of which two doors have clocks that are not alike."""
    clocks = [door[1:] for table in tables for door in table.doors()]
    for clock in clocks:
        if not are_alike_clocks(clock, clocks[0]):
            raise Unlike()


def link_of(table):
    """The link of a table with two doors."""
    names = [door[0] for door in table.doors()]
    leads = [table.lead(p, q) for p in names for q in names]
    return tuple([None if lead is None else counts_of(lead) for lead in leads])


def table_of_link(table, link):
    """The table with the doors and the period of a table, and the leads of a link."""
    doors = table.doors()
    leads = []
    for k, row in enumerate(link):
        start, end = doors[k // 2], doors[k % 2]
        if row is not None:
            numbers = [number_of(end[1:], count) for count in row]
            leads.append((start[0], end[0], Lead(start[1:], end[1:], table.period(), numbers)))
    return Table(doors, table.period(), leads)


def counts_in_period(table):
    """How many counts the period of a table has by the clock of its doors."""
    return table.period() // table.doors()[0][2]


def onward(one, other):
    """The row of one lead and then other, or None if one of the two is none."""
    return None if one is None or other is None else then_row(one, other, len(one))


def later(one, other):
    """The later one of two rows, of which the other one may be none."""
    return one if other is None else later_row(one, other)


def glued_links(one, other):
    """The link of two glued ones, or None if there is none; the first one may be None, too."""
    if one is None:
        return None
    here, out, back, middle = one
    star, _ = star_row(later(middle, other[0]))
    if star is None:
        return None
    _, further, home, end = other
    there, returning = onward(out, star), onward(home, star)
    return (later(here, onward(there, back)), onward(there, further),
            onward(returning, back), later(end, onward(returning, further)))


def glued(one, other):
    """The table of two closed tables, the second door of one being the first door of other; None if there is none."""
    check_doors([one, other])
    if one.period() != other.period():
        raise Unlike()
    link = glued_links(link_of(one), link_of(other))
    return None if link is None else table_of_link(one, link)


def chained(table, many):
    """The table of so many copies of one, or None if there is none."""
    check_doors([table])
    single = link_of(table)
    link = single
    # The digits of many by twos, from the first one on, tell when to double and when to add one copy.
    for place in reversed(range(many.bit_length() - 1)):
        link = glued_links(link, link)
        if (many >> place) & 1 == 1:
            link = glued_links(link, single)
    return None if link is None else table_of_link(table, link)


def longest_chain(table):
    """The greatest number of copies that have a timetable, or None if each number has."""
    check_doors([table])
    counts = counts_in_period(table)
    # Number k is the chain of 2 ** k copies.
    doubled = [link_of(table)]
    copies = 1
    while doubled[-1] is not None:
        if copies > counts * counts:
            return None
        doubled.append(glued_links(doubled[-1], doubled[-1]))
        copies = 2 * copies
    found = None
    copies = 0
    for k in reversed(range(len(doubled) - 1)):
        longer = doubled[k] if found is None else glued_links(found, doubled[k])
        if longer is not None:
            found = longer
            copies += 1 << k
    return copies
