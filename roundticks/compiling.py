"""The tables of modules, found without their flat networks."""

from math import lcm

from roundticks.chaining import chained
from roundticks.elimination import Web
from roundticks.flat import needed
from roundticks.leading import rule_lead, with_period
from roundticks.numbers import up
from roundticks.tables import Table


def part_between(table, names):
    """The table of some doors of a table, in the order of the names."""
    doors = {door[0]: door for door in table.doors()}
    leads = [(p, q, table.lead(p, q)) for p in names for q in names]
    return Table([doors[name] for name in names], table.period(), [member for member in leads if member[2] is not None])


def chain_of(table, item):
    """The table of the copies that a chain item tells, or None; so is the table of the module if it is barred."""
    many, _, into, out = item[1:5]
    return None if table is None else chained(part_between(table, [into, out]), many)


def parts_of(items, tables):
    """For each use and chain its table, or None if it is barred, and by which points its doors stand."""
    parts = []
    for item in items:
        if item[0] == "use":
            parts.append((tables[item[1]], dict(item[2])))
        if item[0] == "chain":
            parts.append((chain_of(tables[item[2]], item), {item[3]: item[5], item[4]: item[6]}))
    return parts


def put_part(web, table, points):
    """Makes a web have the leads of a table between the points that its doors are."""
    times = web.period() // table.period()
    for p in points:
        for q in points:
            lead = table.lead(p, q)
            if lead is not None:
                web.put(points[p], points[q], with_period(lead, times))


def web_of_module(program, name, tables):
    """The web of a module's own points, or None if it uses a barred one; tables has those of the earlier modules."""
    points = program.points(name)
    items = program.module(name)[1]
    parts = parts_of(items, tables)
    period = 1
    for point in points:
        period = lcm(period, point[2])
    for table, _ in parts:
        if table is None:
            return None
        period = lcm(period, table.period())
    web = Web(points, period)
    for item in items:
        if item[0] == "rule":
            _, start, end, least = item
            web.put(start, end, rule_lead(web.clock(start), web.clock(end), period, least))
    for table, joined in parts:
        put_part(web, table, joined)
    return web


def table_between(program, name, doors, tables):
    """The table of a module between some of its own points, or None if it is barred."""
    web = web_of_module(program, name, tables)
    return None if web is None else web.closed_table(doors)


def own_table(program, name, tables):
    """The table of a module between its doors, or None if it is barred."""
    return table_between(program, name, [door[0] for door in program.doors(name)], tables)


def tables_below(program, name):
    """The tables of a module and of all that it uses, by their names; None for the barred ones."""
    tables = {}
    for own in needed(program, name):
        tables[own] = own_table(program, own, tables)
    return tables


def compiled(program, name):
    """The table of a module between its doors, or None if it is barred."""
    return tables_below(program, name)[name]


def barred(program):
    """The list of the names of all barred modules."""
    tables = {}
    for own in program.names():
        tables[own] = own_table(program, own, tables)
    return [own for own, table in tables.items() if table is None]


def forced_in_module(program, name, floors):
    """The list of the numbers that floors of all own points of a module force there; None if it is barred."""
    points = program.points(name)
    tables = tables_below(program, name)
    table = table_between(program, name, [point[0] for point in points], tables)
    if table is None:
        return None
    begun = {point[0]: up(point[1:], floor) for point, floor in zip(points, floors)}
    return [forced_at(table, begun, q) for q in begun]


def forced_at(table, begun, q):
    """The number that those of all doors of a table, also itself, force at a door."""
    leads = [(table.lead(p, q), number) for p, number in begun.items()]
    return max([lead.at(number) for lead, number in leads if lead is not None])
