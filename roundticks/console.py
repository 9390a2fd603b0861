"""A console: lines that are done for a store and one session of it, and their answers."""

from roundticks.compiling import barred, forced_in_module
from roundticks.errors import BadAct, BadProgram, BadText, Conflict, NoWay, TooGreat, UnknownName
from roundticks.flat import check_size
from roundticks.lexemes import Reader
from roundticks.numbers import is_on
from roundticks.programtexts import module_text, take_module
from roundticks.sessions import Session

# What stands behind the first word of a line.
FORMS = {
    "put": ("module",),
    "drop": ("name",),
    "commit": (),
    "back": ("number",),
    "fresh": (),
    "mark": ("name",),
    "versions": (),
    "at": ("name",),
    "modules": (),
    "barred": (),
    "show": ("name",),
    "table": ("name",),
    "lead": ("name", "name", "name", "place"),
    "early": ("name", "places"),
}


def take_part(reader, sort):
    """Goes behind a part of a line, and returns it."""
    if sort == "module":
        return take_module(reader)
    if sort == "name":
        return reader.take_name()
    if sort == "number":
        return reader.take_number()
    if sort == "place":
        return reader.take_place()
    places = []
    while reader.has_more():
        places.append(reader.take_place())
    return places


def read_line(line):
    """The pair of the first word of a line and of the list of what stands behind it."""
    reader = Reader(line)
    word = reader.take_one_of(list(FORMS))
    parts = [take_part(reader, sort) for sort in FORMS[word]]
    reader.finish()
    return (word, parts)


def do_put(session, module):
    """Puts a module."""
    session.put(module)
    return str(len(session.program().names()))


def do_drop(session, name):
    """Drops a module."""
    session.drop(name)
    return str(len(session.program().names()))


def do_commit(session):
    """Commits the session."""
    return str(session.commit())


def do_back(session, version):
    """Makes the store go back to a version."""
    return str(session.store().go_back(version))


def do_fresh(session):
    """Begins the session anew."""
    return str(session.fresh())


def do_mark(session, name):
    """Marks the store's present version."""
    session.store().mark(name)
    return str(len(session.store().marks()))


def tell_version(session):
    """The store's version."""
    return str(session.store().version())


def tell_mark(session, name):
    """The version of a mark."""
    return str(session.store().marked(name))


def tell_modules(session):
    """The names of the session's modules."""
    return " ".join(session.program().names())


def tell_barred(session):
    """The names of the barred ones of the session's modules."""
    return " ".join(barred(session.program()))


def tell_module(session, name):
    """The text of a module."""
    return module_text(session.module(name))


def tell_row(table, p, q):
    """Two doors and the row of the lead between them."""
    lead = table.lead(p, q)
    told = ["none"] if lead is None else [str(value) for value in lead.row()]
    return " ".join([p, q] + told)


def tell_table(session, name):
    """The rows of all leads of a module."""
    table = session.table(name)
    if table is None:
        return "barred"
    doors = [door[0] for door in table.doors()]
    return "; ".join([tell_row(table, p, q) for p in doors for q in doors])


def tell_lead(session, name, p, q, number):
    """The value of a lead of a module for a number."""
    clocks = {door[0]: door[1:] for door in session.program().doors(name)}
    for door in (p, q):
        if door not in clocks:
            raise UnknownName(door)
    if not is_on(clocks[p], number):
        raise NoWay()
    table = session.table(name)
    if table is None:
        return "barred"
    lead = table.lead(p, q)
    return "none" if lead is None else str(lead.at(number))


def tell_early(session, name, floors):
    """What floors of all own points of a module force there."""
    if len(floors) != len(session.program().points(name)):
        raise NoWay()
    check_size(session.program(), name)
    numbers = forced_in_module(session.program(), name, floors)
    session.module(name)
    return "barred" if numbers is None else " ".join([str(number) for number in numbers])


ACTIONS = {
    "put": do_put,
    "drop": do_drop,
    "commit": do_commit,
    "back": do_back,
    "fresh": do_fresh,
    "mark": do_mark,
    "versions": tell_version,
    "at": tell_mark,
    "modules": tell_modules,
    "barred": tell_barred,
    "show": tell_module,
    "table": tell_table,
    "lead": tell_lead,
    "early": tell_early,
}


class Console:
    """Lines for a store and a session of it."""

    def __init__(self, store):
        self._session = Session(store)

    def session(self):
        """The session."""
        return self._session

    def store(self):
        """The store."""
        return self._session.store()

    def _done(self, line):
        """Does what a line says and returns the answer."""
        word, parts = read_line(line)
        action = ACTIONS[word]
        return action(self._session, *parts)

    def say(self, line):
        """Does what a line says and returns the answer, also if the line is refused."""
        try:
            return self._done(line)
        except BadText as wrong:
            return f"no BadText {wrong.place}"
        except BadAct as refused:
            return f"no BadAct {refused.word}"
        except Conflict as met:
            return f"no Conflict {met.name}"
        except BadProgram:
            return "no BadProgram"
        except NoWay:
            return "no NoWay"
        except TooGreat:
            return "no TooGreat"
        except UnknownName:
            return "no UnknownName"
