"""Sessions of a store: what they put, drop and read, and how that is committed."""

from roundticks.compiling import barred, compiled
from roundticks.errors import BadAct, BadProgram, Conflict
from roundticks.flat import needed
from roundticks.programs import Program, with_module, without_module


def with_change(modules, name, module):
    """A list of modules in which one was put, or dropped if it is None, whether this is a program or not."""
    if module is None:
        return [own for own in modules if own[0] != name]
    if any([own[0] == name for own in modules]):
        return [module if own[0] == name else own for own in modules]
    return modules + [module]


class Session:
    """A program of its own, begun at a version of a store, with what was changed and read since then."""

    def __init__(self, store):
        self._store = store
        self._begin()

    def _begin(self):
        """Begins at the store's present version, with nothing changed or read."""
        self._base = self._store.version()
        self._program = self._store.program()
        # Pairs of a name and the module that was put, or None if it was dropped, in order.
        self._changes = []
        self._read = {}

    def store(self):
        """The store."""
        return self._store

    def base(self):
        """The version at which the session began."""
        return self._base

    def program(self):
        """The session's program."""
        return self._program

    def _changed_names(self):
        """The dict of the names of the modules that were changed."""
        return {name: True for name, _ in self._changes}

    def changed(self):
        """The ascending list of the names of the modules that were changed."""
        return sorted(list(self._changed_names()))

    def read(self):
        """The ascending list of the names of the modules that were read."""
        return sorted(list(self._read))

    def put(self, module):
        """Puts a module in the place of the one with its name, or behind all others."""
        self._program = with_module(self._program, module)
        self._changes.append((module[0], module))

    def drop(self, name):
        """Drops a module."""
        self._program = without_module(self._program, name)
        self._changes.append((name, None))

    def _note(self, name):
        """Notes that a module was read, and with it all that it uses."""
        for own in needed(self._program, name):
            self._read[own] = True

    def module(self, name):
        """The module with a name, which is read."""
        module = self._program.module(name)
        self._note(name)
        return module

    def table(self, name):
        """The table of a module, which is read, or None if it is barred."""
        table = compiled(self._program, name)
        self._note(name)
        return table

    def _check_conflict(self):
        """Refuses a commit if what was changed or read was put or dropped by others since the session began."""
        changed = self._changed_names()
        for name in self._store.changed_since(self._base):
            if name in changed or name in self._read:
                raise Conflict(name)

    def _merged(self):
        """The store's present program with the session's changes, which must be one without barred modules."""
        modules = self._store.program().modules()
        for name, module in self._changes:
            modules = with_change(modules, name, module)
        program = Program(modules)
        if self._changes and barred(program):
            raise BadAct("barred")
        return program

    def commit(self):
        """Does the session's changes in the store, begins anew, and returns the version."""
        self._check_conflict()
        program = self._merged()
        if self._changes:
            self._store.add_version(program, self.changed())
        return self.fresh()

    def commit_word(self):
        """The word with which a commit is refused now, or None."""
        try:
            self._check_conflict()
            self._merged()
        except Conflict:
            return "conflict"
        except BadProgram:
            return "program"
        except BadAct as refused:
            return refused.word
        return None

    def fresh(self):
        """Begins anew at the store's present version, and returns it."""
        self._begin()
        return self._base
