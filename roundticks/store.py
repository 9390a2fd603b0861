"""A store of modules, none of which ever loses its timetables, with all its versions."""

from roundticks.compiling import compiled
from roundticks.errors import NoWay, UnknownName
from roundticks.networks import is_name_of
from roundticks.programs import Program
from roundticks.words import is_number, is_word


def unlike_modules(one, other):
    """The names of all modules that only one of two programs has, or that are unequal."""
    ours, theirs = dict(one.modules()), dict(other.modules())
    names = list(ours) + [name for name in theirs if name not in ours]
    return [name for name in names if name not in ours or name not in theirs or ours[name] != theirs[name]]


class Store:
    """The programs of all versions, each with the names of what was put or dropped for it, and marks."""

    def __init__(self):
        self._programs = [Program([])]
        self._changed = [()]
        self._marks = {}

    def program(self):
        """The present program."""
        return self._programs[-1]

    def version(self):
        """The number of the present version."""
        return len(self._programs) - 1

    def _check_version(self, version):
        """Refuses what is the number of no version."""
        if not is_number(version) or version > self.version():
            raise NoWay()

    def program_at(self, version):
        """The program of a version."""
        self._check_version(version)
        return self._programs[version]

    def table(self, name):
        """The table of a module of the present program."""
        return compiled(self.program(), name)

    def add_version(self, program, names):
        """Makes a program without barred modules the next version, for which these modules were put or dropped."""
        self._programs.append(program)
        self._changed.append(tuple(names))
        return self.version()

    def go_back(self, version):
        """Makes the program of a version that of the next one, and returns the number of the latter."""
        self._check_version(version)
        program = self._programs[version]
        return self.add_version(program, unlike_modules(self.program(), program))

    def changed_since(self, version):
        """The ascending list of the names of all modules that were put or dropped behind a version."""
        self._check_version(version)
        found = {name: True for names in self._changed[version + 1:] for name in names}
        return sorted(list(found))

    def mark(self, name):
        """Marks the present version."""
        if not is_word(name):
            raise UnknownName(name)
        self._marks[name] = self.version()

    def marks(self):
        """The list of the names of the marks, in the order in which they first were marked."""
        return list(self._marks)

    def marked(self, name):
        """The version of a mark."""
        if not is_name_of(name, self._marks):
            raise UnknownName(name)
        return self._marks[name]
