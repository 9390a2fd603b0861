"""Programs: lists of modules that use earlier ones."""

from roundticks.errors import BadProgram, UnknownName
from roundticks.items import clocks_of, doors_of, points_of, used_by_item, wrong_in_items
from roundticks.networks import is_name_of
from roundticks.words import is_word


def wrong_in_module(module, earlier):
    """The place of the first wrong part within a module, as the end of its path, or None."""
    if not isinstance(module, tuple) or len(module) != 2:
        return ()
    name, items = module
    if not is_word(name) or name in earlier:
        return (0,)
    if not isinstance(items, tuple):
        return (1,)
    wrong = wrong_in_items(items, earlier)
    return None if wrong is None else (1,) + wrong


def wrong_in_modules(modules):
    """The path of the first wrong part of what should be the modules of a program, or None."""
    if not isinstance(modules, (list, tuple)):
        return ()
    earlier = {}
    for m, module in enumerate(modules):
        wrong = wrong_in_module(module, earlier)
        if wrong is not None:
            return (m,) + wrong
        name, items = module
        earlier[name] = clocks_of(doors_of(items))
    return None


class Program:
    """A list of modules with different names, each of which uses only earlier ones; it never changes."""

    def __init__(self, modules):
        wrong = wrong_in_modules(modules)
        if wrong is not None:
            raise BadProgram(wrong)
        self._modules = tuple(modules)
        self._places = {module[0]: m for m, module in enumerate(modules)}

    def modules(self):
        """The list of the modules."""
        return list(self._modules)

    def names(self):
        """The list of the names of the modules."""
        return [module[0] for module in self._modules]

    def module(self, name):
        """The module with a name."""
        if not is_name_of(name, self._places):
            raise UnknownName(name)
        return self._modules[self._places[name]]

    def doors(self, name):
        """The list of the points of a module that are doors."""
        return doors_of(self.module(name)[1])

    def points(self, name):
        """The list of the points of a module."""
        return points_of(self.module(name)[1])

    def uses(self, name):
        """The list of the names of the modules that a module uses itself."""
        used = {used_by_item(item): True for item in self.module(name)[1]}
        return [own for own in self.names() if own in used]

    def used_by(self, name):
        """The list of the names of the modules that use a module, themselves or through others."""
        known = {self.module(name)[0]: True}
        users = []
        for own in self.names():
            if any([used in known for used in self.uses(own)]):
                known[own] = True
                users.append(own)
        return users

    def __eq__(self, other):
        return isinstance(other, Program) and self._modules == other._modules

    def __ne__(self, other):
        return not self == other


def has_name_of(module, program):
    """Whether a value is a tuple of two that begins with the name of a module of a program."""
    return isinstance(module, tuple) and len(module) == 2 and module[0] in program.names()


def with_module(program, module):
    """The program with a module in the place of the one with its name, or behind all others."""
    modules = program.modules()
    if has_name_of(module, program):
        modules[program.names().index(module[0])] = module
    else:
        modules.append(module)
    return Program(modules)


def without_module(program, name):
    """The program without a module."""
    gone = program.module(name)
    return Program([module for module in program.modules() if module[0] != gone[0]])
