"""Texts of programs, written and read."""

from roundticks.lexemes import Reader
from roundticks.networktexts import point_line, rule_line, take_point, take_rule
from roundticks.programs import Program


def block_text(head, lines):
    """The written text of a head and of lines in braces behind it."""
    return "".join([head, " {\n", *lines, "}\n"])


def item_text(item):
    """The written text of an item."""
    if item[0] == "rule":
        return rule_line(item[1:])
    if item[0] == "use":
        return block_text(f"use {item[1]}", [f"{door} is {point};\n" for door, point in item[2]])
    if item[0] == "chain":
        many, module, into, out, first, last = item[1:]
        return f"chain {many} of {module} from {into} to {out} as {first} to {last};\n"
    return point_line(item[0], item[1:])


def module_text(module):
    """The written text of a module."""
    name, items = module
    return block_text(f"module {name}", [item_text(item) for item in items])


def program_text(program):
    """The written text of a program."""
    return "".join([module_text(module) for module in program.modules()])


def take_name_behind(reader, word):
    """Goes behind a word of the form and a NAME, and returns the latter."""
    reader.take(word)
    return reader.take_name()


def take_use(reader):
    """Goes behind a use item and returns it."""
    module = take_name_behind(reader, "use")
    reader.take("{")
    joins = []
    while not reader.sees("}"):
        door = reader.take_name()
        joins.append((door, take_name_behind(reader, "is")))
        reader.take(";")
    reader.take("}")
    return ("use", module, tuple(joins))


def take_chain(reader):
    """Goes behind a chain item and returns it."""
    reader.take("chain")
    many = reader.take_count()
    members = [take_name_behind(reader, word) for word in ("of", "from", "to", "as", "to")]
    reader.take(";")
    return ("chain", many, *members)


def take_item(reader):
    """Goes behind an item and returns it."""
    for word in ("door", "point"):
        if reader.sees(word):
            return (word, *take_point(reader, word))
    if reader.sees("use"):
        return take_use(reader)
    if reader.sees("chain"):
        return take_chain(reader)
    return ("rule", *take_rule(reader))


def take_module(reader):
    """Goes behind a module and returns it."""
    name = take_name_behind(reader, "module")
    reader.take("{")
    items = []
    while not reader.sees("}"):
        items.append(take_item(reader))
    reader.take("}")
    return (name, tuple(items))


def read_program(text):
    """The program of a text."""
    reader = Reader(text)
    modules = []
    while reader.sees("module"):
        modules.append(take_module(reader))
    reader.finish()
    return Program(modules)
