"""Texts of networks, written and read."""

from roundticks.lexemes import Reader
from roundticks.networks import Network


def point_line(word, point):
    """The written line of a point, begun with a word of the form."""
    name, first, step = point
    return f"{word} {name} at {first} every {step};\n"


def rule_line(rule):
    """The written line of a rule."""
    start, end, least = rule
    return f"rule {start} {end} {least};\n"


def network_text(network):
    """The written text of a network."""
    points = [point_line("point", point) for point in network.points()]
    rules = [rule_line(rule) for rule in network.rules()]
    return "".join(["network {\n", *points, *rules, "}\n"])


def take_point(reader, word):
    """Goes behind a point, begun with a word of the form, and returns it."""
    reader.take(word)
    name = reader.take_name()
    reader.take("at")
    first = reader.take_place()
    reader.take("every")
    step = reader.take_count()
    reader.take(";")
    return (name, first, step)


def take_rule(reader):
    """Goes behind a rule and returns it."""
    reader.take("rule")
    start = reader.take_name()
    end = reader.take_name()
    least = reader.take_place()
    reader.take(";")
    return (start, end, least)


def read_network(text):
    """The network of a text."""
    reader = Reader(text)
    reader.take("network")
    reader.take("{")
    points = []
    while reader.sees("point"):
        points.append(take_point(reader, "point"))
    rules = []
    while reader.sees("rule"):
        rules.append(take_rule(reader))
    reader.take("}")
    reader.finish()
    return Network(points, rules)
