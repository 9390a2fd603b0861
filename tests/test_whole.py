"""What the document promises of the whole program (S0.2, S0.3): each function and method, with some arguments of its own."""

import copy
import unittest

from roundticks.causes import cause_paper, judge_causes
from roundticks.chaining import chained, glued, longest_chain
from roundticks.compiling import barred, compiled
from roundticks.completing import can_complete, completed, door_numbers_fit, pinned, why_not
from roundticks.console import Console
from roundticks.dispatching import Dispatcher
from roundticks.distances import distances, distances_from, slack
from roundticks.elimination import lead_from, possible_numbers, table_by, table_of
from roundticks.errors import NameMissing, TickError
from roundticks.exchange import can_exchange, judge_surrounding, surrounding
from roundticks.flat import flat, flat_size
from roundticks.following import follows, greatest_least, kernel, needless
from roundticks.leading import and_then, back_of, jumps, later_lead, rule_lead, star_of, staying_lead, with_period
from roundticks.leads import Lead
from roundticks.lexemes import lexemes
from roundticks.networks import Network, have_like_points, part_of, with_least, with_points, with_rules, without_point, without_rule
from roundticks.networktexts import network_text, read_network
from roundticks.numbers import are_alike_clocks, down, is_on, up
from roundticks.programs import Program, with_module, without_module
from roundticks.programtexts import program_text, read_program
from roundticks.rising import earliest, find_ring, forced, has_timetable, latest
from roundticks.sessions import Session
from roundticks.store import Store
from roundticks.tables import Table, are_alike_tables
from roundticks.tellingback import module_back, told_back
from roundticks.timetables import earlier_of, judge_timetable, later_of, shifted
from roundticks.walks import judge_ring, led
from roundticks.words import is_integer, is_number, is_word
from tests.case import LEG, TRIP, Case, lists_in, sample, shape
from tests.test_interface import CLASSES, FUNCTIONS

PLAIN = (int, str, bool, tuple, list, type(None), Network, Lead, Table, Program, Dispatcher, Store, Session, Console)


def none():
    return with_least(sample(), 2, -2)


def other():
    return Network(sample().points(), [("a", "c", 3), ("c", "a", -6)])


def lead():
    return Lead((0, 1), (0, 1), 6, [0, 2, 2, 5, 5, 5])


def program():
    return Program([LEG, TRIP])


def table():
    return compiled(program(), "leg")


def dispatcher():
    found = Dispatcher(sample())
    found.wait(4)
    found.fix("c", 9)
    return found


def store():
    found = Store()
    session = Session(found)
    session.put(LEG)
    session.put(TRIP)
    session.commit()
    found.mark("one")
    found.go_back(0)
    found.go_back(1)
    return found


def session():
    found = Session(store())
    found.put(("m", ()))
    found.table("trip")
    return found


def ring():
    return ("a", 1, (0, 1, 2, 0, 1, 2))


# For each function some calls, made anew each time: lists where lists are expected.
CALLS = {
    is_word: lambda: [("a",), (["a"],)], is_integer: lambda: [(1,), ([1],)], is_number: lambda: [(0,), ({"a": []},)],
    have_like_points: lambda: [(sample(), other())], with_points: lambda: [(sample(), [("d", 0, 4)]), (sample(), [[]])],
    with_rules: lambda: [(sample(), [("a", "c", 3)]), (sample(), [["a", "c", 3]])], without_point: lambda: [(sample(), "b"), (sample(), ["b"])],
    without_rule: lambda: [(sample(), 1)], with_least: lambda: [(sample(), 1, 7)], part_of: lambda: [(sample(), ["c", "a"]), (sample(), ["c", "d"])],
    lexemes: lambda: [("a 12 ;",), ("!",)], network_text: lambda: [(sample(),)], read_network: lambda: [(network_text(sample()),), ("network",)],
    up: lambda: [((1, 3), 5)], down: lambda: [((1, 3), 5)], is_on: lambda: [((1, 3), 4), ((1, 3), [4])], are_alike_clocks: lambda: [((1, 3), (4, 3))],
    judge_timetable: lambda: [(sample(), [0, 5, 6]), (sample(), [0, 5, 9, []])], later_of: lambda: [(sample(), [0, 5, 6], [1, 3, 6])],
    earlier_of: lambda: [(sample(), [0, 5, 6], [1, 3, 6])], shifted: lambda: [(sample(), [0, 5, 6], 2)],
    led: lambda: [(sample(), "a", 0, [0, 1, 2]), (sample(), "a", 0, [1])], judge_ring: lambda: [(none(), ring()), (none(), list(ring()))],
    forced: lambda: [(sample(), [None, None, 8]), (none(), [0, 0, 0])], earliest: lambda: [(sample(), [0, 0, 0]), (none(), [0, 0, 0])],
    latest: lambda: [(sample(), [9, 9, 9]), (none(), [0, 0, 0])], find_ring: lambda: [(sample(),), (none(),)], has_timetable: lambda: [(sample(),), (none(),)],
    cause_paper: lambda: [(sample(), [0, None, 7]), (none(), [0, None, 0])],
    judge_causes: lambda: [(sample(), [0, None, None], cause_paper(sample(), [0, None, None])), (sample(), [0, 0, 0], [[]])],
    rule_lead: lambda: [((0, 1), (1, 2), 6, 2), ((0, 1), (1, 2), 5, 2)], staying_lead: lambda: [((0, 2), 6), ((0, 2), 5)],
    later_lead: lambda: [(lead(), lead()), (lead(), staying_lead((0, 1), 12))], and_then: lambda: [(lead(), lead()), (lead(), staying_lead((0, 2), 6))],
    star_of: lambda: [(lead(),), (Lead((0, 1), (0, 1), 6, [1, 2, 3, 4, 5, 6]),)], back_of: lambda: [(lead(),)], jumps: lambda: [(lead(),)], with_period: lambda: [(lead(), 3)],
    are_alike_tables: lambda: [(table(), table())], table_of: lambda: [(sample(), ["a", "c"]), (none(), ["a"])],
    table_by: lambda: [(sample(), ["a", "c"], ["b", "c", "a"])], lead_from: lambda: [(sample(), "a", "c"), (none(), "a", "c")], possible_numbers: lambda: [(sample(), "b")],
    can_complete: lambda: [(sample(), ["a", "c"], [4, 9])], completed: lambda: [(sample(), ["a", "c"], [4, 9])],
    why_not: lambda: [(sample(), ["a", "c"], [2, 9]), (none(), ["a"], [0])], pinned: lambda: [(sample(), ["a", "c"], [4, 9])], door_numbers_fit: lambda: [(table(), [0, 2])],
    with_module: lambda: [(program(), ("m", ())), (program(), ["m", ()])], without_module: lambda: [(program(), "trip"), (program(), "leg"), (program(), ["leg"])],
    program_text: lambda: [(program(),)], read_program: lambda: [(program_text(program()),), ("module",)], flat: lambda: [(program(), "trip"), (program(), {})],
    flat_size: lambda: [(program(), "trip"), (program(), [])], compiled: lambda: [(program(), "trip"), (program(), [])], barred: lambda: [(program(),)],
    glued: lambda: [(table(), table())], chained: lambda: [(table(), 10 ** 18)], longest_chain: lambda: [(table(),)], told_back: lambda: [(table(),)],
    module_back: lambda: [(table(), "m")], can_exchange: lambda: [(sample(), other(), ["a", "c"]), (sample(), other(), ["d"])],
    surrounding: lambda: [(sample(), other(), ["a", "c"]), (none(), other(), ["a"])],
    judge_surrounding: lambda: [(sample(), other(), ["a", "c"], ("point", 1, 0, 6, "a", "c", 3)), (sample(), other(), ["a"], ["bare", [0]])],
    follows: lambda: [(sample(), ("a", "c", 3))], greatest_least: lambda: [(sample(), "a", "c"), (none(), "a", "c")], needless: lambda: [(with_rules(sample(), sample().rules()),)],
    kernel: lambda: [(with_rules(sample(), sample().rules()),)], distances: lambda: [(sample(), "a", "c"), (none(), "a", "c")],
    distances_from: lambda: [(sample(), "a", 4, "c"), (sample(), "c", 4, "a")], slack: lambda: [(sample(), 2), (none(), 2)],
}
# For each method of a class the object and some arguments, made anew each time.
METHODS = {
    Network: (sample, {"points": [()], "rules": [()], "names": [()], "has_name": [("a",), (["a"],)], "clock": [("b",), (["b"],)], "index": [("b",), ({},)], "period": [()], "__eq__": [(sample(),), ([],)]}),
    Lead: (lead, {"start": [()], "end": [()], "period": [()], "row": [()], "at": [(7,), ([7],)], "__eq__": [(lead(),), ([],)]}),
    Table: (table, {"doors": [()], "period": [()], "lead": [("p", "q"), ("p", [])], "is_closed": [()], "__eq__": [(table(),), ([],)]}),
    Program: (program, {"modules": [()], "names": [()], "module": [("leg",), ([],)], "doors": [("leg",), ([],)], "points": [("leg",), ([],)], "uses": [("trip",), ([],)],
                        "used_by": [("leg",), ([],)], "__eq__": [(program(),), ([],)]}),
    Dispatcher: (dispatcher, {"network": [()], "now": [()], "fixed": [()], "open_names": [()], "fix": [("a", 5), ("a", 9), (["a"], [5])], "wait": [(5,), (6,), ([5],)],
                              "fix_word": [("a", 5), ("b", [5])], "wait_word": [(5,), ({},)], "window": [("a",), ("c",), ([],)], "latest_now": [()], "due": [()], "undo": [()],
                              "acts": [()], "course": [()], "twin": [()], "__eq__": [(dispatcher(),), ([],)]}),
    Store: (store, {"program": [()], "version": [()], "program_at": [(1,), ([1],)], "table": [("leg",), ([],)], "go_back": [(0,), ([],)], "mark": [("two",), ([],)], "marks": [()],
                    "marked": [("one",), ([],)], "changed_since": [(1,), ([],)]}),
    Session: (session, {"store": [()], "base": [()], "program": [()], "changed": [()], "read": [()], "put": [(("n", ()),), (["n", ()],)], "drop": [("m",), ("leg",), ([],)],
                        "module": [("leg",), ([],)], "table": [("leg",), ([],)], "commit": [()], "commit_word": [()], "fresh": [()]}),
    Console: (lambda: Console(store()), {"session": [()], "store": [()], "say": [("table leg",), ("put module m { }",), ("lead leg p q",), ("drop leg",)]}),
}


def deep_shape(value):
    """The shape of a value, also of objects that change."""
    if isinstance(value, Dispatcher):
        return ("dispatcher", shape(value.network()), shape(value.acts()))
    if isinstance(value, Store):
        marks = [(name, value.marked(name)) for name in value.marks()]
        changed = [value.changed_since(k) for k in range(value.version() + 1)]
        return ("store", shape([value.program_at(k) for k in range(value.version() + 1)]), shape(marks), shape(changed))
    if isinstance(value, Session):
        return ("session", deep_shape(value.store()), shape((value.base(), value.program(), value.changed(), value.read())))
    if isinstance(value, Console):
        return ("console", deep_shape(value.session()))
    return shape(value)


def outcome(function, arguments):
    """What a call returns, or the class of the error that it raises with its attributes; and the value itself."""
    try:
        value = function(*arguments)
    except (TickError, NameMissing) as error:
        return ("error", type(error), shape(sorted(vars(error).items()))), None
    return ("value", deep_shape(value)), value


def as_tuples(value):
    """A tuple in the place of a list."""
    return tuple(value) if isinstance(value, list) else value


def is_plain(value):
    """Whether a value is of plain classes and those of the package alone, all the way down."""
    if type(value) not in PLAIN:
        return False
    return all(is_plain(member) for member in value) if isinstance(value, (tuple, list)) else True


class Whole(Case):
    def test_each_function_and_method_is_here(self):
        told = {(function.__module__.split(".")[1], function.__name__) for function in CALLS}
        self.assertEqual(told, {(file, name) for file, functions in FUNCTIONS.items() for name in functions})
        methods = {(kind.__name__, name) for kind, (_, calls) in METHODS.items() for name in calls}
        self.assertEqual(methods, {(kind, name) for classes in CLASSES.values() for kind, names in classes.items() for name in names if name != "__init__"})

    def test_functions(self):
        for function, calls in CALLS.items():
            for k, arguments in enumerate(calls()):
                before = shape(arguments)
                expected, value = outcome(function, arguments)
                self.assertEqual(shape(arguments), before, function)
                self.assertTrue(is_plain(value), function)
                # With the same arguments, with such as were made anew, and with copies.
                for again in (arguments, calls()[k], copy.deepcopy(arguments)):
                    self.assertEqual(outcome(function, again)[0], expected, function)
                # What was returned belongs to the caller.
                passed = {id(one) for one in lists_in(list(arguments))}
                lists = lists_in(value)
                self.assertEqual(len({id(one) for one in lists}), len(lists), function)
                self.assertEqual([one for one in lists if id(one) in passed], [], function)
                for one in lists:
                    one.append("x")
                self.assertEqual(outcome(function, arguments)[0], expected, function)

    def test_tuples_in_the_place_of_lists(self):
        anything = {is_word, is_integer, is_number, is_on, judge_ring, judge_causes, judge_surrounding, without_point, with_module, without_module, flat, flat_size, compiled}
        for function, calls in CALLS.items():
            for arguments in calls():
                if function not in anything:
                    told = tuple(as_tuples(argument) for argument in arguments)
                    self.assertEqual(outcome(function, told)[0], outcome(function, arguments)[0], function)
        self.assertEqual(Network(tuple(sample().points()), tuple(sample().rules())), sample())
        self.assertEqual(Lead((0, 1), (0, 1), 6, tuple(lead().row())), lead())
        self.assertEqual(Program(tuple(program().modules())), program())
        leads = [(p, q, table().lead(p, q)) for p in "pq" for q in "pq"]
        self.assertEqual(Table(tuple(table().doors()), 6, tuple(leads)), table())
        self.assertIs(judge_causes(sample(), (0, None, None), cause_paper(sample(), (0, None, None))), True)
        self.assertIs(judge_surrounding(sample(), other(), ("a", "c"), ("point", 1, 0, 6, "a", "c", 3)), True)

    def test_methods(self):
        for kind, (make, names) in METHODS.items():
            for name, calls in names.items():
                for arguments in calls:
                    owner = make()
                    self.assertIs(type(owner), kind)
                    expected, value = outcome(getattr(owner, name), arguments)
                    self.assertTrue(is_plain(value), (kind, name))
                    again = make()
                    self.assertEqual(outcome(getattr(again, name), arguments)[0], expected, (kind, name))
                    self.assertEqual(deep_shape(again), deep_shape(owner), (kind, name))
                    for one in lists_in(value):
                        one.append("x")
                    self.assertEqual(deep_shape(again), deep_shape(owner), (kind, name))

    def test_a_method_that_raises_an_error_changes_nothing(self):
        raised = 0
        for kind, (make, names) in METHODS.items():
            for name, calls in names.items():
                for arguments in calls:
                    owner = make()
                    expected, _ = outcome(getattr(owner, name), arguments)
                    if expected[0] == "error":
                        raised += 1
                        self.assertEqual(deep_shape(owner), deep_shape(make()), (kind, name))
                        self.assertEqual(outcome(getattr(owner, name), arguments)[0], expected, (kind, name))
        self.assertGreater(raised, 20)

    def test_what_is_asked_changes_nothing_that_others_tell(self):
        for kind, (make, names) in METHODS.items():
            changing = {"fix", "wait", "undo", "go_back", "mark", "put", "drop", "module", "table", "commit", "fresh", "say"}
            for name, calls in names.items():
                if kind in (Dispatcher, Store, Session, Console) and name in changing and not (kind is Store and name == "table"):
                    continue
                for arguments in calls:
                    owner = make()
                    before = deep_shape(owner)
                    outcome(getattr(owner, name), arguments)
                    self.assertEqual(deep_shape(owner), before, (kind, name))

    def test_unequal_is_the_opposite_of_equal(self):
        for make in (sample, lead, table, program, dispatcher):
            one, two = make(), make()
            self.assertIs(one == two, True)
            self.assertIs(one != two, False)
            for value in (None, 0, [], "a", sample, Store()):
                self.assertIs(one == value, False)
                self.assertIs(one != value, True)


if __name__ == "__main__":
    unittest.main()
