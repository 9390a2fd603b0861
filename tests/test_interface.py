"""The interface: each name stands in its own file, with the parameters that the document lists."""

import importlib
import inspect
import unittest

FUNCTIONS = {
    "words": {"is_word": 1, "is_integer": 1, "is_number": 1},
    "networks": {"have_like_points": 2, "with_points": 2, "with_rules": 2, "without_point": 2, "without_rule": 2,
                 "with_least": 3, "part_of": 2},
    "lexemes": {"lexemes": 1},
    "networktexts": {"network_text": 1, "read_network": 1},
    "numbers": {"up": 2, "down": 2, "is_on": 2, "are_alike_clocks": 2},
    "timetables": {"judge_timetable": 2, "later_of": 3, "earlier_of": 3, "shifted": 3},
    "walks": {"led": 4, "judge_ring": 2},
    "rising": {"forced": 2, "earliest": 2, "latest": 2, "find_ring": 1, "has_timetable": 1},
    "causes": {"cause_paper": 2, "judge_causes": 3},
    "leading": {"rule_lead": 4, "staying_lead": 2, "later_lead": 2, "and_then": 2, "star_of": 1, "back_of": 1, "jumps": 1,
                "with_period": 2},
    "tables": {"are_alike_tables": 2},
    "elimination": {"table_of": 2, "table_by": 3, "lead_from": 3, "possible_numbers": 2},
    "completing": {"can_complete": 3, "completed": 3, "why_not": 3, "pinned": 3, "door_numbers_fit": 2},
    "programs": {"with_module": 2, "without_module": 2},
    "programtexts": {"program_text": 1, "read_program": 1},
    "flat": {"flat": 2, "flat_size": 2},
    "compiling": {"compiled": 2, "barred": 1},
    "chaining": {"glued": 2, "chained": 2, "longest_chain": 1},
    "tellingback": {"told_back": 1, "module_back": 2},
    "exchange": {"can_exchange": 3, "surrounding": 3, "judge_surrounding": 4},
    "following": {"follows": 2, "greatest_least": 3, "needless": 1, "kernel": 1},
    "distances": {"distances": 3, "distances_from": 4, "slack": 2},
}
CLASSES = {
    "networks": {"Network": {"__init__": 3, "points": 1, "rules": 1, "names": 1, "has_name": 2, "clock": 2, "index": 2,
                             "period": 1, "__eq__": 2}},
    "leads": {"Lead": {"__init__": 5, "start": 1, "end": 1, "period": 1, "row": 1, "at": 2, "__eq__": 2}},
    "programs": {"Program": {"__init__": 2, "modules": 1, "names": 1, "module": 2, "doors": 2, "points": 2, "uses": 2,
                             "used_by": 2, "__eq__": 2}},
    "tables": {"Table": {"__init__": 4, "doors": 1, "period": 1, "lead": 3, "is_closed": 1, "__eq__": 2}},
    "dispatching": {"Dispatcher": {"__init__": 2, "network": 1, "now": 1, "fixed": 1, "open_names": 1, "fix": 3, "wait": 2, "fix_word": 3,
                                   "wait_word": 2, "window": 2, "latest_now": 1, "due": 1, "undo": 1, "acts": 1, "course": 1, "twin": 1,
                                   "__eq__": 2}},
    "store": {"Store": {"program": 1, "version": 1, "program_at": 2, "table": 2, "go_back": 2, "mark": 2, "marks": 1, "marked": 2,
                        "changed_since": 2}},
    "sessions": {"Session": {"__init__": 2, "store": 1, "base": 1, "program": 1, "changed": 1, "read": 1, "put": 2, "drop": 2, "module": 2,
                             "table": 2, "commit": 1, "commit_word": 1, "fresh": 1}},
    "console": {"Console": {"__init__": 2, "session": 1, "store": 1, "say": 2}},
}


class Interface(unittest.TestCase):
    def check(self, function, many):
        """The function takes so many arguments by position, and needs no others."""
        inspect.signature(function).bind(*range(many))
        with self.assertRaises(TypeError):
            inspect.signature(function).bind(*range(many - 1))

    def test_functions(self):
        for file, functions in FUNCTIONS.items():
            module = importlib.import_module("roundticks." + file)
            for name, many in functions.items():
                function = getattr(module, name)
                self.assertTrue(inspect.isfunction(function), name)
                self.assertEqual(function.__module__, module.__name__, name)
                self.check(function, many)

    def test_classes(self):
        for file, classes in CLASSES.items():
            module = importlib.import_module("roundticks." + file)
            for name, methods in classes.items():
                self.assertEqual(getattr(module, name).__module__, module.__name__, name)
                for method, many in methods.items():
                    self.assertIn(method, vars(getattr(module, name)), name)
                    self.check(vars(getattr(module, name))[method], many)

    def test_a_store_is_made_of_nothing(self):
        store = importlib.import_module("roundticks.store").Store()
        self.assertEqual(store.version(), 0)


if __name__ == "__main__":
    unittest.main()
