"""A store of modules: versions, going back, marks and what was changed (S10.1, S10.5)."""

import unittest

from roundticks.compiling import compiled
from roundticks.errors import NoWay, UnknownName
from roundticks.programs import Program
from roundticks.sessions import Session
from roundticks.store import Store
from tests.case import LEG, TRIP, Case, anything, nested

A, B, C = [(name, (("door", "p", 0, 2),)) for name in "abc"]


def user(name, *used):
    """A module that uses others with the door p."""
    return (name, (("door", "p", 0, 2), *[("use", own, (("p", "p"),)) for own in used]))


def committed(store, *changes):
    """What a session has changed is committed: modules are put, names are dropped; returns the version."""
    session = Session(store)
    for change in changes:
        if isinstance(change, str):
            session.drop(change)
        else:
            session.put(change)
    return session.commit()


class StoreCase(Case):
    def has(self, store, *versions):
        """The store has just these versions, each a list of modules; the last one is the present one."""
        self.tells(len(versions) - 1, store.version)
        self.tells(Program(list(versions[-1])), store.program)
        for k, modules in enumerate(versions):
            self.tells(Program(list(modules)), store.program_at, k)
        self.refused(NoWay, {}, store.program_at, len(versions))


class Versions(StoreCase):
    def test_an_empty_store(self):
        store = Store()
        self.has(store, [])
        self.tells([], store.marks)
        self.tells([], store.changed_since, 0)
        self.refused(UnknownName, {"name": "leg"}, store.table, "leg")
        self.refused(UnknownName, {"name": "m"}, store.marked, "m")
        other = Store()
        committed(other, A)
        self.has(store, [])

    def test_each_commit_that_changed_something_makes_one_more(self):
        store = Store()
        self.assertEqual(committed(store, LEG, TRIP), 1)
        self.has(store, [], [LEG, TRIP])
        self.assertEqual(committed(store), 1)
        self.assertEqual(committed(store, A), 2)
        self.assertEqual(committed(store, A), 3)
        self.assertEqual(committed(store, B, "b"), 4)
        self.assertEqual(committed(store, "trip"), 5)
        self.has(store, [], [LEG, TRIP], [LEG, TRIP, A], [LEG, TRIP, A], [LEG, TRIP, A], [LEG, A])

    def test_tables(self):
        store = Store()
        committed(store, LEG, TRIP)
        for name in ("leg", "trip"):
            self.tells(compiled(Program([LEG, TRIP]), name), store.table, name)
        committed(store, "trip")
        self.refused(UnknownName, {"name": "trip"}, store.table, "trip")
        for value in anything():
            self.refused(UnknownName, {"name": value}, store.table, value)


class Back(StoreCase):
    def test_going_back(self):
        store = Store()
        committed(store, A, B)
        committed(store, C, "a")
        self.assertEqual(store.go_back(1), 3)
        self.has(store, [], [A, B], [B, C], [A, B])
        self.assertEqual(store.go_back(0), 4)
        self.has(store, [], [A, B], [B, C], [A, B], [])
        self.assertEqual(store.go_back(2), 5)
        self.has(store, [], [A, B], [B, C], [A, B], [], [B, C])

    def test_to_the_present_version(self):
        store = Store()
        self.assertEqual(store.go_back(0), 1)
        committed(store, A)
        self.assertEqual(store.go_back(2), 3)
        self.has(store, [], [], [A], [A])
        self.tells([], store.changed_since, 2)
        self.tells(["a"], store.changed_since, 1)

    def test_the_order_of_modules(self):
        store = Store()
        committed(store, A, B, C)
        committed(store, "a", A)
        self.has(store, [], [A, B, C], [B, C, A])
        self.assertEqual(store.go_back(1), 3)
        self.has(store, [], [A, B, C], [B, C, A], [A, B, C])
        # No module differs, so none counts as put or dropped.
        self.tells([], store.changed_since, 2)
        self.tells(["a"], store.changed_since, 1)

    def test_what_is_none(self):
        store = Store()
        committed(store, A)
        for value in [value for value in anything() if isinstance(value, bool) or value not in (0, 1)] + [-1, 2, "0", "1", [1], (0,), {}]:
            for function in (store.program_at, store.go_back, store.changed_since):
                self.refused(NoWay, {}, function, value)
        self.has(store, [], [A])
        self.refused(NoWay, {}, store.go_back, nested(40, lambda value: [value], 0))


class Changed(StoreCase):
    def test_by_commits(self):
        store = Store()
        committed(store, A, B)
        committed(store, C, B)
        committed(store, "a")
        self.tells(["a", "b", "c"], store.changed_since, 0)
        self.tells(["a", "b", "c"], store.changed_since, 1)
        self.tells(["a"], store.changed_since, 2)
        self.tells([], store.changed_since, 3)

    def test_what_was_put_just_as_it_was_and_what_was_dropped_again(self):
        store = Store()
        committed(store, A, B)
        committed(store, B)
        self.tells(["b"], store.changed_since, 1)
        committed(store, C, "c")
        self.tells(["c"], store.changed_since, 2)
        committed(store, "a", A)
        self.tells(["a"], store.changed_since, 3)
        self.tells(["a", "b", "c"], store.changed_since, 1)

    def test_by_going_back_what_differs(self):
        store = Store()
        other = ("b", (("door", "p", 1, 2),))
        committed(store, A, B)
        committed(store, other, C, "a")
        self.has(store, [], [A, B], [other, C])
        store.go_back(1)
        self.tells(["a", "b", "c"], store.changed_since, 2)
        committed(store, C)
        store.go_back(1)
        self.tells(["c"], store.changed_since, 4)
        store.go_back(2)
        self.tells(["a", "b", "c"], store.changed_since, 5)
        store.go_back(4)
        # b and a differ, c is there in both.
        self.tells(["a", "b"], store.changed_since, 6)
        store.go_back(0)
        self.tells(["a", "b", "c"], store.changed_since, 7)

    def test_the_order_is_that_of_strings(self):
        store = Store()
        names = ["b", "a10", "a2", "a", "z", "b0", "aa"]
        committed(store, *[(name, ()) for name in names])
        self.tells(["a", "a10", "a2", "aa", "b", "b0", "z"], store.changed_since, 0)
        store.go_back(0)
        self.tells(["a", "a10", "a2", "aa", "b", "b0", "z"], store.changed_since, 1)

    def test_points_with_the_same_numbers_are_unequal_tuples(self):
        store = Store()
        committed(store, A)
        committed(store, ("a", (("door", "p", 2, 2),)))
        store.go_back(1)
        self.tells(["a"], store.changed_since, 2)


class Marks(StoreCase):
    def test_marks(self):
        store = Store()
        self.assertIsNone(store.mark("empty"))
        committed(store, A)
        self.assertIsNone(store.mark("one"))
        self.assertIsNone(store.mark("again"))
        self.tells(["empty", "one", "again"], store.marks)
        self.tells([0, 1, 1], lambda: [store.marked(name) for name in store.marks()])
        committed(store, B)
        store.go_back(0)
        self.tells([0, 1, 1], lambda: [store.marked(name) for name in store.marks()])
        # Told again it stays in its old place.
        store.mark("one")
        self.tells(["empty", "one", "again"], store.marks)
        self.tells(3, store.marked, "one")
        self.tells(1, store.marked, "again")
        self.assertEqual(store.go_back(store.marked("again")), 4)
        self.tells(3, store.marked, "one")

    def test_names_that_are_no_words_and_that_are_none(self):
        store = Store()
        store.mark("a")
        for value in [value for value in anything() if value not in ("a", "z9")] + ["A", "a b", "0a", "abcdefghijklm", ["b"], ("b",), {"b": 0}]:
            self.refused(UnknownName, {"name": value}, store.mark, value)
            self.refused(UnknownName, {"name": value}, store.marked, value)
        self.refused(UnknownName, {"name": "b"}, store.marked, "b")
        self.tells(["a"], store.marks)
        # Any word may be a mark, also the name of a module or a word of a form.
        for name in ("leg", "mark", "abcdefghijkl", "z0"):
            store.mark(name)
        self.tells(["a", "leg", "mark", "abcdefghijkl", "z0"], store.marks)

    def test_lists_are_new_each_time(self):
        store = Store()
        committed(store, A, B)
        store.mark("m")
        store.marks().append("x")
        store.changed_since(0).clear()
        store.program().modules().clear()
        self.tells(["m"], store.marks)
        self.tells(["a", "b"], store.changed_since, 0)
        self.has(store, [], [A, B])


if __name__ == "__main__":
    unittest.main()
