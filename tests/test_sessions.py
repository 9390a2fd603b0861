"""Sessions of a store: what they put, drop and read, and how they are committed (S10.2 to S10.4, S10.7)."""

import random
import unittest

from roundticks.compiling import barred, compiled
from roundticks.errors import BadAct, BadProgram, Conflict, UnknownName
from roundticks.programs import Program, with_module, without_module
from roundticks.sessions import Session
from roundticks.store import Store
from tests.case import LEG, TRIP, Case, anything
from tests.test_compiling import ODD
from tests.test_store import A, B, C, committed, user

# Like a, but with one more door, so that what uses a does not fit any more.
A2 = ("a", (("door", "p", 0, 2), ("door", "q", 0, 2)))
# Like a, but without a timetable.
NEVER = ("a", (("door", "p", 0, 2), ("rule", "p", "p", 1)))
U, V = user("u", "a"), user("v", "u", "b")


def leg(least):
    return ("leg", LEG[1][:5] + (("rule", "q", "p", least),))


class SessionCase(Case):
    def is_now(self, session, base, modules, changed, read):
        """What the session tells of itself."""
        self.tells(base, session.base)
        self.tells(Program(list(modules)), session.program)
        self.tells(list(changed), session.changed)
        self.tells(list(read), session.read)

    def commits(self, session, version):
        """The session is committed, and begins anew."""
        self.tells(None, session.commit_word)
        found = session.commit()
        self.assertIs(type(found), int)
        self.assertEqual(found, version)
        self.assertEqual(session.store().version(), version)
        self.is_now(session, version, session.store().program().modules(), [], [])

    def refuses(self, session, expected, error, **attributes):
        """A commit is refused with a word and an error, and leaves session and store as they were."""
        store = session.store()
        before = (session.base(), session.program().modules(), session.changed(), session.read(), store.version(), store.program().modules())
        self.tells(expected, session.commit_word)
        self.refused(error, attributes, session.commit)
        after = (session.base(), session.program().modules(), session.changed(), session.read(), store.version(), store.program().modules())
        self.assertEqual(after, before)

    def begun(self, *modules):
        """A store with modules, and two sessions of it."""
        store = Store()
        committed(store, *modules)
        return store, Session(store), Session(store)


class Changed(SessionCase):
    def test_a_new_session(self):
        store, session, _ = self.begun(A, B)
        self.assertIs(session.store(), store)
        self.is_now(session, 1, [A, B], [], [])
        self.is_now(Session(Store()), 0, [], [], [])

    def test_putting_and_dropping(self):
        store, session, _ = self.begun(A, B)
        self.assertIsNone(session.put(C))
        self.is_now(session, 1, [A, B, C], ["c"], [])
        self.assertIsNone(session.put(A2))
        self.is_now(session, 1, [A2, B, C], ["a", "c"], [])
        self.assertIsNone(session.drop("b"))
        self.is_now(session, 1, [A2, C], ["a", "b", "c"], [])
        session.put(B)
        self.is_now(session, 1, [A2, C, B], ["a", "b", "c"], [])
        session.drop("c")
        self.is_now(session, 1, [A2, B], ["a", "b", "c"], [])
        # The store does not see it ahead of the commit.
        self.assertEqual(store.program(), Program([A, B]))
        self.assertEqual(store.version(), 1)

    def test_what_leaves_no_program(self):
        _, session, _ = self.begun(A, B, U)
        session.put(C)
        program = session.program()
        values = [*anything(), A2, ("a", ()), ("w", (("use", "none", ()),)), ("b", (("use", "u", ()), ("rule", "p", "p", 0))), ("W", ()), ("w", []), ["w", ()]]
        for value in values:
            with self.assertRaises(BadProgram) as caught:
                with_module(program, value)
            self.refused(BadProgram, {"path": caught.exception.path}, session.put, value)
        self.refused(BadProgram, {"path": (2, 1, 1, 2)}, session.put, A2)
        with self.assertRaises(BadProgram) as caught:
            without_module(program, "a")
        self.refused(BadProgram, {"path": caught.exception.path}, session.drop, "a")
        self.refused(BadProgram, {"path": (1, 1, 1, 1)}, session.drop, "a")
        for value in [value for value in anything() if value != "a"] + ["none", ["b"], {"b": 0}]:
            self.refused(UnknownName, {"name": value}, session.drop, value)
        self.is_now(session, 1, [A, B, U, C], ["c"], [])
        session.drop("u")
        session.drop("a")
        self.is_now(session, 1, [B, C], ["a", "c", "u"], [])

    def test_a_module_of_a_session_may_be_barred(self):
        _, session, _ = self.begun(A, U)
        session.put(NEVER)
        self.is_now(session, 1, [NEVER, U], ["a"], [])
        self.tells(None, session.table, "u")
        self.tells(None, session.table, "a")
        self.refuses(session, "barred", BadAct, word="barred")
        session.put(A)
        self.commits(session, 2)

    def test_steps_that_go_beyond_the_limits_may_be_put(self):
        session = Session(Store())
        session.put(("m", tuple(("point", f"p{k}", 0, step) for k, step in enumerate((59, 58, 57, 55, 53)))))
        self.is_now(session, 0, session.program().modules(), ["m"], [])


class Read(SessionCase):
    def test_modules_and_tables_with_all_that_they_use(self):
        for asked, expected in [("a", ["a"]), ("u", ["a", "u"]), ("v", ["a", "b", "u", "v"]), ("b", ["b"])]:
            for way in ("module", "table"):
                store, session, _ = self.begun(A, B, U, V, C)
                told = session.module(asked) if way == "module" else session.table(asked)
                self.assertEqual(told, dict(zip("abuvc", [A, B, U, V, C]))[asked] if way == "module" else compiled(store.program(), asked))
                self.is_now(session, 1, [A, B, U, V, C], [], expected)
        session.table("c")
        session.module("u")
        self.tells(["a", "b", "c", "u"], session.read)

    def test_chains_are_used_too(self):
        _, session, _ = self.begun(LEG, TRIP)
        session.table("trip")
        self.tells(["leg", "trip"], session.read)

    def test_as_it_is_at_that_moment(self):
        _, session, _ = self.begun(A, B, U)
        session.module("u")
        session.put(user("u", "b"))
        # Asked later, it would have been b.
        self.is_now(session, 1, [A, B, user("u", "b")], ["u"], ["a", "u"])
        session.table("u")
        self.tells(["a", "b", "u"], session.read)
        session.drop("u")
        self.tells(["a", "b", "u"], session.read)

    def test_putting_and_the_program_read_nothing(self):
        _, session, _ = self.begun(A, B)
        session.put(U)
        session.program().module("a")
        session.changed()
        session.commit_word()
        self.tells([], session.read)

    def test_names_that_are_none(self):
        _, session, _ = self.begun(A, U)
        for value in [value for value in anything() if value != "a"] + ["b", ["a"], {"a": 0}]:
            self.refused(UnknownName, {"name": value}, session.module, value)
            self.refused(UnknownName, {"name": value}, session.table, value)
        self.is_now(session, 1, [A, U], [], [])

    def test_the_session_tells_of_its_own_program(self):
        store, session, other = self.begun(LEG, TRIP)
        session.put(leg(-3))
        self.tells(leg(-3), session.module, "leg")
        self.tells(compiled(Program([leg(-3)]), "leg"), session.table, "leg")
        self.tells(None, session.table, "trip")
        self.tells(compiled(Program([LEG, TRIP]), "trip"), other.table, "trip")
        self.tells(compiled(Program([LEG, TRIP]), "trip"), store.table, "trip")

    def test_ascending_order_and_new_lists(self):
        names = ["b", "a10", "a2", "z", "aa"]
        session = Session(Store())
        for name in names:
            session.put((name, ()))
            session.module(name)
        expected = ["a10", "a2", "aa", "b", "z"]
        self.is_now(session, 0, [(name, ()) for name in names], expected, expected)
        session.changed().clear()
        session.read().append("q")
        self.is_now(session, 0, [(name, ()) for name in names], expected, expected)


class Committed(SessionCase):
    def test_what_changed_something(self):
        store, session, _ = self.begun(A, B)
        session.put(C)
        session.drop("a")
        self.commits(session, 2)
        self.assertEqual(store.program(), Program([B, C]))
        session.put(C)
        self.commits(session, 3)
        session.put(A)
        session.drop("a")
        self.commits(session, 4)
        self.assertEqual(store.program(), Program([B, C]))
        self.tells(["a"], store.changed_since, 3)

    def test_what_changed_nothing(self):
        store, session, other = self.begun(A, B)
        self.commits(session, 1)
        session.module("a")
        self.commits(session, 1)
        other.put(C)
        self.commits(other, 2)
        # It begins anew at the version then.
        session.table("b")
        self.commits(session, 2)
        session.module("a")
        committed(store, A)
        self.refuses(session, "conflict", Conflict, name="a")
        self.assertEqual(session.fresh(), 3)
        self.commits(session, 3)

    def test_changes_are_done_in_their_order(self):
        store, session, other = self.begun(A, B)
        session.put(C)
        session.drop("b")
        session.put(("d", ()))
        session.put(B)
        session.put(A2)
        other.put(("e", ()))
        self.commits(other, 2)
        # What others put stays ahead of what comes behind all others.
        self.commits(session, 3)
        self.assertEqual(store.program(), Program([A2, ("e", ()), C, ("d", ()), B]))

    def test_two_sessions_that_change_other_modules(self):
        store, one, other = self.begun(A, B, C)
        one.put(A2)
        other.drop("b")
        self.commits(one, 2)
        self.commits(other, 3)
        self.assertEqual(store.program(), Program([A2, C]))

    def test_two_sessions_that_change_the_same_one(self):
        for change in (lambda session: session.put(A2), lambda session: session.drop("a"), lambda session: session.put(A)):
            store, one, other = self.begun(A, B)
            one.put(A)
            change(other)
            self.commits(one, 2)
            self.refuses(other, "conflict", Conflict, name="a")
            self.assertEqual(other.fresh(), 2)
            change(other)
            self.commits(other, 3)
        # A name that is new in both.
        store, one, other = self.begun(A)
        one.put(C)
        other.put(("c", ()))
        self.commits(other, 2)
        self.refuses(one, "conflict", Conflict, name="c")
        self.assertEqual(store.program(), Program([A, ("c", ())]))

    def test_one_that_the_other_has_read_itself_or_through_others(self):
        for asked, changed, name in [("a", A, "a"), ("u", A, "a"), ("v", B, "b"), ("v", A, "a"), ("v", U, "u")]:
            for way in ("module", "table"):
                store, one, other = self.begun(A, B, U, V, C)
                one.put(changed)
                getattr(other, way)(asked)
                other.put(C)
                self.commits(one, 2)
                self.refuses(other, "conflict", Conflict, name=name)
        store, one, other = self.begun(A, B, U, V, C)
        one.put(V)
        one.put(C)
        other.table("u")
        self.commits(one, 2)
        self.commits(other, 2)

    def test_the_first_name_ascending(self):
        store, one, other = self.begun(A, B, C, ("a10", ()), ("a2", ()))
        for module in (C, B, ("a2", ()), ("a10", ())):
            one.put(module)
        self.commits(one, 2)
        other.module("c")
        self.refuses(other, "conflict", Conflict, name="c")
        other.put(B)
        self.refuses(other, "conflict", Conflict, name="b")
        other.module("a2")
        self.refuses(other, "conflict", Conflict, name="a2")
        other.drop("a10")
        self.refuses(other, "conflict", Conflict, name="a10")
        other.module("a")
        self.refuses(other, "conflict", Conflict, name="a10")

    def test_what_was_done_ahead_of_the_beginning_does_not_matter(self):
        store, one, other = self.begun(A, B)
        one.put(A2)
        self.commits(one, 2)
        self.assertEqual(other.fresh(), 2)
        other.module("a")
        other.put(A)
        self.commits(other, 3)
        # Also not what a session did itself, once it was committed.
        other.put(A2)
        self.commits(other, 4)
        other.module("a")
        self.commits(other, 4)

    def test_going_back_is_a_conflict_too(self):
        store, one, other = self.begun(A, B)
        committed(store, C)
        one, other = Session(store), Session(store)
        one.module("c")
        other.module("a")
        store.go_back(1)
        self.refuses(one, "conflict", Conflict, name="c")
        self.commits(other, 3)
        one.fresh()
        one.module("a")
        store.go_back(3)
        self.commits(one, 4)
        # A module that is there as it was, but was changed twice meanwhile.
        one.module("b")
        store.go_back(0)
        store.go_back(1)
        self.refuses(one, "conflict", Conflict, name="b")

    def test_a_refused_commit_goes_on_as_it_was(self):
        store, session, other = self.begun(LEG, TRIP)
        session.put(leg(-3))
        session.module("trip")
        self.refuses(session, "barred", BadAct, word="barred")
        self.is_now(session, 1, [leg(-3), TRIP], ["leg"], ["leg", "trip"])
        session.put(leg(-4))
        self.commits(session, 2)

    def test_fresh(self):
        store, session, _ = self.begun(A, B)
        session.put(C)
        session.module("a")
        found = session.fresh()
        self.assertIs(type(found), int)
        self.assertEqual(found, 1)
        self.is_now(session, 1, [A, B], [], [])
        committed(store, C)
        session.drop("a")
        self.assertEqual(session.fresh(), 2)
        self.is_now(session, 2, [A, B, C], [], [])

    def test_the_example(self):
        store = Store()
        session = Session(store)
        session.put(LEG)
        session.put(TRIP)
        self.commits(session, 1)
        first, second = Session(store), Session(store)
        first.put(leg(-3))
        self.assertEqual(first.table("leg").lead("p", "p").row(), [0, 6, 6])
        self.assertEqual(barred(first.program()), ["trip"])
        first = Session(store)
        first.put(leg(-3))
        self.refuses(first, "barred", BadAct, word="barred")
        first.put(leg(-4))
        second.table("trip")
        self.tells(["leg", "trip"], second.read)
        self.commits(first, 2)
        self.refuses(second, "conflict", Conflict, name="leg")
        self.assertEqual(second.fresh(), 2)
        self.commits(second, 2)


class Words(SessionCase):
    def test_program(self):
        # Putting reads nothing: so what is used may be gone meanwhile, or have other doors.
        for change, path in [("a", (1, 1, 1, 1)), (A2, (2, 1, 1, 2))]:
            store, one, other = self.begun(A, B)
            one.put(U)
            committed(store, change)
            self.refuses(one, "program", BadProgram, path=path)
            one.put(user("u", "b"))
            self.commits(one, 3)
        # What is dropped may be used meanwhile by another one.
        store, one, other = self.begun(A, B)
        one.drop("a")
        committed(store, U)
        self.refuses(one, "program", BadProgram, path=(1, 1, 1, 1))
        # The one that is used must stand ahead.
        store, one, other = self.begun(A, B)
        one.drop("a")
        one.put(A)
        committed(store, U)
        self.refuses(one, "program", BadProgram, path=(1, 1, 1, 1))

    def test_the_list_is_judged_with_all_changes_done(self):
        # In between the list is no program, as u uses what does not fit, or is gone; in the end it is one.
        store, one, other = self.begun(A, B)
        one.put(A2)
        one.put(A)
        committed(store, U)
        self.commits(one, 3)
        self.assertEqual(store.program(), Program([A, B, U]))
        store, one, other = self.begun(A, B)
        one.put(A2)
        one.put(B)
        committed(store, U)
        self.refuses(one, "program", BadProgram, path=(2, 1, 1, 2))
        # A module that is barred in between.
        store, one, other = self.begun(A, B)
        one.put(NEVER)
        one.put(A)
        committed(store, U)
        self.commits(one, 3)

    def test_conflict_ahead_of_program_and_barred(self):
        store, one, other = self.begun(A, B, C)
        one.put(U)
        one.module("c")
        committed(store, "a", C)
        self.refuses(one, "conflict", Conflict, name="c")
        store, one, other = self.begun(A, B, C)
        one.put(NEVER)
        one.put(C)
        committed(store, C)
        self.refuses(one, "conflict", Conflict, name="c")

    def test_program_ahead_of_barred(self):
        store, one, other = self.begun(A, B)
        one.put(U)
        one.put(("b", (("point", "x", 0, 1), ("rule", "x", "x", 1))))
        committed(store, "a")
        self.refuses(one, "program", BadProgram, path=(1, 1, 1, 1))
        # The changed list is b alone, and u behind it.
        one.drop("u")
        self.refuses(one, "barred", BadAct, word="barred")

    def test_barred_by_what_others_did(self):
        # Each of the two leaves timetables alone, but not both.
        store, one, other = self.begun(A, LEG)
        one.put(TRIP)
        committed(store, leg(-3))
        self.refuses(one, "barred", BadAct, word="barred")
        store, one, other = self.begun(LEG, A)
        one.put(leg(-3))
        committed(store, TRIP)
        self.refuses(one, "barred", BadAct, word="barred")
        store, one, other = self.begun(LEG)
        one.put(ODD)
        self.refuses(one, "barred", BadAct, word="barred")
        one.drop("odd")
        self.commits(one, 2)
        self.assertEqual(store.program(), Program([LEG]))


class Model:
    """A store and sessions, told again in the plainest way."""

    def __init__(self):
        self.programs = [[], [A, B, C]]
        self.touched = [set(), set("abc")]

    def begin(self):
        return {"base": len(self.programs) - 1, "modules": list(self.programs[-1]), "changes": [], "read": set()}

    def changed(self, session):
        return {name for name, _ in session["changes"]}

    def outcome(self, session):
        """The word and what goes with it, or the list of modules after the commit."""
        since = set().union(*self.touched[session["base"] + 1:])
        met = sorted(since & (self.changed(session) | session["read"]))
        if met:
            return "conflict", met[0]
        modules = list(self.programs[-1])
        for name, module in session["changes"]:
            modules = changed_list(modules, name, module)
        try:
            program = Program(modules)
        except BadProgram as error:
            return "program", error.path
        if barred(program):
            return "barred", None
        return None, modules

    def below(self, modules, name):
        found = {name}
        for own, items in reversed(modules):
            if own in found:
                found |= {item[1] if item[0] == "use" else item[2] for item in items if item[0] in ("use", "chain")}
        return found


def changed_list(modules, name, module):
    if module is None:
        return [own for own in modules if own[0] != name]
    if name in [own[0] for own in modules]:
        return [module if own[0] == name else own for own in modules]
    return modules + [module]


class Chance(SessionCase):
    def pool(self, chance):
        """Some module of a few names: one without uses, or one that uses another one."""
        name = chance.choice("abcuv")
        if name in "abc":
            return (name, chance.choice([A[1], A[1], A2[1], NEVER[1]]))
        return user(name, *chance.sample("abcu" if name == "v" else "abc", chance.choice([1, 1, 2])))

    def step(self, chance, store, model, sessions):
        """Some act of some session; returns the word of a commit."""
        session, told = chance.choice(sessions)
        act = chance.random()
        if act < 0.35:
            module = self.pool(chance)
            modules = changed_list(told["modules"], module[0], module)
            if self.is_program(modules):
                session.put(module)
                told["modules"] = modules
                told["changes"].append((module[0], module))
            else:
                with self.assertRaises(BadProgram):
                    session.put(module)
        elif act < 0.5:
            name = chance.choice("abcuv")
            modules = changed_list(told["modules"], name, None)
            if len(modules) < len(told["modules"]) and self.is_program(modules):
                session.drop(name)
                told["modules"] = modules
                told["changes"].append((name, None))
            else:
                with self.assertRaises((BadProgram, UnknownName)):
                    session.drop(name)
        elif act < 0.6:
            name = chance.choice("abcuv")
            if name in dict(told["modules"]):
                chance.choice([session.module, session.table])(name)
                told["read"] |= model.below(told["modules"], name)
        elif act < 0.65:
            self.assertEqual(session.fresh(), len(model.programs) - 1)
            told.update(model.begin())
        elif act < 0.7:
            version = chance.randrange(len(model.programs))
            now, then = dict(model.programs[-1]), dict(model.programs[version])
            model.touched.append({name for name in {**now, **then} if now.get(name) != then.get(name)})
            model.programs.append(list(model.programs[version]))
            self.assertEqual(store.go_back(version), len(model.programs) - 1)
        else:
            return self.commit(model, session, told)
        return "none"

    def is_program(self, modules):
        try:
            Program(modules)
        except BadProgram:
            return False
        return True

    def commit(self, model, session, told):
        word, more = model.outcome(told)
        self.tells(word, session.commit_word)
        if word == "conflict":
            self.refuses(session, word, Conflict, name=more)
        elif word == "program":
            self.refuses(session, word, BadProgram, path=more)
        elif word == "barred":
            self.refuses(session, word, BadAct, word="barred")
        else:
            if told["changes"]:
                model.touched.append(model.changed(told))
                model.programs.append(more)
            self.commits(session, len(model.programs) - 1)
            told.update(model.begin())
        return word

    def test_stores_by_chance(self):
        chance = random.Random(321)
        words = {}
        for _ in range(60):
            store, model = Store(), Model()
            committed(store, A, B, C)
            sessions = [(Session(store), model.begin()) for _ in range(3)]
            for _ in range(40):
                word = self.step(chance, store, model, sessions)
                words[word] = words.get(word, 0) + 1
                for session, told in sessions:
                    self.is_now(session, told["base"], told["modules"], sorted(model.changed(told)), sorted(told["read"]))
                self.assertEqual([store.program_at(k).modules() for k in range(store.version() + 1)], model.programs)
                since = chance.randrange(len(model.programs))
                self.tells(sorted(set().union(*model.touched[since + 1:])), store.changed_since, since)
                self.assertEqual(barred(store.program()), [])
        self.assertEqual(set(words), {"none", None, "conflict", "program", "barred"})
        self.assertGreater(min(words.values()), 5)


if __name__ == "__main__":
    unittest.main()
