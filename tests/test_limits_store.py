"""Inputs at the limits for distances, dispatchers, stores, sessions and consoles."""

import random
import unittest

from roundticks.compiling import barred, compiled
from roundticks.console import Console
from roundticks.dispatching import Dispatcher
from roundticks.distances import distances, distances_from, slack
from roundticks.elimination import possible_numbers
from roundticks.errors import BadAct, BadProgram, NothingDone, NoWay, UnknownName
from roundticks.networks import with_least
from roundticks.programs import Program
from roundticks.programtexts import program_text
from roundticks.rising import has_timetable
from roundticks.sessions import Session
from roundticks.store import Store
from tests.case import Case, nested
from tests.oracle import is_timetable, risen
from tests.test_console import LEG_TEXT, TRIP_TEXT, wrong_place
from tests.test_limits_compiling import STEPS, tight_network
from tests.test_store import committed

GREAT = 10 ** 30
FAR = 10 ** 39


class Distances(Case):
    def test_40_points_and_120_rules(self):
        chance = random.Random(341)
        bounds = [0, 0]
        for seed, steps, far in [(41, STEPS, 0), (42, (1, 2), 10 ** 29), (43, (60, 30), 10 ** 28)]:
            network = tight_network(seed, steps, far, 70)
            names = network.names()
            for _ in range(6):
                p, q = chance.sample(names, 2)
                least, greatest = distances(network, p, q)
                back = distances(network, q, p)
                self.assertEqual(back, (None if greatest is None else -greatest, None if least is None else -least))
                for v in possible_numbers(network, p)[:3]:
                    low, high = distances_from(network, p, v - 60 * GREAT, q)
                    self.assertEqual((low, high), distances_from(network, p, v, q))
                    self.assertTrue(least is None or low >= least)
                    self.assertTrue(greatest is None or high <= greatest)
                    bounds[low is None] += 1
                    if low is not None:
                        numbers = risen(network.points(), network.rules(), [v if name == p else None for name in names])
                        self.assertEqual(numbers[network.index(q)], v + low)
            for number in range(0, 70, 9):
                found = slack(network, number)
                least = network.rules()[number][2]
                self.assertIs(has_timetable(with_least(network, number, least + (FAR if found is None else found))), True)
                if found is not None:
                    self.assertIs(has_timetable(with_least(network, number, least + found + 1)), False)
        self.assertGreater(min(bounds), 5)


class Dispatching(Case):
    def test_40_points_120_rules_and_400_acts(self):
        chance = random.Random(342)
        network = tight_network(44, (1, 2, 3, 4, 6), 10 ** 29)
        points, rules, names = network.points(), network.rules(), network.names()
        dispatcher = Dispatcher(network)
        now = -FAR
        while dispatcher.open_names():
            latest = dispatcher.latest_now()
            for _ in range(7):
                now = now + 1 if latest is None or now + 1 < latest - 8 else now
                if dispatcher.now() is None or now > dispatcher.now():
                    dispatcher.wait(now)
            name = chance.choice(dispatcher.due() or dispatcher.open_names())
            low, high, rests = dispatcher.window(name)
            self.assertTrue(low <= (low if high is None else high))
            self.assertEqual(low % 60 in rests, True)
            number = low if high is None or chance.random() < 0.5 else high
            self.assertIsNone(dispatcher.fix_word(name, number))
            dispatcher.fix(name, number)
            now = max(now, dispatcher.now())
        numbers = dict(dispatcher.fixed())
        self.assertTrue(is_timetable(points, rules, tuple(numbers[name] for name in names)))
        while len(dispatcher.acts()) < 400:
            self.assertEqual(dispatcher.wait(FAR + len(dispatcher.acts())), len(dispatcher.acts()))
        twin = dispatcher.twin()
        self.assertTrue(twin == dispatcher)
        self.assertEqual(twin.undo(), 399)
        self.assertFalse(twin == dispatcher)
        for many in range(399, -1, -1):
            self.assertEqual(dispatcher.undo(), many)
        self.refused(NothingDone, {}, dispatcher.undo)
        self.assertTrue(dispatcher == Dispatcher(network))
        self.assertEqual(len(twin.acts()), 399)
        self.assertEqual(dispatcher.latest_now(), None)

    def test_numbers_of_40_digits(self):
        network = tight_network(45)
        for now in (10 ** 40 - 1, 1 - 10 ** 40):
            dispatcher = Dispatcher(network)
            self.assertEqual(dispatcher.wait(now), 1)
            course = dispatcher.course()
            self.assertTrue(is_timetable(network.points(), network.rules(), course))
            self.assertGreaterEqual(min(course), now)
            for name in network.names()[::7]:
                low, high, rests = dispatcher.window(name)
                self.assertIsNone(high)
                self.assertIsNone(dispatcher.fix_word(name, low))
                self.assertIsNone(dispatcher.fix_word(name, low + 60))
                self.assertIn(dispatcher.fix_word(name, low - network.clock(name)[1]), ("least", "rest"))
        for value in (nested(40, lambda inner: [inner], "z"), nested(40, lambda inner: (inner,), 0), nested(40, lambda inner: {"z": inner}, 0)):
            self.assertEqual(dispatcher.fix_word(value, value), "name")
            self.assertEqual(dispatcher.fix_word("z", value), "number")
            self.assertEqual(dispatcher.wait_word(value), "now")
            self.refused(UnknownName, {"name": value}, dispatcher.window, value)
            self.refused(BadAct, {"word": "now"}, dispatcher.wait, value)


def great_module(name, used):
    """A module with 30 items and 6 doors that uses others, with hidden points."""
    items = [("door", f"d{k}", k, 3) for k in range(6)] + [("point", f"p{k}", 7 * k, 4) for k in range(4)] + [("point", f"e{k}", k, 3) for k in range(3)]
    for own in used:
        items.append(("use", own, tuple((f"d{k}", f"d{k}" if k % 2 else f"e{k % 3}") for k in range(6))))
        items.append(("chain", 10 ** 18, own, "d0", "d3", "e0", "e0"))
    while len(items) < 30:
        k = len(items)
        items.append(("rule", f"d{k % 6}", f"p{k % 4}", -9 * GREAT - k) if k % 2 else ("rule", f"p{k % 3}", f"e{k % 3}", -GREAT))
    return (name, tuple(items))


class Stores(Case):
    def test_60_versions_20_marks_and_12_names(self):
        store = Store()
        names = [f"m{k}" for k in range(12)]
        modules = [great_module(name, names[max(0, k - 2):k]) for k, name in enumerate(names)]
        session = Session(store)
        for module in modules:
            session.put(module)
        self.assertEqual(barred(session.program()), [])
        self.assertEqual(session.commit(), 1)
        programs = [[], modules]
        chance = random.Random(343)
        while store.version() < 59:
            if chance.random() < 0.2:
                version = chance.randrange(len(programs))
                programs.append(programs[version])
                self.assertEqual(store.go_back(version), len(programs) - 1)
                session.fresh()
                continue
            now = list(programs[-1]) or list(modules)
            k = chance.randrange(12)
            now[k] = (now[k][0], now[k][1][:-1] + (("rule", "d0", "p0", chance.choice([-9 * GREAT, -GREAT])),))
            for module in now:
                session.put(module)
            programs.append(now)
            self.assertEqual(session.commit(), len(programs) - 1)
        for k, program in enumerate(programs):
            self.assertEqual(store.program_at(k), Program(program))
        for k in range(20):
            store.mark(f"mark{k}")
        self.assertEqual(store.marks(), [f"mark{k}" for k in range(20)])
        self.assertEqual(store.changed_since(0), sorted(names))
        for value in (60, FAR, -1, True, nested(40, lambda inner: [inner], 0)):
            self.refused(NoWay, {}, store.program_at, value)
            self.refused(NoWay, {}, store.go_back, value)
        for value in (nested(40, lambda inner: (inner,), "mark0"), nested(40, lambda inner: {"a": inner}, "mark0")):
            self.refused(UnknownName, {"name": value}, store.mark, value)
            self.refused(UnknownName, {"name": value}, store.marked, value)
            with self.assertRaises(BadProgram):
                session.put(value)
            self.refused(UnknownName, {"name": value}, session.drop, value)

    def test_a_session_of_12_great_modules(self):
        store = Store()
        names = [f"m{k}" for k in range(12)]
        committed(store, *[great_module(name, names[max(0, k - 2):k]) for k, name in enumerate(names)])
        session = Session(store)
        for name in names:
            self.assertEqual(session.table(name), compiled(store.program(), name))
        self.assertEqual(session.read(), sorted(names))
        self.assertIsNone(session.commit_word())


class Lines(Case):
    def test_20000_characters(self):
        store = Store()
        console = Console(store)
        lines = ["door a at 0 every 60; door b at 0 every 30;"] + [f"point p{k} at -{k + 1} every {k % 6 + 1};" for k in range(40)]
        lines += [f"rule p{k % 40} p{(k * 7 + 1) % 40} -{10 ** 30 + k};" for k in range(300)]
        text = "put module great {" + "".join(lines)
        text += " " * (19998 - len(text)) + "}\n"
        self.assertEqual(len(text), 20000)
        self.assertEqual(console.say(text), "1")
        self.assertEqual(console.say("commit"), "1")
        self.assertEqual(console.say("show great"), program_text(store.program()))
        for line in ("put " + "x" * 19996, "put module m {" + " " * 19986, "versions" + "\n" * 19991 + "!", "early great" + " 0" * 9900 + " x", "{" * 20000, "back 12" + "a" * 19990,
                     "lead great a b -" + "0" * 19000, "at " + "1" * 19997, "commit " + "9" * 19993):
            self.assertLessEqual(len(line), 20000)
            place = wrong_place(line)
            self.assertIsNotNone(place)
            self.assertEqual(console.say(line), f"no BadText {place}")
        self.assertEqual(console.say("early great" + " -7" * 6600), "no NoWay")
        self.assertEqual(console.say("versions" + " " * 19992), "1")
        self.assertEqual(console.say("table great").split("; ")[1], "a b none")

    def test_numbers_of_40_digits(self):
        console = Console(Store())
        self.assertEqual(console.say("put " + LEG_TEXT), "1")
        self.assertEqual(console.say("put " + TRIP_TEXT), "2")
        # A multiple of 6 of 40 digits.
        great = 6 * (10 ** 39 + 7)
        self.assertEqual(len(str(great)), 40)
        for sign in (1, -1):
            v = sign * great
            self.assertEqual(console.say(f"lead leg p q {v}"), str(v + 2))
            self.assertEqual(console.say(f"early trip {v} {v}"), f"{v} {v + 6}")
            self.assertEqual(console.say(f"lead leg p q {v + 1}"), "no NoWay")
        self.assertEqual(console.say("back " + "9" * 40), "no NoWay")
        self.assertEqual(console.say("put module m { point a at -" + "9" * 40 + " every " + "9" * 40 + "; }"), "no BadProgram")
        self.assertEqual(console.say("put module m { door a at -" + "9" * 40 + " every 60; }"), "3")
        self.assertEqual(console.say("table m"), f"a a {(1 - 10 ** 40) % 60}")
        self.assertEqual(console.say("put module m { door a at 0 every 2; door b at 0 every 2; chain " + str(10 ** 18) + " of leg from p to q as a to b; }"), "3")
        self.assertEqual(console.say("lead m a b 0"), str(3 * 10 ** 18))
        self.assertEqual(console.say("early m 0 0"), "no TooGreat")


if __name__ == "__main__":
    unittest.main()
