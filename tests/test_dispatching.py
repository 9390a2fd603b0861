"""Dispatchers (S9.1 to S9.6), against courses of the test's own."""

import random
import unittest

from roundticks.dispatching import Dispatcher
from roundticks.errors import BadAct, Gain, NothingDone, NoWay, UnknownName
from roundticks.networks import Network, with_least
from tests.case import Case, anything, lists_in, sample, shape
from tests.oracle import clocks_of, gains, is_timetable, period_of, risen, some_networks
from tests.test_following import NONE, has_one


def has_course(points, rules, numbers, now):
    """Whether a timetable has these numbers, and at least now at all other points."""
    floors = [numbers.get(name, now) for name, _, _ in points]
    found = risen(points, rules, floors)
    if found is None:
        return False
    return all(told is None or name not in numbers or told == numbers[name] for (name, _, _), told in zip(points, found))


class Model:
    """What a dispatcher is, told by its acts alone."""

    def __init__(self, points, rules):
        self.points, self.rules = points, rules
        self.clocks = clocks_of(points)
        self.acts = []

    def numbers(self):
        return {act[1]: act[2] for act in self.acts if act[0] == "fix"}

    def now(self):
        return ([None] + [act[1] for act in self.acts if act[0] == "wait"])[-1]

    def least(self):
        numbers, now = self.numbers(), self.now()
        found = risen(self.points, self.rules, [numbers.get(name, now) for name, _, _ in self.points])
        return dict(zip(self.clocks, found))

    def is_possible(self, name, number):
        return risen(self.points, self.rules, [number if own == name else None for own in self.clocks])[list(self.clocks).index(name)] == number

    def fix_word(self, name, number):
        """The word by the order of S9.5; what can be done, by courses."""
        if type(name) is not str or name not in self.clocks:
            return "name"
        if name in self.numbers():
            return "fixed"
        first, step = self.clocks[name]
        if type(number) is not int or (number - first) % step != 0:
            return "number"
        if not self.is_possible(name, number):
            return "rest"
        least = self.least()[name]
        if least is not None and number < least:
            return "least"
        return None if has_course(self.points, self.rules, {**self.numbers(), name: number}, self.now()) else "late"

    def can_fix(self, name, number):
        """Whether there is a course with this number, which must be one for now, too."""
        first, step = self.clocks[name]
        if (number - first) % step != 0 or (self.now() is not None and number < self.now()):
            return False
        return has_course(self.points, self.rules, {**self.numbers(), name: number}, self.now())

    def wait_word(self, now):
        if type(now) is not int or (self.now() is not None and now <= self.now()):
            return "now"
        return None if has_course(self.points, self.rules, self.numbers(), now) else "late"


class DispatcherCase(Case):
    def same(self, dispatcher, model):
        """The dispatcher tells what the model knows, and its course is one."""
        numbers, now = model.numbers(), model.now()
        self.tells(list(numbers.items()), dispatcher.fixed)
        self.tells([name for name in model.clocks if name not in numbers], dispatcher.open_names)
        self.tells(now, dispatcher.now)
        self.tells(model.acts, dispatcher.acts)
        self.assertEqual(dispatcher.network(), Network(model.points, model.rules))
        course = self.told(dispatcher.course)
        self.assertTrue(is_timetable(model.points, model.rules, course), course)
        for name, number in zip(model.clocks, course):
            self.assertTrue(number == numbers[name] if name in numbers else now is None or number >= now)

    def windows(self, dispatcher, model):
        """The windows, the latest now and what is due are as the courses tell."""
        period = period_of(model.points)
        least = model.least()
        lasts = {}
        for name in model.clocks:
            if name in model.numbers():
                self.refused(NoWay, {}, dispatcher.window, name)
                continue
            low, high, rests = self.told(dispatcher.window, name)
            self.assertEqual(low, least[name])
            self.assertEqual(rests, [v for v in range(period) if (v - model.clocks[name][0]) % model.clocks[name][1] == 0 and model.is_possible(name, v)])
            # Around the ends, and far out where there are none.
            near = [0] + [end + more for end in (low, high) if end is not None for more in range(-period - 1, period + 2)]
            near += [end + more * period for end in (low or 0, high or 0) for more in (-50, 50)]
            for number in near:
                can = (low is None or low <= number) and (high is None or number <= high) and number % period in rests
                self.assertEqual(model.can_fix(name, number), can, (name, number))
            for end in (low, high):
                self.assertTrue(end is None or model.can_fix(name, end))
            lasts[name] = high
        told = [high for high in lasts.values() if high is not None]
        latest = min(told, default=None)
        self.tells(latest, dispatcher.latest_now)
        self.tells([name for name, high in lasts.items() if high is not None and high == latest], dispatcher.due)
        if latest is not None and (model.now() is None or latest > model.now()):
            self.assertIsNone(model.wait_word(latest))
        if latest is not None:
            self.assertEqual(model.wait_word(latest + 1), "late")
        return latest

    def words(self, dispatcher, model, names, numbers):
        """The words for names and numbers are those of the model."""
        for name in names:
            for number in numbers:
                self.tells(model.fix_word(name, number), dispatcher.fix_word, name, number)
        for now in numbers:
            self.tells(model.wait_word(now), dispatcher.wait_word, now)

    def refuses(self, dispatcher, model):
        """What cannot be done is refused with its word, and changes nothing."""
        before = (shape(dispatcher.acts()), shape(dispatcher.fixed()), dispatcher.now(), shape(dispatcher.course()))
        for name in [*model.clocks, "none", None]:
            for number in (-10 ** 39, model.now(), 10 ** 39, True, None):
                word = model.fix_word(name, number)
                if word is not None:
                    self.refused(BadAct, {"word": word}, dispatcher.fix, name, number)
        for now in (model.now(), None, True, [], 10 ** 39):
            word = model.wait_word(now)
            if word is not None:
                self.refused(BadAct, {"word": word}, dispatcher.wait, now)
        self.assertEqual((shape(dispatcher.acts()), shape(dispatcher.fixed()), dispatcher.now(), shape(dispatcher.course())), before)

    def do(self, dispatcher, model, *act):
        """An act is done by both."""
        model.acts.append(act)
        function = {"fix": dispatcher.fix, "wait": dispatcher.wait}[act[0]]
        found = function(*act[1:])
        self.assertIs(type(found), int)
        self.assertEqual(found, len(model.acts))


def tight_networks(seed, many):
    """Small networks with a timetable and little room."""
    chance = random.Random(seed)
    for _ in range(many):
        points = [(f"p{k}", chance.randint(-9, 9), chance.choice([1, 1, 2, 3, 4, 6])) for k in range(chance.randint(2, 4))]
        at = {name: first + step * chance.randint(-5, 5) for name, first, step in points}
        pairs = [(chance.choice(list(at)), chance.choice(list(at))) for _ in range(chance.randint(1, 7))]
        yield points, [(p, q, at[q] - at[p] - chance.choice([0, 0, 1, 2, 5])) for p, q in pairs]


def both(network):
    return Dispatcher(network), Model(network.points(), network.rules())


class Examples(DispatcherCase):
    def test_the_example(self):
        dispatcher, model = both(sample())
        for name, rests in [("a", [0, 1, 2, 3, 4, 5]), ("b", [1, 3, 5]), ("c", [0, 3])]:
            self.tells((None, None, rests), dispatcher.window, name)
        self.assertIsNone(self.windows(dispatcher, model))
        self.tells([], dispatcher.due)
        self.do(dispatcher, model, "fix", "c", 9)
        self.tells((3, 5, [0, 1, 2, 3, 4, 5]), dispatcher.window, "a")
        self.tells((5, 7, [1, 3, 5]), dispatcher.window, "b")
        self.tells(5, dispatcher.latest_now)
        self.tells(["a"], dispatcher.due)
        self.do(dispatcher, model, "wait", 4)
        self.tells((4, 5, [0, 1, 2, 3, 4, 5]), dispatcher.window, "a")
        self.tells((7, 7, [1, 3, 5]), dispatcher.window, "b")
        self.tells("late", dispatcher.wait_word, 6)
        self.refused(BadAct, {"word": "late"}, dispatcher.wait, 6)
        self.same(dispatcher, model)
        self.do(dispatcher, model, "fix", "a", 5)
        self.tells((7, 7, [1, 3, 5]), dispatcher.window, "b")
        self.tells(7, dispatcher.latest_now)
        self.tells(["b"], dispatcher.due)
        self.windows(dispatcher, model)
        self.same(dispatcher, model)

    def test_a_network_without_a_timetable(self):
        for network in (NONE, Network([("a", 0, 1)], [("a", "a", 1)])):
            rings = []
            for _ in range(2):
                with self.assertRaises(Gain) as caught:
                    Dispatcher(network)
                self.assertIs(type(caught.exception), Gain)
                rings.append(caught.exception.ring)
            self.assertEqual(rings[0], rings[1])
            self.assertTrue(gains(network.points(), network.rules(), rings[0]))

    def test_no_points(self):
        dispatcher, model = both(Network([], []))
        self.same(dispatcher, model)
        self.tells((), dispatcher.course)
        self.tells(None, dispatcher.latest_now)
        self.do(dispatcher, model, "wait", -5)
        self.do(dispatcher, model, "wait", 10 ** 39)
        self.same(dispatcher, model)
        self.tells("name", dispatcher.fix_word, "a", 0)


class Words(DispatcherCase):
    def test_name(self):
        dispatcher, _ = both(sample())
        dispatcher.fix("a", 3)
        for name in [value for value in anything() if value != "a"] + ["A", "a ", "z", ("a",), ["b"], {"b": 0}]:
            for number in (5, True, None, "x", [0]):
                self.tells("name", dispatcher.fix_word, name, number)
            self.refused(BadAct, {"word": "name"}, dispatcher.fix, name, 3)
            self.refused(UnknownName, {"name": name}, dispatcher.window, name)

    def test_fixed_ahead_of_number(self):
        dispatcher, _ = both(sample())
        dispatcher.fix("b", 5)
        for number in [5, 6, 7, *anything()]:
            self.tells("fixed", dispatcher.fix_word, "b", number)
        self.refused(BadAct, {"word": "fixed"}, dispatcher.fix, "b", 5)
        self.refused(NoWay, {}, dispatcher.window, "b")

    def test_number_ahead_of_rest_least_and_late(self):
        network = Network([("a", 0, 2), ("b", 1, 4), ("z", 0, 12)], [("a", "b", 1), ("b", "a", -2)])
        dispatcher, _ = both(network)
        dispatcher.wait(20)
        for number in [value for value in anything() if not isinstance(value, int) or isinstance(value, bool) or value % 2] + [1, -1, 21, 10 ** 39 + 1]:
            self.tells("number", dispatcher.fix_word, "a", number)
        dispatcher.fix("b", 25)
        for number in (19, 21, 25, 27):
            self.tells("number", dispatcher.fix_word, "a", number)
        for number in (True, False, None, "24", [24], (24,), {}):
            self.refused(BadAct, {"word": "number"}, dispatcher.fix, "a", number)

    def test_rest_ahead_of_least_and_late(self):
        # a can have 2, 3 and 5 alone, and their like.
        dispatcher, model = both(with_least(sample(), 2, -4))
        dispatcher.wait(60)
        model.acts.append(("wait", 60))
        for number, word in [(54, "rest"), (55, "rest"), (56, "least"), (57, "least"), (58, "rest"), (59, "least"), (60, "rest"), (61, "rest"), (62, None), (63, None), (600, "rest"), (602, None)]:
            self.tells(word, dispatcher.fix_word, "a", number)
            self.assertEqual(model.fix_word("a", number), word)
        self.do(dispatcher, model, "fix", "c", 72)
        low, high, _ = dispatcher.window("a")
        self.tells("rest", dispatcher.fix_word, "a", 600)
        self.tells("late", dispatcher.fix_word, "a", 602)
        self.assertEqual([number for number in range(50, 90) if dispatcher.fix_word("a", number) is None], [number for number in range(low, high + 1) if number % 6 in (2, 3, 5)])
        for number in range(40, 100):
            self.tells(model.fix_word("a", number), dispatcher.fix_word, "a", number)

    def test_least_and_late(self):
        dispatcher, model = both(sample())
        self.do(dispatcher, model, "fix", "c", 9)
        words = [dispatcher.fix_word("a", number) for number in range(0, 9)]
        self.assertEqual(words, ["least"] * 3 + [None] * 3 + ["late"] * 3)
        words = [dispatcher.fix_word("b", number) for number in range(1, 13, 2)]
        self.assertEqual(words, ["least", "least", None, None, "late", "late"])
        for number, word in [(2, "least"), (6, "late"), (-10 ** 39, "least"), (10 ** 39, "late")]:
            self.refused(BadAct, {"word": word}, dispatcher.fix, "a", number)

    def test_least_and_late_by_several_points(self):
        network = Network([("a", 0, 1), ("b", 0, 1), ("c", 0, 1)], [("a", "b", 0), ("c", "a", 0)])
        dispatcher, model = both(network)
        self.do(dispatcher, model, "fix", "b", 10)
        self.do(dispatcher, model, "wait", 7)
        self.words(dispatcher, model, ["a", "c"], range(0, 20))
        self.assertEqual([dispatcher.fix_word("a", number) for number in (6, 7, 10, 11)], ["least", None, None, "late"])
        network = Network([("a", 0, 1), ("b", 0, 5), ("c", 0, 5)], [("b", "a", 3), ("a", "c", -2)])
        dispatcher, model = both(network)
        self.do(dispatcher, model, "fix", "b", 5)
        self.do(dispatcher, model, "fix", "c", 10)
        self.words(dispatcher, model, ["a"], range(0, 20))

    def test_now(self):
        dispatcher, model = both(sample())
        for now in (True, False, None, "4", [4], (4,), {}, sample()):
            self.tells("now", dispatcher.wait_word, now)
            self.refused(BadAct, {"word": "now"}, dispatcher.wait, now)
        for now in (-10 ** 39, 0, 10 ** 39):
            self.tells(None, dispatcher.wait_word, now)
        self.do(dispatcher, model, "wait", -10 ** 39)
        self.do(dispatcher, model, "wait", 4)
        for now in (4, 3, 0, -1, -10 ** 39, *[value for value in anything() if not isinstance(value, int) or isinstance(value, bool)]):
            self.tells("now", dispatcher.wait_word, now)
            self.refused(BadAct, {"word": "now"}, dispatcher.wait, now)
        self.tells(None, dispatcher.wait_word, 5)
        self.do(dispatcher, model, "fix", "c", 12)
        latest = dispatcher.latest_now()
        # Not greater than now comes ahead of late: here nothing is both, since waiting so long was done.
        self.assertEqual([dispatcher.wait_word(now) for now in (4, latest, latest + 1, 10 ** 39)], ["now", None, "late", "late"])
        self.do(dispatcher, model, "wait", latest)
        self.assertEqual([dispatcher.wait_word(now) for now in (latest, latest + 1)], ["now", "late"])
        self.same(dispatcher, model)
        self.tells(latest, dispatcher.latest_now)
        self.assertIn("a", dispatcher.due())


class Undone(DispatcherCase):
    def test_back_to_the_beginning(self):
        dispatcher, model = both(sample())
        self.refused(NothingDone, {}, dispatcher.undo)
        states = []
        for act in [("wait", -3), ("fix", "c", 9), ("wait", 4), ("wait", 5), ("fix", "a", 5), ("fix", "b", 7), ("wait", 100)]:
            states.append(self.state(dispatcher))
            self.do(dispatcher, model, *act)
        while states:
            model.acts.pop()
            self.assertEqual(dispatcher.undo(), len(model.acts))
            self.assertEqual(self.state(dispatcher), states.pop())
            self.same(dispatcher, model)
        for _ in range(2):
            self.refused(NothingDone, {}, dispatcher.undo)
        self.assertTrue(dispatcher == Dispatcher(sample()))
        self.assertEqual(dispatcher.fix("c", 9), 1)

    def state(self, dispatcher):
        windows = [dispatcher.window(name) for name in dispatcher.open_names()]
        return shape((dispatcher.acts(), dispatcher.fixed(), dispatcher.now(), dispatcher.open_names(), windows, dispatcher.latest_now(), dispatcher.due(), dispatcher.course()))

    def test_other_acts_after_undoing(self):
        dispatcher, model = both(sample())
        self.do(dispatcher, model, "fix", "c", 9)
        self.tells("late", dispatcher.fix_word, "a", 6)
        self.assertEqual(dispatcher.undo(), 0)
        model.acts.pop()
        self.tells(None, dispatcher.fix_word, "a", 6)
        self.do(dispatcher, model, "wait", 8)
        self.do(dispatcher, model, "fix", "c", 15)
        self.windows(dispatcher, model)
        self.assertEqual(dispatcher.undo(), 1)
        self.assertEqual(dispatcher.undo(), 0)
        self.tells(None, dispatcher.now)
        self.tells(None, dispatcher.wait_word, 3)


class Twins(DispatcherCase):
    def test_a_twin_goes_its_own_way(self):
        one, model = both(sample())
        self.do(one, model, "wait", 2)
        twin = one.twin()
        self.assertIs(type(twin), Dispatcher)
        self.assertIsNot(twin, one)
        self.assertTrue(twin == one and one == twin and not one != twin)
        self.same(twin, model)
        self.do(one, model, "fix", "c", 9)
        self.assertFalse(twin == one)
        self.tells([], twin.fixed)
        self.tells((2, None, [0, 1, 2, 3, 4, 5]), twin.window, "a")
        self.same(one, model)
        self.assertEqual(twin.fix("a", 50), 2)
        self.same(one, model)
        self.windows(one, model)
        self.assertEqual(twin.undo(), 1)
        self.assertEqual(twin.undo(), 0)
        self.refused(NothingDone, {}, twin.undo)
        self.same(one, model)
        again = one.twin()
        self.assertEqual(again.undo(), 1)
        self.assertEqual(again.acts(), [("wait", 2)])
        self.same(one, model)

    def test_equal_and_unlike(self):
        one, other = Dispatcher(sample()), Dispatcher(sample())
        self.assertTrue(one == other and not one != other)
        one.fix("c", 9)
        self.assertTrue(one != other and not one == other)
        other.fix("c", 9)
        self.assertTrue(one == other)
        # The same numbers by other acts.
        one.fix("a", 4)
        one.fix("b", 7)
        other.fix("b", 7)
        self.assertFalse(one == other)
        other.fix("a", 4)
        self.assertEqual(sorted(one.fixed()), sorted(other.fixed()))
        self.assertFalse(one == other)
        one, other = Dispatcher(sample()), Dispatcher(sample())
        one.wait(1)
        one.wait(3)
        other.wait(3)
        self.assertFalse(one == other)
        self.assertFalse(Dispatcher(sample()) == Dispatcher(with_least(sample(), 2, -7)))
        # Points with the same numbers, told otherwise, are no equal network.
        self.assertFalse(Dispatcher(Network([("a", 0, 2)], [])) == Dispatcher(Network([("a", 2, 2)], [])))
        for value in anything():
            self.assertIs(one == value, False)
            self.assertIs(one != value, True)


class Lists(DispatcherCase):
    def test_new_lists_each_time(self):
        dispatcher, model = both(with_least(sample(), 2, -4))
        self.do(dispatcher, model, "wait", 1)
        self.do(dispatcher, model, "fix", "a", 3)
        for function, *arguments in [(dispatcher.fixed,), (dispatcher.open_names,), (dispatcher.acts,), (dispatcher.due,), (dispatcher.window, "b")]:
            before = shape(function(*arguments))
            for told in lists_in(function(*arguments)):
                told.append("x")
                told.reverse()
                told.clear()
            self.assertEqual(shape(function(*arguments)), before)
        self.same(dispatcher, model)


class Chance(DispatcherCase):
    def act(self, chance, model):
        """Some act that may be done or not."""
        numbers, period = model.numbers(), period_of(model.points)
        names = [name for name in model.clocks if name not in numbers]
        base = (model.now() or 0) if chance.random() < 0.7 else chance.choice(list(numbers.values()) or [0])
        if names and chance.random() < 0.65:
            name = chance.choice(names)
            first, step = model.clocks[name]
            near = base + chance.randint(-5, 2 * period)
            return ("fix", name, near - (near - first) % step)
        return ("wait", base + chance.randint(0, 5))

    def finish(self, chance, dispatcher, model):
        """From any state all points can be fixed in the end, however long it takes."""
        while dispatcher.open_names():
            latest = dispatcher.latest_now()
            if latest is not None and (model.now() is None or latest > model.now()) and chance.random() < 0.4:
                self.do(dispatcher, model, "wait", latest)
            name = chance.choice(dispatcher.due() or dispatcher.open_names())
            low, high, rests = dispatcher.window(name)
            ends = [end for end in (low, high) if end is not None] or [rests[0] - 10 * period_of(model.points)]
            self.do(dispatcher, model, "fix", name, chance.choice(ends))
            self.same(dispatcher, model)
        self.assertTrue(is_timetable(model.points, model.rules, tuple(model.numbers()[name] for name in model.clocks)))
        self.tells(None, dispatcher.latest_now)
        self.tells([], dispatcher.due)
        self.assertIsNone(dispatcher.wait_word(10 ** 39))

    def test_acts_by_chance(self):
        chance = random.Random(311)
        words = {}
        for points, rules in tight_networks(312, 120):
            dispatcher, model = both(Network(points, rules))
            for _ in range(8):
                act = self.act(chance, model)
                word = model.fix_word(*act[1:]) if act[0] == "fix" else model.wait_word(act[1])
                words[word] = words.get(word, 0) + 1
                function = dispatcher.fix if act[0] == "fix" else dispatcher.wait
                asked = dispatcher.fix_word if act[0] == "fix" else dispatcher.wait_word
                self.tells(word, asked, *act[1:])
                if word is None:
                    self.do(dispatcher, model, *act)
                    if chance.random() < 0.2:
                        model.acts.pop()
                        self.assertEqual(dispatcher.undo(), len(model.acts))
                else:
                    self.refused(BadAct, {"word": word}, function, *act[1:])
                self.same(dispatcher, model)
            self.windows(dispatcher, model)
            self.refuses(dispatcher, model)
            self.finish(chance, dispatcher.twin(), self.copied(model))
            self.same(dispatcher, model)
        self.assertEqual(set(words), {None, "now", "late", "least", "rest"})

    def copied(self, model):
        other = Model(model.points, model.rules)
        other.acts = list(model.acts)
        return other

    def test_windows_step_by_step(self):
        for points, rules in [*some_networks(313, 40, steps=(1, 2, 3, 6), most=4), *tight_networks(315, 40)]:
            if not has_one(points, rules):
                continue
            dispatcher, model = both(Network(points, rules))
            chance = random.Random(314)
            latest = []
            while dispatcher.open_names():
                latest.append(self.windows(dispatcher, model))
                name = chance.choice(dispatcher.open_names())
                low, high, rests = dispatcher.window(name)
                number = low if low is not None else high if high is not None else rests[-1]
                self.do(dispatcher, model, "fix", name, number)
                now = dispatcher.latest_now()
                if now is not None and model.now() is None:
                    self.do(dispatcher, model, "wait", now - 1)
            self.windows(dispatcher, model)


if __name__ == "__main__":
    unittest.main()
