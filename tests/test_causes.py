"""Cause papers, told and judged (S3.4)."""

import itertools
import random
import unittest

from roundticks.causes import cause_paper, judge_causes
from roundticks.errors import Gain
from roundticks.networks import Network, with_least, with_rules
from tests.case import Case, anything, nested, sample
from tests.oracle import gains, is_right_paper, reached, risen, some_networks

PAPER = ((0, 3, 6), (("a", ()), ("a", (0,)), ("a", (0, 1))))
FLOORS = [0, None, None]


def row_network():
    """Points in a row, with a way round the second one, and one point that nothing comes to."""
    points = [("a", 0, 1), ("b", 0, 2), ("c", 1, 3), ("d", 0, 1)]
    return Network(points, [("a", "b", 1), ("b", "c", 1), ("a", "c", 2), ("d", "a", 0)])


class Told(Case):
    def paper(self, network, floors):
        """The paper told, which is right, and has the numbers that rising comes to."""
        points, rules = network.points(), network.rules()
        found = self.told(cause_paper, network, floors)
        self.assertEqual(found, cause_paper(network, tuple(floors)))
        self.assertTrue(is_right_paper(points, rules, floors, found), found)
        self.assertEqual(found[0], risen(points, rules, floors))
        for walk in found[1]:
            if walk is not None:
                self.assertLessEqual(len(walk[1]), 60 * len(points))
        self.tells(True, judge_causes, network, floors, found)
        self.tells(True, judge_causes, network, tuple(floors), found)
        return found

    def gain(self, network, floors):
        """Gain is raised, each time with the same ring that gains."""
        rings = []
        for some in (list, tuple, list):
            passed = some(floors)
            with self.assertRaises(Gain) as caught:
                cause_paper(network, passed)
            self.assertIs(type(caught.exception), Gain)
            self.assertEqual(passed, some(floors))
            rings.append(caught.exception.ring)
        self.assertEqual([rings[0]] * 3, rings)
        self.assertTrue(gains(network.points(), network.rules(), rings[0]), rings[0])
        self.assertLessEqual(len(rings[0][2]), 60 * len(network.points()))

    def test_the_example(self):
        self.assertEqual(self.paper(sample(), FLOORS), PAPER)
        self.assertEqual(self.paper(sample(), [0, 0, 0])[0], (0, 3, 6))
        self.assertEqual(self.paper(sample(), [None, None, 8]), ((3, 5, 9), (("c", (2,)), ("c", (2, 0)), ("c", ()))))

    def test_a_walk_that_comes_to_a_point_more_than_once(self):
        numbers, walks = self.paper(with_least(sample(), 2, -4), FLOORS)
        self.assertEqual((numbers, walks[:2]), ((2, 5, 6), (("a", (0, 1, 2)), ("a", (0, 1, 2, 0)))))
        # Each lap goes up by a little, and after some laps no further.
        network = Network([("a", 3, 5), ("b", 1, 6)], [("a", "b", 2), ("b", "a", -3)])
        longest = [0, 0]
        for floor in range(30):
            _, walks = self.paper(network, [floor, None])
            longest = [max(most, len(walk[1])) for most, walk in zip(longest, walks)]
        self.assertGreaterEqual(min(longest), 7)

    def test_floors_at_no_point(self):
        for network in (sample(), with_least(sample(), 2, 5), Network([("a", 0, 1)], [("a", "a", 5)])):
            many = len(network.points())
            self.assertEqual(self.paper(network, [None] * many), ((None,) * many, (None,) * many))
        self.assertEqual(self.paper(Network([], []), []), ((), ()))
        self.assertEqual(self.paper(Network([], []), ()), ((), ()))

    def test_floors_at_one_some_and_all_points(self):
        network = row_network()
        self.assertEqual(self.paper(network, [0, None, None, None]),
                         ((0, 2, 4, None), (("a", ()), ("a", (0,)), ("a", (0, 1)), None)))
        self.assertEqual(self.paper(network, [None, 1, None, None]), ((None, 2, 4, None), (None, ("b", ()), ("b", (1,)), None)))
        self.assertEqual(self.paper(network, [None, None, 2, None]), ((None, None, 4, None), (None, None, ("c", ()), None)))
        self.assertEqual(self.paper(network, [None, None, None, 7])[0], (7, 8, 10, 7))
        self.assertEqual(self.paper(network, [None, 11, None, 7])[1], (("d", (3,)), ("b", ()), ("b", (1,)), ("d", ())))
        self.assertEqual(self.paper(network, [5, -100, 100, -100])[0], (5, 6, 100, -100))
        for floors in itertools.product((None, -5, 0, 9), repeat=4):
            self.paper(network, list(floors))

    def test_floors_off_the_clocks(self):
        network = Network([("a", 1, 60)], [])
        for floor, number in ((-59, -59), (-58, 1), (1, 1), (2, 61), (10 ** 30, None)):
            found = self.paper(network, [floor])
            self.assertEqual(found[1], (("a", ()),))
            if number is not None:
                self.assertEqual(found[0], (number,))

    def test_gain_where_rising_comes_to_no_end(self):
        for least in (-2, -1, 0, 10 ** 30):
            for floors in ([0, 0, 0], [0, None, None], [None, None, -10 ** 30]):
                self.gain(with_least(sample(), 2, least), floors)
        self.gain(with_rules(row_network(), [("c", "b", 0)]), [None, None, None, 0])

    def test_no_gain_where_the_floors_do_not_lead_to_the_ring(self):
        network = with_rules(row_network(), [("d", "d", 1)])
        self.assertEqual(self.paper(network, [0, None, None, None])[0], (0, 2, 4, None))
        self.gain(network, [0, None, None, 0])
        self.gain(network, [None, None, None, -7])

    def test_by_chance(self):
        chance = random.Random(21)
        both = [0, 0]
        for points, rules in some_networks(22, 400):
            network = Network(points, rules)
            floors = [chance.choice([None, None, 0, 5, -5, 12]) for _ in points]
            is_gain = risen(points, rules, floors) is None
            both[is_gain] += 1
            if is_gain:
                self.gain(network, floors)
            else:
                found = self.paper(network, floors)
                starts = [point[0] for point, floor in zip(points, floors) if floor is not None]
                self.assertEqual({p[0] for p, number in zip(points, found[0]) if number is not None}, reached(rules, starts))
        self.assertGreater(min(both), 50)


class Judged(Case):
    def wrong(self, value, floors=FLOORS, network=None):
        network = sample() if network is None else network
        self.assertFalse(is_right_paper(network.points(), network.rules(), floors, value), value)
        self.tells(False, judge_causes, network, floors, value)

    def right(self, value, floors=FLOORS, network=None):
        network = sample() if network is None else network
        self.assertTrue(is_right_paper(network.points(), network.rules(), floors, value), value)
        self.tells(True, judge_causes, network, floors, value)

    def test_right_ones(self):
        self.right(PAPER)
        self.right(((3, 5, 9), (("c", (2,)), ("c", (2, 0)), ("c", ()))), [None, None, 8])
        self.right(((None,) * 3, (None,) * 3), [None] * 3)
        self.right(((), ()), [], Network([], []))

    def test_any_walk_that_leads_to_the_number(self):
        self.right(((0, 3, 6), (("a", (0, 1, 2)), ("a", (0,)), ("a", (0, 1)))))
        self.right(((0, 3, 6), (("a", (0, 1, 2, 0, 1, 2)), ("a", (0, 1, 2, 0)), ("a", (0, 1)))))
        self.right(((0, 3, 6), (("c", (2,)), ("b", ()), ("b", (1,)))), [None, 3, 6])
        self.right(((0, 3, 6), (("a", ()), ("a", (0,)), ("c", ()))), [0, None, 6])
        self.wrong(((0, 3, 6), (("a", (0, 1, 2)), ("a", (0,)), ("a", (0, 1, 0)))))

    def test_numbers_that_are_less_or_greater(self):
        for k in range(3):
            for more in (-6, 6, -60, 10 ** 30, -10 ** 30):
                numbers = list(PAPER[0])
                numbers[k] += more
                self.wrong((tuple(numbers), PAPER[1]))
        for more in (-12, -6, 6, 12):
            self.wrong((tuple(number + more for number in PAPER[0]), PAPER[1]))

    def test_a_number_below_its_floor(self):
        network = Network([("a", 0, 1), ("b", 0, 1)], [])
        for floor in (5, 6):
            self.wrong(((0, 4), (("a", ()), ("a", ()))), [0, floor], network)
            self.wrong(((0, 4), (("a", ()), ("b", ()))), [0, floor], network)
        self.right(((0, 4), (("a", ()), ("b", ()))), [0, 4], network)
        # The walk is right, but the end has a greater floor.
        network = Network([("a", 0, 1), ("b", 0, 1)], [("a", "b", 4)])
        self.wrong(((0, 4), (("a", ()), ("a", (0,)))), [0, 5], network)
        self.right(((0, 5), (("a", ()), ("b", ()))), [0, 5], network)
        self.right(((0, 4), (("a", ()), ("a", (0,)))), [0, 4], network)
        self.right(((0, 4), (("a", ()), ("a", (0,)))), [0, 3], network)

    def test_a_rule_that_is_not_kept(self):
        network = Network([("a", 0, 1), ("b", 0, 1)], [("a", "b", 3), ("a", "b", 4)])
        self.wrong(((0, 3), (("a", ()), ("a", (0,)))), [0, None], network)
        self.right(((0, 4), (("a", ()), ("a", (1,)))), [0, None], network)
        self.wrong(((0, None), (("a", ()), None)), [0, None], network)
        self.wrong(((0, 3), (("a", ()), ("b", ()))), [0, 3], network)
        self.right(((0, 5), (("a", ()), ("b", ()))), [0, 5], network)

    def test_numbers_off_their_clocks(self):
        network = Network([("a", 0, 2), ("b", 1, 3)], [("a", "b", 1)])
        self.right(((0, 1), (("a", ()), ("a", (0,)))), [-1, None], network)
        for number in (-1, 1, 3):
            self.wrong(((number, 4), (("a", ()), ("a", (0,)))), [-1, None], network)
        for number in (2, 3, 0, 5):
            self.wrong(((0, number), (("a", ()), ("a", (0,)))), [-1, None], network)
            self.wrong(((0, number), (("a", ()), ("b", ()))), [-1, number], network)
        # A floor that is off the clock is no number of the point.
        self.wrong(((-1, 1), (("a", ()), ("a", (0,)))), [-1, None], network)

    def test_none_for_a_number_and_the_other_way_round(self):
        for k in range(3):
            numbers, walks = list(PAPER[0]), list(PAPER[1])
            numbers[k] = None
            self.wrong((tuple(numbers), PAPER[1]))
            walks[k] = None
            self.wrong((tuple(numbers), tuple(walks)))
            self.wrong((PAPER[0], tuple(walks)))
        network = row_network()
        floors = [0, None, None, None]
        self.right(((0, 2, 4, None), (("a", ()), ("a", (0,)), ("a", (0, 1)), None)), floors, network)
        for walk in (("a", ()), ("d", ()), (), ("d",), 0, False, ""):
            self.wrong(((0, 2, 4, None), (("a", ()), ("a", (0,)), ("a", (0, 1)), walk)), floors, network)
        for walk in (None, ("a", ()), ("d", ()), ("a", (0,))):
            self.wrong(((0, 2, 4, 0), (("a", ()), ("a", (0,)), ("a", (0, 1)), walk)), floors, network)
        self.wrong(((None,) * 4, (None,) * 4), floors, network)

    def test_walks_that_start_end_or_lead_elsewhere(self):
        numbers = PAPER[0]
        for k in range(3):
            for walk in [("b", ()), ("c", ()), ("a", (1,)), ("a", (2,)), ("a", (0, 0)), ("a", (0, 2)), ("a", (0, 1, 2, 1)),
                         ("b", (1,)), ("c", (2,)), ("a", (3,)), ("a", (-1,)), ("a", (0, -2)), ("a", (0, 1, 2) * 5 + (2,))]:
                walks = list(PAPER[1])
                walks[k] = walk
                self.wrong((numbers, tuple(walks)))
        self.wrong((numbers, (("a", (0,)), ("a", (0,)), ("a", (0, 1)))))
        self.wrong((numbers, (("a", ()), ("a", ()), ("a", (0, 1)))))
        self.wrong((numbers, (("a", ()), ("a", (0,)), ("a", (0,)))))
        # Led to a lesser number, from one floor, where another one leads to the number told.
        network = Network([("a", 0, 1), ("b", 0, 1), ("c", 0, 1)], [("a", "c", 1), ("b", "c", 1)])
        self.right(((0, 5, 6), (("a", ()), ("b", ()), ("b", (1,)))), [0, 5, None], network)
        self.wrong(((0, 5, 6), (("a", ()), ("b", ()), ("a", (0,)))), [0, 5, None], network)
        self.wrong(((0, 5, 7), (("a", ()), ("b", ()), ("b", (1,)))), [0, 5, None], network)
        self.wrong(((0, 5, 1), (("a", ()), ("b", ()), ("a", (0,)))), [0, 5, None], network)

    def test_walks_from_points_without_a_floor(self):
        network = Network([("a", 0, 1), ("b", 0, 1)], [("a", "b", 0), ("b", "a", 0)])
        self.right(((0, 0), (("a", ()), ("a", (0,)))), [0, None], network)
        self.wrong(((0, 0), (("a", ()), ("b", ()))), [0, None], network)
        self.wrong(((0, 0), (("b", (1,)), ("a", (0,)))), [0, None], network)
        self.wrong(((0, 0), (("b", (1,)), ("b", ()))), [None, None], network)
        for name in ("c", "", "A", None, 0, True, ["a"], ("a",), {"a": 1}):
            self.wrong(((0, 0), ((name, ()), ("a", (0,)))), [0, None], network)

    def test_members_too_few_and_too_many(self):
        numbers, walks = PAPER
        for value in [(), (numbers,), (walks,), (numbers, walks, ()), (numbers, walks, walks), (walks, numbers),
                      (numbers[:2], walks), (numbers, walks[:2]), (numbers[:2], walks[:2]), (numbers + (6,), walks),
                      (numbers, walks + (None,)), (numbers + (None,), walks + (None,)), ((), ()), (numbers, ()), ((), walks)]:
            self.wrong(value)
        for walk in [("a",), ("a", (0,), ()), ("a", 0), (), "a", "ab", ((0,), "a"), ("a", (0,), 3)]:
            self.wrong((numbers, (("a", ()), walk, ("a", (0, 1)))))

    def test_lists_in_the_place_of_tuples(self):
        numbers, walks = PAPER
        for value in [[numbers, walks], (list(numbers), walks), (numbers, list(walks)),
                      (numbers, (["a", ()], walks[1], walks[2])), (numbers, (walks[0], walks[1], ["a", (0, 1)])),
                      (numbers, (("a", []), walks[1], walks[2])), (numbers, (walks[0], ("a", [0]), walks[2])),
                      (numbers, (walks[0], ("a", ([0],)), walks[2])), {0: numbers, 1: walks}, {numbers: walks}]:
            self.wrong(value)

    def test_values_of_all_kinds(self):
        for value in anything():
            self.wrong(value)
            self.wrong((value, value))
            self.wrong((PAPER[0], value))
            self.wrong((value, PAPER[1]))
            for k in range(3):
                numbers, walks = list(PAPER[0]), list(PAPER[1])
                walks[k] = value
                self.wrong((PAPER[0], tuple(walks)))
                if type(value) is not int or value != numbers[k]:
                    numbers[k] = value
                    self.wrong((tuple(numbers), PAPER[1]))
            if value != "a":
                self.wrong((PAPER[0], (("a", ()), (value, (0,)), ("a", (0, 1)))))
            if value not in ((0,),):
                self.wrong((PAPER[0], (("a", ()), ("a", value), ("a", (0, 1)))))
            if type(value) is not int or value != 0:
                self.wrong((PAPER[0], (("a", ()), ("a", (value,)), ("a", (0, 1)))))

    def test_values_of_all_kinds_without_points(self):
        for value in anything():
            self.assertIs(judge_causes(Network([], []), [], value), False)
            self.assertIs(judge_causes(Network([], []), [], ((), value)), value == ())

    def test_true_and_false_are_no_numbers(self):
        network = Network([("a", 0, 1), ("b", 0, 1)], [("a", "b", 0), ("a", "b", 1)])
        self.right(((0, 1), (("a", ()), ("a", (1,)))), [0, None], network)
        self.wrong(((0, True), (("a", ()), ("a", (1,)))), [0, None], network)
        self.wrong(((False, 1), (("a", ()), ("a", (1,)))), [0, None], network)
        self.wrong(((0, 1), (("a", ()), ("a", (True,)))), [0, None], network)
        self.wrong(((0, 0), (("a", ()), ("a", (False,)))), [0, None], Network(network.points(), network.rules()[:1]))

    def test_deep_values(self):
        for wrap in (lambda value: (value,), lambda value: [value], lambda value: (value, value), lambda value: {"a": value}):
            if wrap(0) != (0, 0):
                self.wrong(nested(40, wrap, PAPER))
            else:
                self.wrong(nested(10, wrap, PAPER))

    def test_the_right_ones_have_just_the_forced_numbers(self):
        network = with_least(sample(), 2, -4)
        found = 0
        walks = [("a", (0, 1, 2) * k + (0, 1)[:j]) for k in range(3) for j in range(3)]
        for a, b, c in itertools.product(range(4), (1, 3, 5, 7), (3, 6, 9)):
            for paper in itertools.product(walks, repeat=3):
                value = ((a, b, c), paper)
                if is_right_paper(network.points(), network.rules(), FLOORS, value):
                    found += 1
                    self.assertEqual((a, b, c), (2, 5, 6))
                    self.assertIs(judge_causes(network, FLOORS, value), True)
                elif paper[0] == walks[3] and paper[1] == walks[4]:
                    self.assertIs(judge_causes(network, FLOORS, value), False)
        self.assertGreater(found, 5)


if __name__ == "__main__":
    unittest.main()
