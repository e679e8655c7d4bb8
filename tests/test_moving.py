"""Registers moved ([S5.3])."""

import random
import unittest

from graphmodels import MOVING_G, all_values, clock, first_node, model_edges, model_needed, model_period, model_source, runs, starts
from models import T
from samples import random_graph, random_lots
from support import LoomTest

from bitloom.graphs import check_graph, has_one_names
from bitloom.moving import moved, moved_least
from bitloom.periods import early_lags, judge_lags, lags_for, least_period, least_shift, period

RING = (0, ((0, 10), (1, 2)), ((2, 5), (4, 6), (7, 9)), (10,))


def shifted(graph, lots, shift):
    """What a graph tells for some lots of noughts and these, without the first."""
    return runs(graph, [(0,) * graph[0]] * shift + lots)[shift:]


def most_registers(graph, lags):
    """How many registers the moved graph may have, by S5.3."""
    first = first_node(graph)
    lag = {None: 0, **{node: lags[node - first] for node in model_needed(graph)}}
    found, rings = 0, set()
    for source, node, _, many in model_edges(graph):
        found += many + lag[node] - lag.get(source, 0)
        while graph[0] < source < first and source not in rings:
            rings.add(source)
            source = graph[1][source - graph[0] - 1][1] // 2
    return found + len(rings)


class MovingTest(LoomTest):
    def is_moved(self, dice, graph, lags, many=25):
        """Moving a graph by lags tells what S5.3 says; returns it."""
        late, shift = self.is_new(moved, graph, lags)
        needed = model_needed(graph)
        self.assertEqual(shift, max([0, *[lags[node - first_node(graph)] for node in needed]]))
        self.assertIsNone(check_graph(late))
        self.assertIs(has_one_names(late), True)
        self.assertEqual((late[0], len(late[3])), (graph[0], len(graph[3])))
        self.assertLessEqual(len(late[2]), len(needed))
        self.assertLessEqual(len(late[1]), most_registers(graph, lags))
        self.assertLessEqual(period(late), model_period(graph, lags))
        for _ in range(2):
            lots = random_lots(dice, [1] * graph[0], many)
            self.assertEqual(runs(late, lots), shifted(graph, lots, shift))
        return late, shift

    def test_example(self):
        dice = random.Random(1)
        for lags in [(0, 0, 1), (0, 1, 1), (0, 0, 0)]:
            late, shift = self.is_moved(dice, MOVING_G, lags)
            self.assertEqual(shift, max(lags))
        self.assertEqual(moved(MOVING_G, (0, 0, 0))[0], MOVING_G)
        # The out is node 6 at once; its two literals come through a register each.
        late, _ = moved(MOVING_G, (0, 0, 1))
        self.assertEqual((len(late[1]), period(late)), (2, 2))
        self.assertEqual(moved_least(MOVING_G)[1], 1)

    def test_small_and_odd_ones(self):
        dice = random.Random(2)
        for graph in [T, RING, (0, (), (), ()), (2, (), (), (0, 1, 2, 5)), (1, ((1, 2), (0, 5)), (), (4, 7, 6)),
                      (0, ((1, 4), (0, 3)), (), (2, 5)), (0, ((1, 1), (0, 2), (0, 4)), (), (6, 7)),
                      (1, ((1, 2), (0, 4), (1, 6)), ((2, 8),), (10, 4, 8)), (1, ((0, 0), (1, 4)), ((6, 2),), (8,))]:
            self.is_moved(dice, graph, (0,) * len(graph[2]))
            late, shift = self.is_new(moved_least, graph)
            lots = random_lots(dice, [1] * graph[0], 20)
            self.assertEqual(runs(late, lots), shifted(graph, lots, shift))

    def test_registers_are_shared(self):
        # Both outs are the in bit two clocks ago; the registers begin alike, and then unlike.
        graph = (1, ((0, 2), (1, 4), (0, 2), (1, 8)), (), (6, 10))
        self.assertEqual(len(moved(graph, ())[0][1]), 2)
        graph = (1, ((0, 2), (1, 4), (0, 2), (0, 8)), (), (6, 10))
        self.assertEqual(len(moved(graph, ())[0][1]), 3)
        graph = (1, ((0, 2), (1, 4), (1, 2), (1, 8)), (), (6, 10))
        self.assertEqual(len(moved(graph, ())[0][1]), 4)
        # One literal turned, and what begins with 1 there, is the same.
        graph = (1, ((0, 2), (1, 3)), (), (4, 7))
        self.assertEqual(len(moved(graph, ())[0][1]), 1)

    def test_still_rings(self):
        # Only the ring that brings something stays.
        graph = (1, ((1, 6), (0, 5), (0, 8)), ((2, 6),), (10,))
        late, _ = self.is_moved(random.Random(3), graph, (0,))
        self.assertEqual(len(late[1]), 2)
        late, _ = self.is_moved(random.Random(3), (1, ((1, 6), (0, 5), (0, 8)), ((2, 4),), (8, 10)), (0,))
        self.assertEqual(len(late[1]), 3)

    def test_lags_below_0(self):
        dice = random.Random(4)
        for lag in (-1, -7, -1000):
            late, shift = self.is_moved(dice, RING, (lag, lag, lag))
            self.assertEqual(shift, 0)
        graph = (1, ((0, 2), (1, 4)), ((2, 6),), (8,))
        self.assertEqual(judge_lags(graph, 1, (-1,)), ("less", 4, 0))

    def test_lags_of_ands_that_are_not_needed_count_for_nothing(self):
        graph = (1, ((0, 6),), ((2, 4), (3, 4)), (4,))
        self.assertEqual(moved(graph, (0, 77)), moved(graph, (0, -77)))
        self.assertEqual(moved(graph, (0, 77))[1], 0)

    def test_ways_that_become_one(self):
        # Both and nodes bring the same when the register has gone ahead of them.
        graph = (1, ((0, 2), (0, 2), (1, 0)), ((4, 8), (6, 8)), (10, 12))
        late, _ = self.is_moved(random.Random(5), graph, (0, 0))
        self.assertLessEqual(len(late[2]), 1)

    def test_by_chance(self):
        dice = random.Random(6)
        shifts = 0
        for _ in range(250):
            graph = random_graph(dice, dice.randint(0, 3), dice.randint(0, 6), dice.randint(0, 12), dice.randint(0, 3))
            least = least_period(graph)
            for c in range(least, period(graph) + 2):
                for lags in (lags_for(graph, c), early_lags(graph, c)):
                    shifts += self.is_moved(dice, graph, lags)[1] > 0
        self.assertGreater(shifts, 50)

    def test_lags_changed_by_chance(self):
        dice = random.Random(7)
        for _ in range(250):
            graph = random_graph(dice, dice.randint(0, 3), dice.randint(1, 6), dice.randint(1, 12), dice.randint(1, 3))
            lags = [0] * len(graph[2])
            for _ in range(40):
                late = list(lags)
                late[dice.randrange(len(lags))] += dice.randint(-3, 3)
                if model_period(graph, late) is not None:
                    lags = late
            self.is_moved(dice, graph, tuple(lags))

    def test_moved_least(self):
        dice = random.Random(8)
        gains = 0
        for _ in range(150):
            graph = random_graph(dice, dice.randint(0, 3), dice.randint(0, 6), dice.randint(0, 14), dice.randint(0, 3))
            late, shift = moved_least(graph)
            least = least_period(graph)
            self.assertLessEqual(period(late), least)
            if period(graph) == least:
                self.assertEqual((late, shift), moved(graph, (0,) * len(graph[2])))
            else:
                gains += 1
                self.assertEqual(shift, least_shift(graph, least))
            lots = random_lots(dice, [1] * graph[0], 20)
            self.assertEqual(runs(late, lots), shifted(graph, lots, shift))
        self.assertGreater(gains, 10)

    def test_great_ones(self):
        dice = random.Random(9)
        graph = random_graph(dice, 50, 300, 1000, 50)
        late, shift = moved_least(graph)
        lots = random_lots(dice, [1] * 50, 10)
        self.assertEqual(runs(late, lots), shifted(graph, lots, shift))

    def test_starts_are_values_of_the_given_graph(self):
        # The register of the moved graph begins with what node 6 was a clock ahead of the first one.
        graph = (1, ((1, 5), (0, 8)), ((2, 4), (3, 5)), (6,))
        self.assertIsNone(check_graph(graph))
        state = starts(graph)
        self.assertEqual(clock(graph, state, (0,))[1], (0, 0))
        self.assertEqual(model_source(graph, 6), (4, 0, (3,)))
        self.assertEqual(all_values(graph, state, (0,))[4], 0)
        self.is_moved(random.Random(10), graph, (0, 0))
        self.is_moved(random.Random(10), graph, (1, 0))


if __name__ == "__main__":
    unittest.main()
