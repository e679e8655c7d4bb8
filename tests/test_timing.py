"""Times ([S7.8], [S7.9])."""

import random
import unittest

from graphmodels import CELLS_T, FABRIC_F, cell_runs
from layermodels import LAID_T, all_way_sums, is_way, timed_runs
from samples import random_lots
from support import LoomTest
from test_laid import CELLS, FABRIC, LAID, many_laid

from bitloom.laid import check_laid
from bitloom.timing import delay, longest_way, table_times, timed_outputs

NOTHING = (FABRIC_F, (2, 0, (), ()), ((),) * 5)


def sum_of(points):
    """The sum of a way."""
    return sum({"wire": 1, "table": 4}.get(point[0], 0) for point in points)


class TimingTest(LoomTest):
    def test_examples(self):
        self.assertEqual(self.is_new(table_times, FABRIC_F, CELLS_T, LAID_T), [5])
        self.assertEqual(delay(FABRIC_F, CELLS_T, LAID_T), 5)
        way = [("pad", 0), ("wire", (1, 0, 2, 0)), ("table", 0)]
        self.assertEqual(self.is_new(longest_way, FABRIC_F, CELLS_T, LAID_T), way)
        lots = [(1,)] * 4
        self.assertEqual(self.is_new(timed_outputs, FABRIC_F, CELLS_T, LAID_T, lots, 4), [(0,), (0,), (1,), (0,)])
        self.assertEqual(timed_outputs(FABRIC_F, CELLS_T, LAID_T, lots, 5), [(0,), (1,), (0,), (1,)])
        self.assertEqual(table_times(FABRIC, CELLS, LAID), [5, 10])
        self.assertEqual(delay(FABRIC, CELLS, LAID), 10)

    def test_without_ways(self):
        self.assertEqual([table_times(*NOTHING), delay(*NOTHING), longest_way(*NOTHING)], [[], 0, []])
        self.assertEqual(timed_outputs(*NOTHING, [(), ()], 1), [(), ()])
        # A table that only wires take ends no way.
        told = (FABRIC_F, (2, 0, (((), 1, 0, 0),), ()), (((0, 0),), (), (), (((0, 0, 0, 0), ("cell",)),), ((),)))
        self.assertIsNone(check_laid(*told))
        self.assertEqual([table_times(*told), delay(*told), longest_way(*told)], [[4], 0, []])

    def test_ways_of_no_time(self):
        # An out pad takes a register's bit on the spot.
        told = (FABRIC_F, (2, 0, (((), 1, 1, 0),), (0,)), (((0, 0),), (), ((0, 0, 0, ("cell",)),), (), ((),)))
        self.assertEqual([table_times(*told), delay(*told), longest_way(*told)], [[4], 4, [("table", 0)]])
        self.assertEqual(timed_outputs(*told, [()] * 3, 4), [(0,), (1,), (1,)])
        # Tables give what they gave last, 0 at first, if a clock is over ahead of them.
        self.assertEqual(timed_outputs(*told, [()] * 3, 3), [(0,), (0,), (0,)])
        cells = (2, 0, (((1,), 1, 0, 0), ((), 0, 1, 1)), (1,))
        laid = (((0, 0), (1, 0)), (), ((1, 0, 0, ("cell",)),), (((1, 0, 2, 0), ("cell",)),), ((("wire", 0, 0),), ()))
        self.assertEqual(longest_way(FABRIC_F, cells, laid), [("table", 1)])

    def test_by_chance(self):
        dice = random.Random(1)
        unlike = 0
        for fabric, cells, laid in many_laid(7, 200):
            tables, outs = all_way_sums(fabric, cells, laid)
            self.assertEqual(self.is_new(table_times, fabric, cells, laid), tables)
            ends = outs + [time for time, cell in zip(tables, cells[2]) if cell[2]]
            late = delay(fabric, cells, laid)
            self.assertEqual(late, max(ends, default=0))
            way = self.is_new(longest_way, fabric, cells, laid)
            self.assertEqual(way == [], ends == [])
            self.assertTrue(not way or is_way(fabric, cells, laid, way))
            self.assertEqual(sum_of(way), late)
            lots = random_lots(dice, [1] * cells[1], 8)
            plain = cell_runs(cells, lots)
            for period in sorted({1, 2, 3, 4, 5, 6, max(1, late - 1), max(1, late), late + 1, late + 4}):
                told = self.is_new(timed_outputs, fabric, cells, laid, lots, period)
                self.assertEqual(told, timed_runs(fabric, cells, laid, lots, period), period)
                if period >= late:
                    self.assertEqual(told, plain)
                unlike += told != plain
        self.assertGreater(unlike, 20)

    def test_wires_longer_than_a_clock(self):
        # A pad's bit goes through 11 wires, at one wire a moment and few moments a clock.
        fabric, cells = (12, 1, 1, 2, 1), (2, 1, (((0,), 2, 0, 0),), (1,))
        wires = tuple(((x, 0, 0, 0), ("wire", 2, 0) if x else ("pad", 0)) for x in range(11))
        laid = (((11, 0),), ((0, 0, 0),), ((11, 0, 0, ("cell",)),), wires, ((("wire", 2, 0),),))
        self.assertIsNone(check_laid(fabric, cells, laid))
        self.assertEqual((delay(fabric, cells, laid), len(longest_way(fabric, cells, laid))), (15, 13))
        lots = [(1,), (0,), (1,), (1,), (0,), (0,), (1,), (0,)]
        for period in range(1, 17):
            told = timed_outputs(fabric, cells, laid, lots, period)
            self.assertEqual(told, timed_runs(fabric, cells, laid, lots, period), period)
        self.assertEqual(timed_outputs(fabric, cells, laid, lots, 400), lots)


if __name__ == "__main__":
    unittest.main()
