"""Table nets ([S6.1], [S6.2], [S6.9])."""

import random
import unittest

from graphmodels import net_runs
from samples import random_lots, random_net, replaced
from support import LOOSE, LoomTest, deep

from bitloom.errors import BadNet
from bitloom.nets import check_net, is_tight, level_in, net_depth, run_net, tight

# Nodes 1 and 2 are in bits, 3 a register bit, 4 to 6 tables: 4 is 1 and 2, 5 is 4 unlike 3, 6 is always 1.
N = (2, 2, ((1, 5),), (((1, 2), 8), ((4, 3), 6), ((), 1)), (5, 6, 0, 2))
EMPTY = (2, 0, (), (), ())


def model_levels(net):
    """The levels of all nodes."""
    found = [0] * (1 + net[1] + len(net[2]))
    for nodes, _ in net[3]:
        found.append(max([found[node] for node in nodes], default=0) + 1)
    return found


def model_is_tight(net):
    """Whether a net is tight, by S6.9."""
    k, many, regs, tables, outs = net
    first = 1 + many + len(regs)
    ends = [*outs, *[node for _, node in regs]]
    needed, todo = set(), list(ends)
    while todo:
        node = todo.pop()
        if node >= first and node not in needed:
            needed.add(node)
            todo.extend(tables[node - first][0])
    if len(needed) < len(tables) or len(set(tables)) < len(tables):
        return False
    for t in range(first, first + len(tables)):
        places = [(s, node) for s, (nodes, _) in enumerate(tables) for node in nodes if node == t]
        if len(places) == 1 and t not in ends:
            together = set(tables[places[0][0]][0]) | set(tables[t - first][0])
            if len(together - {t}) <= k:
                return False
    return True


class CheckTest(LoomTest):
    def test_nets(self):
        for net in (N, EMPTY, (6, 10**30, (), (((5, 10**30), 15),), (10**30 + 1,)), (2, 0, ((0, 0), (1, 2)), (), (0, 1, 2))):
            self.assertIsNone(check_net(net))
        dice = random.Random(1)
        for _ in range(100):
            self.assertIsNone(check_net(random_net(dice, dice.randint(2, 6), 2, 2, 10, 3)))

    def test_each_path(self):
        for value in [*LOOSE, list(N), N[:4], (*N, ()), deep(N, 30)]:
            self.fails(BadNet, {"path": ()}, check_net, value)
        for part in (1, 7, -2, True, None, "2", (2,), 10**39):
            self.fails(BadNet, {"path": (0,)}, check_net, replaced(N, (0,), part))
        for part in (-1, True, None, "1", ()):
            self.fails(BadNet, {"path": (1,)}, check_net, replaced(N, (1,), part))
        for k in (2, 3, 4):
            for part in ([], None, 3, "a", {}, list(N[k])):
                self.fails(BadNet, {"path": (k,)}, check_net, replaced(N, (k,), part))
        for part in [(1,), (1, 5, 0), [1, 5], None, 1, "ab"]:
            self.fails(BadNet, {"path": (2, 0)}, check_net, replaced(N, (2, 0), part))
        for part in (2, -1, True, False, None, "0", ()):
            self.fails(BadNet, {"path": (2, 0, 0)}, check_net, replaced(N, (2, 0, 0), part))
        for part in (7, -1, True, None, "1", (1,), 10**39):
            self.fails(BadNet, {"path": (2, 0, 1)}, check_net, replaced(N, (2, 0, 1), part))
            self.fails(BadNet, {"path": (4, 1)}, check_net, replaced(N, (4, 1), part))
        for part in [(), ((1, 2),), ((1, 2), 8, 0), [(1, 2), 8], None, 8]:
            self.fails(BadNet, {"path": (3, 1)}, check_net, replaced(N, (3, 1), part))
        for part in [[1, 2], None, 1, (1, 1), (5,), (6, 1), (-1,), (True,), (1, None), ("1",), (1, 2, 3), ((1,),)]:
            self.fails(BadNet, {"path": (3, 1, 0)}, check_net, replaced(N, (3, 1, 0), part))
        for part in (16, -1, True, None, "6", (6,), 10**39):
            self.fails(BadNet, {"path": (3, 1, 1)}, check_net, replaced(N, (3, 1, 1), part))

    def test_edges(self):
        for k in range(2, 7):
            full = 2 ** 2**k - 1
            net = (k, 8, (), ((tuple(range(k)), full),), (9,))
            self.assertIsNone(check_net(net))
            self.fails(BadNet, {"path": (3, 0, 1)}, check_net, replaced(net, (3, 0, 1), full + 1))
            self.fails(BadNet, {"path": (3, 0, 0)}, check_net, replaced(net, (3, 0, 0), tuple(range(k + 1))))
        self.assertIsNone(check_net(replaced(N, (3, 2), ((0, 5), 15))))
        self.fails(BadNet, {"path": (3, 2, 1)}, check_net, replaced(N, (3, 2), ((), 2)))

    def test_the_first_of_two(self):
        order = [((0,), 1), ((1,), -1), ((2, 0, 0), 2), ((3, 0, 0), (4,)), ((3, 0, 1), 16), ((3, 1, 0), (5,)), ((3, 2), ()),
                 ((2, 0, 1), 7), ((4, 0), 7), ((4, 3), None)]
        for j, (one, wrong) in enumerate(order):
            for other, also in order[j + 1:]:
                if other[:2] != one[:2] or len(one) > 2:
                    value = replaced(replaced(N, other, also), one, wrong)
                    self.fails(BadNet, {"path": one}, check_net, value)
        self.fails(BadNet, {"path": (2,)}, check_net, (2, 0, None, None, None))
        self.fails(BadNet, {"path": (3,)}, check_net, (2, 0, ((0, 99),), None, None))
        self.fails(BadNet, {"path": (2, 0, 1)}, check_net, (2, 0, ((0, 99),), (), None))
        self.fails(BadNet, {"path": (4,)}, check_net, (2, 0, ((0, 1),), (), None))


class RunTest(LoomTest):
    def test_by_hand(self):
        lots = [(1, 1), (1, 0), (1, 1), (0, 1)]
        self.assertEqual(self.is_new(run_net, N, lots), [(0, 1, 0, 1), (0, 1, 0, 0), (1, 1, 0, 1), (1, 1, 0, 1)])
        self.assertEqual(run_net(N, tuple(lots)), run_net(N, lots))
        self.assertEqual(run_net(N, []), [])
        self.assertEqual(run_net(EMPTY, [(), ()]), [(), ()])
        self.assertEqual(run_net((2, 0, ((1, 2), (0, 1)), (), (1, 2)), [()] * 3), [(1, 0), (0, 1), (1, 0)])

    def test_by_chance(self):
        dice = random.Random(2)
        for _ in range(150):
            net = random_net(dice, dice.randint(2, 6), dice.randint(0, 3), dice.randint(0, 3), dice.randint(0, 12), 3)
            lots = random_lots(dice, [1] * net[1], 10)
            self.assertEqual(run_net(net, lots), net_runs(net, lots))

    def test_levels(self):
        self.assertEqual([level_in(N, node) for node in range(7)], [0, 0, 0, 0, 1, 2, 1])
        self.assertEqual((net_depth(N), net_depth(EMPTY)), (2, 0))
        self.assertEqual(net_depth((2, 0, ((0, 2),), (((), 1), ((2,), 1)), (2,))), 1)
        self.assertEqual(net_depth((2, 0, ((0, 3),), (((), 1), ((2,), 1)), (2,))), 2)
        self.assertEqual(net_depth((2, 0, (), (((), 1), ((1,), 1)), (0,))), 0)
        dice = random.Random(3)
        for _ in range(60):
            net = random_net(dice, 3, 2, 2, 10, 2)
            levels = model_levels(net)
            self.assertEqual([level_in(net, node) for node in range(15)], levels)
            self.assertEqual(net_depth(net), max(levels[node] for node in [*net[4], *[node for _, node in net[2]]]))


class TightTest(LoomTest):
    def is_made_tight(self, dice, net):
        """What tight tells of a net is as told."""
        late = self.is_new(tight, net)
        self.assertIsNone(check_net(late))
        self.assertIs(is_tight(late), True)
        self.assertTrue(model_is_tight(late))
        self.assertEqual(late[:2], net[:2])
        self.assertEqual([start for start, _ in late[2]], [start for start, _ in net[2]])
        self.assertEqual(len(late[4]), len(net[4]))
        self.assertLessEqual(net_depth(late), net_depth(net))
        self.assertLessEqual(len(late[3]), len(net[3]))
        lots = random_lots(dice, [1] * net[1], 12)
        self.assertEqual(net_runs(late, lots), net_runs(net, lots))
        return late

    def test_by_hand(self):
        dice = random.Random(4)
        # Node 3 is wanted by nothing; 4 and 5 are equal; 6 stands in one place, and may be put into 7.
        self.assertEqual(self.is_made_tight(dice, (3, 2, (), (((1, 2), 8),), (1,)))[3], ())
        equal = (2, 2, (), (((1, 2), 8), ((1, 2), 8), ((3, 4), 6)), (3, 4, 5))
        self.assertIs(is_tight(equal), False)
        late = self.is_made_tight(dice, equal)
        self.assertEqual(len(late[3]), 2)
        chain = (3, 3, (), (((1, 2), 8), ((4, 3), 6)), (5,))
        self.assertIs(is_tight(chain), False)
        self.assertEqual(len(self.is_made_tight(dice, chain)[3]), 1)
        self.assertIs(is_tight(replaced(chain, (0,), 2)), True)
        self.assertIs(is_tight(replaced(chain, (4,), (5, 4))), True)
        self.assertIs(is_tight(replaced(chain, (2,), ((0, 4),))), False)

    def test_what_is_tight(self):
        for net, told in [
            (EMPTY, True), (N, True), (replaced(N, (0,), 3), False), ((2, 2, (), (((1, 2), 8), ((2, 1), 8)), (3, 4)), True),
            ((2, 2, (), (((1, 2), 8), ((1, 2), 6)), (3, 4)), True), ((2, 1, ((0, 3),), (((1,), 1),), ()), True),
            ((2, 1, ((0, 0),), (((1,), 1),), ()), False), ((2, 1, ((0, 4), ), (((1,), 1), ((3,), 1)), (3,)), True),
            # Node 0 counts among the nodes of two tables together.
            ((2, 2, (), (((0, 1), 8), ((3, 2), 6)), (4,)), True), ((3, 2, (), (((0, 1), 8), ((3, 2), 6)), (4,)), False),
            ((2, 2, (), (((0, 1), 8), ((3, 0), 6)), (4,)), False),
        ]:
            self.assertIs(is_tight(net), told, net)

    def test_by_chance(self):
        dice = random.Random(5)
        for _ in range(300):
            k = dice.randint(2, 6)
            net = random_net(dice, k, dice.randint(0, 3), dice.randint(0, 3), dice.randint(0, 14), dice.randint(0, 3))
            self.assertEqual(is_tight(net), model_is_tight(net))
            self.is_made_tight(dice, net)

    def test_great_ones(self):
        dice = random.Random(6)
        net = random_net(dice, 4, 20, 20, 2000, 20)
        late = tight(net)
        self.assertIs(is_tight(late), True)
        lots = random_lots(dice, [1] * 20, 5)
        self.assertEqual(run_net(late, lots), net_runs(net, lots))
        # Tables of one node each, one behind the other.
        net = (2, 1, (), tuple(((1 + t,), 1) for t in range(2000)), (2001,))
        self.assertEqual(tight(net), (2, 1, (), (((1,), 2),), (2,)))


if __name__ == "__main__":
    unittest.main()
