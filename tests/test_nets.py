import copy
import unittest

from samples import NO_NETS, doubled_chain, line_net, stride_net
from sumspan.errors import BadNet
from sumspan.nets import depth, depths, fan, look_net, pruned, used

LOOKS = (look_net, depths, depth, used, fan, pruned)

# A step that is not used behind those that are.
LOOSE_END = (3, [(0, 1), (3, 2), (1, 2)], [0, 3, 4])
# Steps that are not used, deeper than any out; a node twice in one step.
DEEP_END = (2, [(0, 1), (2, 2), (3, 0)], [0, 2])
# Outs that name things, some of them none.
THINGS_ONLY = (3, [], [1, 1, 0])
NO_STEP = (1, [], [0])
ALL = (LOOSE_END, DEEP_END, THINGS_ONLY, NO_STEP, line_net(5), stride_net(7))


class TestWhatANetIs(unittest.TestCase):
    def test_right_ones_at_the_edges(self):
        nets = [
            NO_STEP,
            (1, [(0, 0)], [1]),
            (64, [], list(range(64))),
            (64, [], [63] * 64),
            line_net(64),
            stride_net(64),
            (1, [(0, 0)] * 500, [500]),
            (1, doubled_chain(1, 0, 500), [500]),
            (64, [(63, 0)] * 500, [563] * 64),
            (2, [(1, 0), (2, 2), (3, 1)], [4, 0]),
        ]
        for net in nets:
            self.assertIsNone(look_net(net))
            for look in LOOKS:
                look(net)

    def test_others_are_refused_by_all(self):
        for why, net in NO_NETS:
            for look in LOOKS:
                with self.subTest(why=why, look=look.__name__):
                    with self.assertRaises(BadNet):
                        look(net)


class TestDepths(unittest.TestCase):
    def test_by_hand(self):
        self.assertEqual(depths(LOOSE_END), [0, 0, 0, 1, 2, 1])
        self.assertEqual(depths(DEEP_END), [0, 0, 1, 2, 3])
        self.assertEqual(depths(THINGS_ONLY), [0, 0, 0])
        self.assertEqual(depths(NO_STEP), [0])

    def test_the_deeper_one_of_two_counts_on_either_side(self):
        self.assertEqual(depths((2, [(0, 1), (2, 0), (1, 3), (2, 3)], [0, 1])), [0, 0, 1, 2, 3, 3])

    def test_depth_is_of_the_deepest_out_alone(self):
        self.assertEqual(depth(LOOSE_END), 2)
        self.assertEqual(depth(DEEP_END), 1)
        self.assertEqual(depth(THINGS_ONLY), 0)
        self.assertEqual(depth(NO_STEP), 0)

    def test_the_deepest_out_need_not_be_the_last(self):
        self.assertEqual(depth((3, [(0, 1), (3, 2)], [4, 3, 0])), 2)
        self.assertEqual(depth((3, [(0, 1), (3, 2)], [0, 4, 3])), 2)

    def test_large_ones(self):
        self.assertEqual(depth(line_net(64)), 63)
        self.assertEqual(depth(stride_net(64)), 6)
        chain = (1, doubled_chain(1, 0, 500), [500])
        self.assertEqual(depths(chain), list(range(501)))
        self.assertEqual(depth(chain), 500)


class TestUsed(unittest.TestCase):
    def test_by_hand(self):
        self.assertEqual(used(LOOSE_END), [True, True, True, True, True, False])
        self.assertEqual(used(DEEP_END), [True, True, True, False, False])
        self.assertEqual(used(THINGS_ONLY), [True, True, False])
        self.assertEqual(used(NO_STEP), [True])

    def test_what_is_in_steps_that_are_not_used_alone_is_not_used(self):
        net = (3, [(1, 2), (3, 0), (0, 0)], [0, 5, 0])
        self.assertEqual(used(net), [True, False, False, False, False, True])

    def test_through_several_steps(self):
        net = (3, [(0, 1), (2, 3), (4, 4)], [5, 5, 5])
        self.assertEqual(used(net), [True] * 6)

    def test_truths_are_told(self):
        for mark in used(LOOSE_END):
            self.assertIsInstance(mark, bool)


class TestFan(unittest.TestCase):
    def test_by_hand(self):
        self.assertEqual(fan(LOOSE_END), [2, 2, 2, 2, 1, 0])
        self.assertEqual(fan(DEEP_END), [3, 1, 3, 1, 0])
        self.assertEqual(fan(THINGS_ONLY), [1, 2, 0])
        self.assertEqual(fan(NO_STEP), [1])

    def test_each_place_counts(self):
        self.assertEqual(fan((1, [(0, 0)] * 500, [0])), [1001] + [0] * 500)
        self.assertEqual(fan((3, [(0, 1)], [3, 3, 3])), [1, 1, 0, 3])


class TestPruned(unittest.TestCase):
    def check(self, net, steps, outs):
        told = pruned(net)
        self.assertEqual(told, (net[0], steps, outs))
        look_net(told)
        self.assertEqual(pruned(told), told)

    def test_steps_that_are_not_used(self):
        self.check(LOOSE_END, [(0, 1), (3, 2)], [0, 3, 4])
        self.check(DEEP_END, [(0, 1)], [0, 2])
        self.check((3, [(1, 2), (0, 1), (4, 2)], [0, 4, 5]), [(0, 1), (3, 2)], [0, 3, 4])
        self.check((3, [(1, 2), (3, 0), (0, 1)], [0, 5, 5]), [(0, 1)], [0, 3, 3])

    def test_things_stay_whether_they_are_used_or_not(self):
        self.check(THINGS_ONLY, [], [1, 1, 0])
        self.check((3, [(0, 1)], [2, 2, 2]), [], [2, 2, 2])

    def test_steps_that_are_alike(self):
        self.check((3, [(0, 1), (0, 1), (4, 2)], [0, 3, 5]), [(0, 1), (3, 2)], [0, 3, 4])
        self.check((2, [(0, 1), (0, 1), (0, 1)], [4, 3]), [(0, 1)], [2, 2])
        self.check((1, [(0, 0)] * 500, [500]), [(0, 0)], [1])

    def test_steps_that_become_alike_once_others_are_told_once(self):
        self.check((3, [(0, 1), (0, 1), (3, 2), (4, 2)], [4, 5, 6]), [(0, 1), (3, 2)], [3, 4, 4])
        self.check(
            (2, [(0, 1), (0, 1), (2, 0), (3, 0), (4, 5), (5, 5)], [6, 7]),
            [(0, 1), (2, 0), (3, 3)],
            [4, 4],
        )

    def test_turned_pairs_are_not_alike(self):
        self.check((2, [(0, 1), (1, 0)], [2, 3]), [(0, 1), (1, 0)], [2, 3])

    def test_one_that_is_not_used_is_not_the_first_of_those_alike(self):
        self.check((3, [(0, 1), (1, 2), (0, 1)], [0, 5, 4]), [(1, 2), (0, 1)], [0, 4, 3])

    def test_old_numbers_that_look_alike_are_not(self):
        # Without the first step the second is node 2, which the third step does not mean by 2.
        self.check((2, [(0, 0), (0, 1), (3, 1), (2, 1)], [3, 5]), [(0, 0), (0, 1), (2, 1)], [3, 4])
        self.check((2, [(1, 1), (0, 1), (3, 1)], [3, 4]), [(0, 1), (2, 1)], [2, 3])

    def test_all_else_in_its_order(self):
        net = (4, [(2, 3), (0, 1), (5, 4), (1, 2), (5, 2)], [0, 5, 8, 6])
        self.check(net, [(2, 3), (0, 1), (5, 4), (5, 2)], [0, 5, 7, 6])

    def test_one_with_nothing_to_prune_stays(self):
        for net in (NO_STEP, line_net(64), stride_net(64)):
            self.check(net, net[1], net[2])


class TestNothingIsChangedOrKept(unittest.TestCase):
    def test_nets_stay_the_same(self):
        for net in ALL:
            before = copy.deepcopy(net)
            for look in LOOKS:
                look(net)
                self.assertEqual(net, before)

    def test_lists_that_are_told_are_new(self):
        for net in ALL:
            before = copy.deepcopy(net)
            for look in (depths, used, fan):
                told = look(net)
                kept = list(told)
                told.append(99)
                told[0] = 99
                self.assertEqual(look(net), kept)
            told = pruned(net)
            kept = copy.deepcopy(told)
            told[1].append((9, 9))
            told[2][0] = 9
            self.assertEqual(net, before)
            self.assertEqual(pruned(net), kept)

    def test_what_is_told_does_not_change_with_the_net(self):
        net = (2, [(0, 1)], [0, 2])
        told = pruned(net)
        net[1].append((2, 2))
        net[2][1] = 3
        self.assertEqual(told, (2, [(0, 1)], [0, 2]))


if __name__ == "__main__":
    unittest.main()
