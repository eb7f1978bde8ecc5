import copy
import itertools
import random
import unittest

from samples import (
    LARGE, MISSING, NO_NETS, TURNED, TWICE, WORDS, doubled_chain, loose_net, mixed_net, turned_net,
)
from sumspan.errors import BadKind, BadNet, BadRow, Wrong
from sumspan.judging import judged
from sumspan.known import known
from sumspan.least import least_net
from sumspan.nets import depth, depths, pruned, used
from sumspan.using import added, fewest_rounds, rounds, sorted_by, taken, tidy

SIZES = (1, 2, 3, 4, 5, 6, 7, 8, 13, 31, 64)

# A sum leaves out a thing between, which comes behind a later one: not right for "any".
SCATTERED = (4, [(0, 2), (1, 0), (4, 1), (3, 6)], [0, 5, 6, 7])
# Steps that are not used, and like ones to choose among.
CHOICES = (4, [(2, 3), (0, 1), (1, 2), (5, 2), (5, 4)], [0, 5, 7, 8])
# The last ones are the most urgent.
URGENT = (4, [(0, 1), (2, 3), (5, 5), (6, 6)], [0, 4, 4, 4])


def right_nets(wide):
    nets = [known(word, wide) for word in WORDS] + [mixed_net(seed, wide) for seed in range(4)]
    if wide <= 6:
        nets += [net for net in [least_net(wide, deep) for deep in range(wide + 1)] if net is not None]
    return nets


def commuting_nets(wide):
    nets = right_nets(wide)
    return nets + [turned_net(net) for net in nets] + ([SCATTERED] if wide == 4 else [])


def bits_of(number, wide):
    return [(number >> place) & 1 for place in range(wide)]


def number_of(bits):
    return sum(bit << place for place, bit in enumerate(bits))


def chain_behind(net, number):
    node = net[0] + number
    later = [other for other, step in enumerate(net[1]) if node in step]
    return max([1 + chain_behind(net, other) for other in later], default=0)


def reckoned_rounds(net, workers):
    left = list(range(len(net[1])))
    chains = [chain_behind(net, number) for number in left]
    there = set(range(net[0]))
    told = []
    while left:
        ready = [number for number in left if set(net[1][number]) <= there]
        now = []
        while ready and len(now) < workers:
            most = max(chains[number] for number in ready)
            now.append(min(number for number in ready if chains[number] == most))
            ready.remove(now[-1])
        there |= {net[0] + number for number in now}
        left = [number for number in left if number not in now]
        told.append(sorted(now))
    return told


class TestAdded(unittest.TestCase):
    def test_by_hand(self):
        self.assertEqual(added((1, [], [0]), [0], [0]), [0, 0])
        self.assertEqual(added((1, [], [0]), [1], [0]), [1, 0])
        self.assertEqual(added((1, [], [0]), [0], [1]), [1, 0])
        self.assertEqual(added((1, [], [0]), [1], [1]), [0, 1])
        self.assertEqual(added(known("line", 3), [1, 1, 0], [1, 0, 0]), [0, 0, 1, 0])
        self.assertEqual(added(known("line", 3), [1, 1, 1], [1, 1, 1]), [0, 1, 1, 1])

    def test_all_of_small_ones(self):
        for wide in range(1, 6):
            for net in right_nets(wide):
                for one, other in itertools.product(range(2**wide), repeat=2):
                    told = added(net, bits_of(one, wide), bits_of(other, wide))
                    self.assertEqual(told, bits_of(one + other, wide + 1))

    def test_by_several_nets(self):
        chance = random.Random(7)
        for wide in SIZES:
            most = 2**wide - 1
            pairs = [(0, 0), (most, most), (most, 1), (1, most), (most, 0), (0, most)]
            pairs += [(chance.randint(0, most), chance.randint(0, most)) for trial in range(20)]
            pairs += [(one, most - one) for one, other in pairs]
            for net in right_nets(wide):
                for one, other in pairs:
                    told = added(net, bits_of(one, wide), bits_of(other, wide))
                    self.assertEqual(len(told), wide + 1)
                    self.assertEqual(number_of(told), one + other)
                    self.assertEqual(set(told) - {0, 1}, set())

    def test_other_nets_are_wrong(self):
        for wide in SIZES[1:]:
            for net in right_nets(wide):
                with self.assertRaises(Wrong):
                    added(turned_net(net), [0] * wide, [1] * wide)
        for net in (TURNED, TWICE, MISSING):
            with self.assertRaises(Wrong):
                added(net, [0, 0], [0, 0])
        with self.assertRaises(Wrong):
            added((1, doubled_chain(1, 0, 500), [500]), [1], [1])

    def test_bits_that_are_none(self):
        net = known("halves", 2)
        for bits in ([0, 2], [2, 0], [-1, 0], [0, -1], [LARGE, 0], [0, -LARGE], [True, 0], [0, False], ["0", 0]):
            with self.assertRaises(BadRow):
                added(net, bits, [0, 0])
            with self.assertRaises(BadRow):
                added(net, [0, 0], bits)

    def test_not_one_for_each_thing(self):
        for wide in (1, 2, 64):
            for length in (0, wide - 1, wide + 1):
                with self.assertRaises(BadRow):
                    added(known("halves", wide), [0] * length, [0] * wide)
                with self.assertRaises(BadRow):
                    added(known("halves", wide), [0] * wide, [0] * length)
                with self.assertRaises(BadRow):
                    added(known("halves", wide), [0] * length, [0] * length)


class TestTaken(unittest.TestCase):
    def test_by_hand(self):
        net = known("halves", 4)
        self.assertEqual(taken(net, [7, -7, 0, 7], [1, 0, 1, 1]), [7, 0, 7])
        self.assertEqual(taken(net, [7, -7, 0, 7], [0, 0, 0, 0]), [])
        self.assertEqual(taken(net, [7, -7, 0, 7], [1, 1, 1, 1]), [7, -7, 0, 7])
        self.assertEqual(taken(net, [LARGE, -LARGE, 0, 1], [1, 1, 0, 0]), [LARGE, -LARGE])
        self.assertEqual(taken((1, [], [0]), [5], [1]), [5])
        self.assertEqual(taken((1, [], [0]), [5], [0]), [])

    def test_all_marks_of_small_ones(self):
        for wide in range(1, 6):
            row = [9 - thing * thing for thing in range(wide)]
            for net in commuting_nets(wide):
                for marks in itertools.product((0, 1), repeat=wide):
                    due = [thing for thing, mark in zip(row, marks) if mark == 1]
                    self.assertEqual(taken(net, row, list(marks)), due)

    def test_by_several_nets(self):
        chance = random.Random(8)
        for wide in SIZES:
            for net in commuting_nets(wide):
                row = [chance.randint(-LARGE, LARGE) for thing in range(wide)]
                marks = [chance.randint(0, 1) for thing in range(wide)]
                due = [thing for thing, mark in zip(row, marks) if mark == 1]
                self.assertEqual(taken(net, row, marks), due)

    def test_other_nets_are_wrong(self):
        for net in (TWICE, MISSING, (2, [(0, 1)], [2, 2]), (2, [(0, 1)], [1, 2])):
            with self.assertRaises(Wrong):
                taken(net, [1, 2], [0, 1])

    def test_rows_and_bits_that_are_none(self):
        net = known("halves", 2)
        for row in (["a", 1], [1, "a"], [True, 1], [1, False], [None, 1]):
            with self.assertRaises(BadRow):
                taken(net, row, [1, 1])
            with self.assertRaises(BadRow):
                taken(net, row, [0, 0])
        for marks in ([0, 2], [2, 0], [-1, 0], [0, -1], [LARGE, 0], [0, -LARGE], [True, 0], [0, False], ["1", 0]):
            with self.assertRaises(BadRow):
                taken(net, [1, 2], marks)

    def test_not_one_for_each_thing(self):
        for wide in (1, 2, 64):
            for length in (0, wide - 1, wide + 1):
                with self.assertRaises(BadRow):
                    taken(known("halves", wide), [1] * length, [1] * wide)
                with self.assertRaises(BadRow):
                    taken(known("halves", wide), [1] * wide, [1] * length)
                with self.assertRaises(BadRow):
                    taken(known("halves", wide), [1] * length, [1] * length)


class TestSortedBy(unittest.TestCase):
    def check(self, net, keys):
        due = [number for key, number in sorted([(key, number) for number, key in enumerate(keys)])]
        self.assertEqual(sorted_by(net, keys), due)

    def test_by_hand(self):
        net = known("updown", 5)
        self.assertEqual(sorted_by(net, [3, 1, 2, 5, 4]), [1, 2, 0, 4, 3])
        self.assertEqual(sorted_by(net, [65535, 0, 65535, 0, 256]), [1, 3, 4, 0, 2])
        self.assertEqual(sorted_by(net, [7, 7, 7, 7, 7]), [0, 1, 2, 3, 4])
        self.assertEqual(sorted_by(net, [32768, 32767, 1, 2, 4]), [2, 3, 4, 1, 0])
        self.assertEqual(sorted_by((1, [], [0]), [65535]), [0])
        self.assertEqual(sorted_by((1, [], [0]), [0]), [0])

    def test_all_of_small_ones(self):
        for wide in range(1, 5):
            for net in commuting_nets(wide):
                for keys in itertools.product((0, 1, 2, 65535), repeat=wide):
                    self.check(net, list(keys))

    def test_by_several_nets(self):
        chance = random.Random(9)
        for wide in SIZES:
            for net in commuting_nets(wide):
                self.check(net, [chance.randint(0, 65535) for thing in range(wide)])
                self.check(net, [chance.randint(0, 3) * 21845 for thing in range(wide)])
                self.check(net, [1 << chance.randint(0, 15) for thing in range(wide)])
        self.check(known("halves", 64), list(range(65535, 65535 - 64, -1)))

    def test_other_nets_are_wrong(self):
        for net in (TWICE, MISSING, (2, [(0, 1)], [2, 2]), (2, [(0, 1)], [1, 2])):
            with self.assertRaises(Wrong):
                sorted_by(net, [1, 2])

    def test_keys_that_are_none(self):
        rows = [[0, 65536], [65536, 0], [-1, 0], [0, -1], [LARGE, 0], [0, -LARGE], [True, 0], [0, False], ["0", 0]]
        for keys in rows:
            with self.assertRaises(BadRow):
                sorted_by(known("line", 2), keys)

    def test_not_one_for_each_thing(self):
        for wide in (1, 2, 64):
            for length in (0, wide - 1, wide + 1):
                with self.assertRaises(BadRow):
                    sorted_by(known("halves", wide), [1] * length)


class TestRounds(unittest.TestCase):
    def test_by_hand(self):
        self.assertEqual(rounds(CHOICES, 1), [[0], [1], [2], [3], [4]])
        self.assertEqual(rounds(CHOICES, 2), [[0, 1], [2, 3], [4]])
        self.assertEqual(rounds(CHOICES, 3), [[0, 1, 2], [3, 4]])
        self.assertEqual(rounds(CHOICES, 64), [[0, 1, 2], [3, 4]])
        self.assertEqual(rounds(URGENT, 1), [[1], [2], [0], [3]])
        self.assertEqual(rounds(URGENT, 2), [[0, 1], [2], [3]])
        loose_end = (3, [(0, 1), (3, 2), (1, 2)], [0, 3, 4])
        self.assertEqual(rounds(loose_end, 1), [[0], [1], [2]])
        self.assertEqual(rounds(loose_end, 2), [[0, 2], [1]])

    def test_steps_that_are_not_used_count_among_those_behind(self):
        net = (2, [(0, 1), (0, 0), (3, 3)], [0, 2])
        self.assertEqual(rounds(net, 1), [[1], [0], [2]])

    def test_the_longest_chain_counts_not_how_many_follow(self):
        # Behind step 0 there are three steps side by side, behind step 1 two in a row.
        net = (2, [(0, 1), (1, 0), (2, 0), (2, 1), (2, 2), (3, 0), (7, 0)], [0, 2])
        self.assertEqual(rounds(net, 1), [[1], [0], [5], [2], [3], [4], [6]])

    def test_without_steps(self):
        for workers in (1, 64):
            self.assertEqual(rounds((1, [], [0]), workers), [])
            self.assertEqual(rounds((64, [], [0] * 64), workers), [])
            self.assertEqual(fewest_rounds((64, [], [0] * 64), workers), 0)

    def nets(self):
        for wide in (1, 2, 3, 5, 8, 16):
            for word in WORDS:
                yield known(word, wide)
            for seed in range(4):
                yield mixed_net(seed, wide)
                yield loose_net(seed, wide, 15)
        for net in (CHOICES, URGENT, TURNED, TWICE, MISSING, SCATTERED):
            yield net

    def test_against_those_reckoned_here(self):
        for net in self.nets():
            for workers in (1, 2, 3, 5, 64):
                self.assertEqual(rounds(net, workers), reckoned_rounds(net, workers))

    def test_each_step_once_behind_its_nodes(self):
        large = [known("strides", 64), known("updown", 64), loose_net(1, 64, 500), (1, [(0, 0)] * 500, [0])]
        for net in list(self.nets()) + large:
            for workers in (1, 2, 7, 63, 64):
                told = rounds(net, workers)
                there = set(range(net[0]))
                for numbers in told:
                    self.assertEqual(numbers, sorted(numbers))
                    self.assertTrue(1 <= len(numbers) <= workers)
                    for number in numbers:
                        self.assertLessEqual(set(net[1][number]), there)
                    there |= {net[0] + number for number in numbers}
                self.assertEqual(sorted(sum(told, [])), list(range(len(net[1]))))
                self.assertGreaterEqual(len(told), fewest_rounds(net, workers))

    def test_just_as_many_as_the_fewest(self):
        wide_ones = [known(word, wide) for word in WORDS for wide in range(1, 65)]
        for net in list(self.nets()) + wide_ones:
            self.assertEqual(len(rounds(net, 1)), fewest_rounds(net, 1))
            self.assertEqual(len(rounds(net, 64)), fewest_rounds(net, 64))
        for net in ((1, doubled_chain(1, 0, 500), [500]), (1, [(0, 0)] * 500, [0])):
            for workers in range(1, 65):
                self.assertEqual(len(rounds(net, workers)), fewest_rounds(net, workers))

    def test_other_workers(self):
        for workers in (0, 65, 66, -1, LARGE, -LARGE):
            for net in (CHOICES, (1, [], [0])):
                with self.assertRaises(BadKind):
                    rounds(net, workers)
                with self.assertRaises(BadKind):
                    fewest_rounds(net, workers)


class TestFewestRounds(unittest.TestCase):
    def test_by_hand(self):
        for workers, count in ((1, 5), (2, 3), (3, 2), (4, 2), (5, 2), (64, 2)):
            self.assertEqual(fewest_rounds(CHOICES, workers), count)
        self.assertEqual(fewest_rounds((1, [(0, 0)] * 500, [0]), 64), 8)
        self.assertEqual(fewest_rounds((1, [(0, 0)] * 500, [0]), 50), 10)
        self.assertEqual(fewest_rounds((1, [(0, 0)] * 500, [0]), 49), 11)

    def test_the_greatest_depth_of_any_node_not_of_outs_alone(self):
        self.assertEqual(fewest_rounds(URGENT, 64), 3)
        self.assertEqual(depth(URGENT), 1)

    def test_as_told(self):
        for wide in SIZES:
            for net in right_nets(wide) + [loose_net(3, wide, 100)]:
                for workers in range(1, 65):
                    shares = [count for count in range(501) if count * workers >= len(net[1])]
                    self.assertEqual(fewest_rounds(net, workers), max(shares[0], max(depths(net))))


class TestTidy(unittest.TestCase):
    def test_by_hand(self):
        self.assertEqual(tidy((3, [(0, 1), (3, 2), (1, 2)], [0, 3, 4])), (3, [(0, 1), (3, 2)], [0, 3, 4]))
        self.assertEqual(tidy((3, [(0, 1), (0, 1), (4, 2)], [0, 3, 5])), (3, [(0, 1), (3, 2)], [0, 3, 4]))
        self.assertEqual(tidy((2, [(1, 1), (0, 1), (0, 1)], [0, 4])), (2, [(0, 1)], [0, 2]))
        self.assertEqual(tidy((1, [(0, 0)] * 500, [0])), (1, [], [0]))

    def test_right_ones(self):
        for wide in SIZES:
            for net in right_nets(wide):
                told = tidy(net)
                self.assertEqual(told, pruned(net))
                self.assertEqual(judged(told, "any"), ("right",))
                self.assertLessEqual(len(told[1]), len(net[1]))
                self.assertEqual(tidy(told), told)

    def test_steps_that_are_not_used_or_alike_go(self):
        # Of the nets made at random here some have such steps, and none has them any more.
        nets = [mixed_net(seed, 20) for seed in range(10)]
        self.assertTrue(any(False in used(net) for net in nets))
        self.assertTrue(any(len(set(net[1])) < len(net[1]) for net in nets))
        for net in nets:
            told = tidy(net)
            self.assertNotIn(False, used(told)[20:])
            self.assertEqual(len(set(told[1])), len(told[1]))

    def test_others_are_wrong(self):
        for net in (TURNED, TWICE, MISSING, SCATTERED, (1, [(0, 0)], [1])):
            with self.assertRaises(Wrong):
                tidy(net)
        for wide in SIZES[1:]:
            with self.assertRaises(Wrong):
                tidy(turned_net(known("halves", wide)))


class TestTheOrderOfErrors(unittest.TestCase):
    def test_what_is_no_net(self):
        for why, net in NO_NETS:
            calls = [
                lambda: added(net, [0, 0], [0, 0]),
                lambda: added(net, [9], [9]),
                lambda: taken(net, [0, 0], [0, 0]),
                lambda: taken(net, ["a"], [9]),
                lambda: sorted_by(net, [0, 0]),
                lambda: sorted_by(net, [-1]),
                lambda: rounds(net, 1),
                lambda: rounds(net, 0),
                lambda: fewest_rounds(net, 1),
                lambda: fewest_rounds(net, 65),
                lambda: tidy(net),
            ]
            for place, call in enumerate(calls):
                with self.subTest(why=why, call=place):
                    self.assertRaises(BadNet, call)

    def test_wrong_ahead_of_bad_rows(self):
        for net in (TWICE, MISSING):
            self.assertRaises(Wrong, added, net, [0], [0, 2])
            self.assertRaises(Wrong, added, net, [0, 2], [0, 0])
            self.assertRaises(Wrong, taken, net, ["a", 1], [0, 0])
            self.assertRaises(Wrong, taken, net, [1, 1], [0])
            self.assertRaises(Wrong, sorted_by, net, [0, 65536])
            self.assertRaises(Wrong, sorted_by, net, [])
        self.assertRaises(Wrong, added, TURNED, [0], [0, 2])


class TestTheWhole(unittest.TestCase):
    def test_what_is_handed_in_stays_the_same(self):
        for wide in (1, 2, 5):
            for net in right_nets(wide):
                row = [wide - thing for thing in range(wide)]
                marks = [thing % 2 for thing in range(wide)]
                others = [1] * wide
                before = copy.deepcopy((net, row, marks, others))
                told = [added(net, marks, others), taken(net, row, marks), taken(net, row, others)]
                told += [sorted_by(net, row), tidy(net), rounds(net, 2), fewest_rounds(net, 2)]
                self.assertEqual((net, row, marks, others), before)

    def test_lists_that_are_told_are_new(self):
        net = known("line", 2)
        row = [5, 6]
        bits = [1, 1]
        before = copy.deepcopy((net, row, bits))
        for call in (
            lambda: added(net, bits, bits),
            lambda: taken(net, row, bits),
            lambda: sorted_by(net, row),
            lambda: rounds(net, 1),
            lambda: rounds(net, 1)[0],
            lambda: tidy(net)[1],
            lambda: tidy(net)[2],
        ):
            told = call()
            kept = copy.deepcopy(told)
            told[0] = None
            told.append(None)
            self.assertEqual((net, row, bits), before)
            self.assertEqual(call(), kept)

    def test_steps_and_depth_of_right_ones(self):
        for wide in range(1, 65):
            for net in right_nets(wide):
                for right in (net, tidy(net)):
                    self.assertEqual(judged(right, "any"), ("right",))
                    self.assertGreaterEqual(len(right[1]) + depth(right), 2 * wide - 2)


if __name__ == "__main__":
    unittest.main()
