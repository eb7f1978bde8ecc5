import copy
import itertools
import unittest

from samples import LARGE
from sumspan.errors import BadKind
from sumspan.judging import judged
from sumspan.least import least_depth, least_net
from sumspan.nets import depth, look_net


def span_depths(wide, spans):
    """The least depth of each span of things, by steps that each tell one of the spans."""
    found = {(thing, thing + 1): 0 for thing in range(wide)}
    for low, high in sorted(spans, key=lambda span: span[1] - span[0]):
        ways = [((low, middle), (middle, high)) for middle in range(low + 1, high)]
        turns = [1 + max(found[one], found[other]) for one, other in ways if one in found and other in found]
        if turns:
            found[(low, high)] = min(turns)
    return found


def fewest_steps(wide):
    """For each depth that a right net can have: the fewest steps of one. All choices of spans are tried: a node
    of a right out tells things in order, each once, and so do the nodes that it is made of."""
    dues = [(0, high) for high in range(2, wide + 1)]
    inner = [(low, high) for low in range(1, wide) for high in range(low + 2, wide + 1)]
    fewest = {}
    for count in range(len(inner) + 1):
        for more in itertools.combinations(inner, count):
            found = span_depths(wide, dues + list(more))
            if all(due in found for due in dues):
                deepest = max([found[due] for due in dues], default=0)
                fewest.setdefault(deepest, len(dues) + count)
    return fewest


def words_of(wide, steps):
    told = [(thing,) for thing in range(wide)]
    for one, other in steps:
        told.append(told[one] + told[other])
    return told


def depths_of(wide, steps):
    turns = [0] * wide
    for one, other in steps:
        turns.append(1 + max(turns[one], turns[other]))
    return turns


def is_there(wide, count, deep):
    """Whether there is a right net with just so many steps and no deeper: each list of steps is tried."""
    choices = [list(itertools.product(range(wide + place), repeat=2)) for place in range(count)]
    dues = [tuple(range(last + 1)) for last in range(wide)]
    for steps in itertools.product(*choices):
        near = [word for word, turn in zip(words_of(wide, steps), depths_of(wide, steps)) if turn <= deep]
        if all(due in near for due in dues):
            return True
    return False


class TestLeastDepth(unittest.TestCase):
    def test_by_hand(self):
        cases = ((1, 0), (2, 1), (3, 2), (4, 2), (5, 3), (8, 3), (9, 4), (16, 4), (17, 5), (32, 5), (33, 6), (64, 6))
        for wide, deep in cases:
            self.assertEqual(least_depth(wide), deep, wide)

    def test_all(self):
        for wide in range(1, 65):
            deep = least_depth(wide)
            self.assertGreaterEqual(2**deep, wide)
            self.assertTrue(deep == 0 or 2 ** (deep - 1) < wide)

    def test_others(self):
        for wide in (0, 65, 66, -1, LARGE, -LARGE):
            with self.assertRaises(BadKind):
                least_depth(wide)


class TestLeastNet(unittest.TestCase):
    def test_right_and_no_deeper_with_the_fewest_steps(self):
        for wide in range(1, 7):
            fewest = fewest_steps(wide)
            for deep in list(range(wide + 5)) + [64, LARGE]:
                counts = [count for reached, count in fewest.items() if reached <= deep]
                with self.subTest(wide=wide, deep=deep):
                    net = least_net(wide, deep)
                    if not counts:
                        self.assertIsNone(net)
                        self.assertLess(deep, least_depth(wide))
                        continue
                    self.assertIsNone(look_net(net))
                    self.assertEqual(net[0], wide)
                    self.assertEqual(judged(net, "any"), ("right",))
                    self.assertLessEqual(depth(net), deep)
                    self.assertEqual(len(net[1]), min(counts))
                    self.assertGreaterEqual(len(net[1]) + depth(net), 2 * wide - 2)

    def test_none_just_below_the_least_depth(self):
        for wide in range(2, 7):
            self.assertIsNone(least_net(wide, 0))
            self.assertIsNone(least_net(wide, least_depth(wide) - 1))
            self.assertIsNotNone(least_net(wide, least_depth(wide)))
        self.assertEqual(least_net(1, 0), (1, [], [0]))

    def test_steps_by_hand(self):
        cases = (
            (2, 1, 1), (3, 2, 2), (3, 3, 2), (4, 2, 4), (4, 3, 3),
            (5, 3, 5), (5, 4, 4), (6, 3, 7), (6, 4, 6), (6, 5, 5),
        )
        for wide, deep, count in cases:
            self.assertEqual(len(least_net(wide, deep)[1]), count, (wide, deep))

    def test_against_every_net_of_fewer_steps(self):
        for wide, deepest in ((1, 2), (2, 3), (3, 4), (4, 4)):
            for deep in range(deepest + 1):
                net = least_net(wide, deep)
                most = 3 if net is None else len(net[1]) - 1
                for count in range(most + 1):
                    self.assertFalse(is_there(wide, count, deep), (wide, deep, count))

    def test_others(self):
        for wide in (0, 7, 8, 64, 65, -1, LARGE, -LARGE):
            for deep in (0, 3, 6, 64, -1):
                with self.assertRaises(BadKind):
                    least_net(wide, deep)
        for wide in range(1, 7):
            for deep in (-1, -2, -LARGE):
                with self.assertRaises(BadKind):
                    least_net(wide, deep)

    def test_lists_that_are_told_are_new(self):
        for wide, deep in ((1, 0), (2, 1), (6, 3)):
            told = least_net(wide, deep)
            kept = copy.deepcopy(told)
            told[1].append((0, 0))
            told[2][0] = 99
            self.assertEqual(least_net(wide, deep), kept)


if __name__ == "__main__":
    unittest.main()
