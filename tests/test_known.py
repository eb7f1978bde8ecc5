import copy
import unittest

from samples import KINDS, LARGE, WORDS
from sumspan.errors import BadKind
from sumspan.judging import judged
from sumspan.known import known
from sumspan.least import least_depth
from sumspan.nets import depth, look_net, used

# Steps and outs, reckoned by hand from the words of the document.
BY_HAND = {
    ("line", 1): ([], [0]),
    ("line", 2): ([(0, 1)], [0, 2]),
    ("line", 3): ([(0, 1), (3, 2)], [0, 3, 4]),
    ("line", 5): ([(0, 1), (5, 2), (6, 3), (7, 4)], [0, 5, 6, 7, 8]),
    ("line", 8): (
        [(0, 1), (8, 2), (9, 3), (10, 4), (11, 5), (12, 6), (13, 7)],
        [0, 8, 9, 10, 11, 12, 13, 14],
    ),
    ("halves", 1): ([], [0]),
    ("halves", 2): ([(0, 1)], [0, 2]),
    ("halves", 3): ([(0, 1), (3, 2)], [0, 3, 4]),
    ("halves", 4): ([(0, 1), (2, 3), (4, 2), (4, 5)], [0, 4, 6, 7]),
    ("halves", 5): ([(0, 1), (5, 2), (3, 4), (6, 3), (6, 7)], [0, 5, 6, 8, 9]),
    ("halves", 8): (
        [(0, 1), (2, 3), (8, 2), (8, 9)]
        + [(4, 5), (6, 7), (12, 6), (12, 13)]
        + [(11, 4), (11, 12), (11, 14), (11, 15)],
        [0, 8, 10, 11, 16, 17, 18, 19],
    ),
    ("strides", 1): ([], [0]),
    ("strides", 2): ([(0, 1)], [0, 2]),
    ("strides", 3): ([(0, 1), (1, 2), (0, 4)], [0, 3, 5]),
    ("strides", 5): (
        [(0, 1), (1, 2), (2, 3), (3, 4)] + [(0, 6), (5, 7), (6, 8)] + [(0, 11)],
        [0, 5, 9, 10, 12],
    ),
    ("strides", 8): (
        [(0, 1), (1, 2), (2, 3), (3, 4), (4, 5), (5, 6), (6, 7)]
        + [(0, 9), (8, 10), (9, 11), (10, 12), (11, 13), (12, 14)]
        + [(0, 17), (8, 18), (15, 19), (16, 20)],
        [0, 8, 15, 16, 21, 22, 23, 24],
    ),
    ("updown", 1): ([], [0]),
    ("updown", 2): ([(0, 1)], [0, 2]),
    ("updown", 3): ([(0, 1), (3, 2)], [0, 3, 4]),
    ("updown", 4): ([(0, 1), (2, 3), (4, 5), (4, 2)], [0, 4, 7, 6]),
    ("updown", 5): ([(0, 1), (2, 3), (5, 6), (5, 2), (7, 4)], [0, 5, 8, 7, 9]),
    ("updown", 7): (
        [(0, 1), (2, 3), (4, 5)] + [(7, 8), (10, 9)] + [(7, 2), (10, 4), (11, 6)],
        [0, 7, 12, 10, 13, 11, 14],
    ),
    ("updown", 8): (
        [(0, 1), (2, 3), (4, 5), (6, 7)] + [(8, 9), (10, 11)] + [(12, 13)] + [(12, 10)] + [(8, 2), (12, 4), (15, 6)],
        [0, 8, 16, 12, 17, 15, 18, 14],
    ),
}


class TestKnown(unittest.TestCase):
    def test_by_hand(self):
        for (word, wide), (steps, outs) in BY_HAND.items():
            with self.subTest(word=word, wide=wide):
                self.assertEqual(known(word, wide), (wide, steps, outs))

    def test_right_for_each_kind(self):
        for word in WORDS:
            for wide in range(1, 65):
                net = known(word, wide)
                self.assertIsNone(look_net(net))
                self.assertEqual(net[0], wide)
                for kind in KINDS:
                    self.assertEqual(judged(net, kind), ("right",), (word, wide, kind))

    def test_all_steps_are_used(self):
        for word in ("line", "halves", "updown"):
            for wide in range(1, 65):
                self.assertNotIn(False, used(known(word, wide)))

    def test_steps_and_depths(self):
        for wide in range(1, 65):
            self.assertEqual(len(known("line", wide)[1]), wide - 1)
            self.assertEqual(depth(known("line", wide)), wide - 1)
            self.assertEqual(depth(known("halves", wide)), least_depth(wide))
            self.assertEqual(depth(known("strides", wide)), least_depth(wide))

    def test_steps_at_64(self):
        self.assertEqual(len(known("halves", 64)[1]), 32 * 6)
        self.assertEqual(len(known("strides", 64)[1]), 63 + 62 + 60 + 56 + 48 + 32)
        self.assertEqual(len(known("updown", 64)[1]), 2 * 64 - 2 - 6)
        self.assertEqual(depth(known("updown", 64)), 10)

    def test_steps_and_depth_together(self):
        for word in WORDS:
            for wide in range(1, 65):
                net = known(word, wide)
                self.assertGreaterEqual(len(net[1]) + depth(net), 2 * wide - 2, (word, wide))

    def test_other_words(self):
        for word in ("", "Line", "line ", " line", "half", "stride", "up", "down", "up down", "any", "updown\n"):
            for wide in (1, 2, 64):
                with self.assertRaises(BadKind):
                    known(word, wide)

    def test_other_counts(self):
        for word in WORDS + ("none",):
            for wide in (0, 65, 66, -1, -64, LARGE, -LARGE):
                with self.assertRaises(BadKind):
                    known(word, wide)

    def test_lists_that_are_told_are_new(self):
        for word in WORDS:
            for wide in (1, 2, 5):
                told = known(word, wide)
                kept = copy.deepcopy(told)
                told[1].append((0, 0))
                told[2][0] = 99
                self.assertEqual(known(word, wide), kept)


if __name__ == "__main__":
    unittest.main()
