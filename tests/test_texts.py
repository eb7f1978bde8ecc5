import copy
import unittest

from samples import NO_NETS, WORDS, doubled_chain, loose_net, mixed_net
from sumspan.errors import BadNet, BadText
from sumspan.known import known
from sumspan.least import least_net
from sumspan.texts import read, written

BY_HAND = (
    ((1, [], [0]), "wide 1\nouts 0"),
    ((2, [(0, 1)], [0, 2]), "wide 2\n0+1\nouts 0 2"),
    ((2, [(1, 0), (2, 2)], [3, 3]), "wide 2\n1+0\n2+2\nouts 3 3"),
    ((3, [(0, 1), (3, 2), (1, 2)], [0, 3, 4]), "wide 3\n0+1\n3+2\n1+2\nouts 0 3 4"),
    ((11, [(10, 9)], [11, 10, 9, 8, 7, 6, 5, 4, 3, 2, 1]), "wide 11\n10+9\nouts 11 10 9 8 7 6 5 4 3 2 1"),
)

# Each with the way in which it is not written so.
NO_TEXTS = (
    ("nothing", ""),
    ("a line end alone", "\n"),
    ("another text", "a net"),
    ("a nought ahead of the things", "wide 01\nouts 0"),
    ("a nought ahead in a step, first", "wide 2\n00+1\nouts 0 2"),
    ("a nought ahead in a step, second", "wide 2\n0+01\nouts 0 2"),
    ("a nought ahead in the outs", "wide 2\n0+1\nouts 0 02"),
    ("two noughts in the outs", "wide 2\n0+1\nouts 00 2"),
    ("three noughts", "wide 2\n0+1\nouts 000 2"),
    ("four figures in the things", "wide 1000\nouts 0"),
    ("four figures with noughts in the things", "wide 0001\nouts 0"),
    ("four figures in a step", "wide 2\n0+1000\nouts 0 2"),
    ("four figures in a step with noughts", "wide 2\n0000+1\nouts 0 2"),
    ("four figures in the outs", "wide 2\n0+1\nouts 0 1000"),
    ("a blank too many ahead of the things", "wide  2\n0+1\nouts 0 2"),
    ("a blank too many behind the things", "wide 2 \n0+1\nouts 0 2"),
    ("a blank too many ahead of wide", " wide 2\n0+1\nouts 0 2"),
    ("a blank too few ahead of the things", "wide2\n0+1\nouts 0 2"),
    ("a blank ahead of a step", "wide 2\n 0+1\nouts 0 2"),
    ("a blank behind a step", "wide 2\n0+1 \nouts 0 2"),
    ("blanks within a step", "wide 2\n0 + 1\nouts 0 2"),
    ("a blank too many ahead of the first out", "wide 2\n0+1\nouts  0 2"),
    ("a blank too many between outs", "wide 2\n0+1\nouts 0  2"),
    ("a blank too many behind the outs", "wide 2\n0+1\nouts 0 2 "),
    ("a blank too many ahead of outs", "wide 2\n0+1\n outs 0 2"),
    ("a blank too few ahead of the outs", "wide 2\n0+1\nouts0 2"),
    ("a blank too few between outs", "wide 2\n0+1\nouts 02"),
    ("a blank in the place of a plus", "wide 2\n0 1\nouts 0 2"),
    ("an empty row first", "\nwide 2\n0+1\nouts 0 2"),
    ("an empty row among the steps", "wide 2\n\n0+1\nouts 0 2"),
    ("an empty row ahead of the outs", "wide 2\n0+1\n\nouts 0 2"),
    ("a line end at the end", "wide 2\n0+1\nouts 0 2\n"),
    ("a line end at the end, without steps", "wide 1\nouts 0\n"),
    ("the row of the things lacks", "0+1\nouts 0 2"),
    ("the row of the outs lacks", "wide 2\n0+1"),
    ("all rows but the things lack", "wide 1"),
    ("all rows but the outs lack", "outs 0"),
    ("a step lacks", "wide 2\nouts 0 2"),
    ("the number of things lacks", "wide\nouts 0"),
    ("the number of things lacks behind its blank", "wide \nouts 0"),
    ("the outs lack", "wide 2\n0+1\nouts"),
    ("the outs lack behind their blank", "wide 1\nouts "),
    ("the first node of a step lacks", "wide 2\n+1\nouts 0 2"),
    ("the second node of a step lacks", "wide 2\n0+\nouts 0 2"),
    ("both nodes of a step lack", "wide 2\n+\nouts 0 2"),
    ("three nodes in a step", "wide 2\n0+1+1\nouts 0 2"),
    ("two pluses", "wide 2\n0++1\nouts 0 2"),
    ("two numbers of things", "wide 2 2\n0+1\nouts 0 2"),
    ("capitals", "Wide 2\n0+1\nOuts 0 2"),
    ("the outs ahead of a step", "wide 2\nouts 0 2\n0+1"),
    ("the things behind", "outs 0\nwide 1"),
    ("the things twice", "wide 1\nwide 1\nouts 0"),
    ("the outs twice", "wide 1\nouts 0\nouts 0"),
    ("no line ends", "wide 2 0+1 outs 0 2"),
    ("signs ahead of numbers", "wide +1\nouts 0"),
    ("a minus ahead of nought", "wide 1\nouts -0"),
    ("a number below 0", "wide 2\n0+1\nouts 0 -1"),
    ("a number with a line between its figures", "wide 1_1\nouts 0"),
    ("a letter in a number", "wide 2\n0+1\nouts 0 2a"),
    ("a comma between outs", "wide 2\n0+1\nouts 0,2"),
    ("none: 0 things", "wide 0\nouts"),
    ("none: 0 things and a blank", "wide 0\nouts "),
    ("none: 65 things", "wide 65\nouts " + " ".join([str(out) for out in range(65)])),
    ("none: a step of itself", "wide 2\n0+2\nouts 0 2"),
    ("none: a step of one behind it", "wide 2\n3+0\n0+1\nouts 0 2"),
    ("none: an out behind the last node", "wide 2\n0+1\nouts 0 3"),
    ("none: an out too few", "wide 2\n0+1\nouts 0"),
    ("none: an out too many", "wide 2\n0+1\nouts 0 2 2"),
    ("none: 501 steps", "wide 1\n" + "0+0\n" * 501 + "outs 0"),
)


def nets():
    yield (1, doubled_chain(1, 0, 500), [500])
    yield (64, [(63, 0)] * 500, [563] * 64)
    for wide in (1, 2, 3, 10, 11, 63, 64):
        for word in WORDS:
            yield known(word, wide)
        for seed in range(5):
            yield mixed_net(seed, wide)
            yield loose_net(seed, wide, 20 * seed)
    for wide in range(1, 7):
        yield least_net(wide, wide)


class TestWritten(unittest.TestCase):
    def test_by_hand(self):
        for net, text in BY_HAND:
            self.assertEqual(written(net), text)

    def test_row_by_row(self):
        for net in nets():
            rows = written(net).split("\n")
            self.assertEqual(len(rows), len(net[1]) + 2)
            self.assertEqual(rows[0], "wide " + str(net[0]))
            for row, (one, other) in zip(rows[1:-1], net[1]):
                self.assertEqual(row, str(one) + "+" + str(other))
            self.assertEqual(rows[-1], "outs" + "".join([" " + str(out) for out in net[2]]))

    def test_what_is_no_net(self):
        for why, net in NO_NETS:
            with self.subTest(why=why):
                with self.assertRaises(BadNet):
                    written(net)


class TestRead(unittest.TestCase):
    def test_by_hand(self):
        for net, text in BY_HAND:
            self.assertEqual(read(text), net)

    def test_written_and_read_again(self):
        for net in nets():
            before = copy.deepcopy(net)
            self.assertEqual(read(written(net)), net)
            self.assertEqual(net, before)

    def test_kinds(self):
        wide, steps, outs = read("wide 2\n0+1\nouts 0 2")
        self.assertIs(type(wide), int)
        self.assertIs(type(steps), list)
        self.assertIs(type(steps[0]), tuple)
        self.assertIs(type(outs), list)

    def test_what_is_not_written_so(self):
        for why, text in NO_TEXTS:
            with self.subTest(why=why):
                with self.assertRaises(BadText):
                    read(text)

    def test_one_sign_more_or_less(self):
        # Whatever is read of a text that is off by a sign is written as just that text.
        text = "wide 3\n0+1\n3+2\nouts 0 3 4"
        for place in range(len(text) + 1):
            for sign in "\n +-0159aw_~":
                for other in (text[:place] + sign + text[place:], text[:place] + sign + text[place + 1:]):
                    self.check_either(other)
            self.check_either(text[:place] + text[place + 1:])

    def check_either(self, text):
        try:
            net = read(text)
        except BadText:
            return
        self.assertEqual(written(net), text)

    def test_each_net_that_is_told_is_new(self):
        text = "wide 2\n0+1\nouts 0 2"
        told = read(text)
        told[1].append((0, 0))
        told[2][0] = 99
        self.assertEqual(read(text), (2, [(0, 1)], [0, 2]))


if __name__ == "__main__":
    unittest.main()
