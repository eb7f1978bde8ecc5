import copy
import itertools
import unittest

from samples import KINDS, LARGE, MISSING, NO_NETS, TURNED, TWICE, doubled_chain, line_net, stride_net
from sumspan.errors import BadKind, BadNet, BadRow
from sumspan.judging import judged, plain, run
from sumspan.nets import depth


def row_for(kind, wide):
    if kind == "any":
        return [chr(48 + thing) * (thing % 3) for thing in range(wide)]
    return [(thing * 37 + 11) % 23 - 9 for thing in range(wide)]


def words(net):
    told = [(thing,) for thing in range(net[0])]
    for one, other in net[1]:
        told.append(told[one] + told[other])
    return [told[out] for out in net[2]]


def right_word(kind, word, place):
    due = list(range(place + 1))
    if kind == "any":
        return list(word) == due
    if kind == "commuting":
        return sorted(word) == due
    return sorted(set(word)) == due


def first_wrong(net, kind):
    for place, word in enumerate(words(net)):
        if not right_word(kind, word, place):
            return place
    return None


def small_nets(wide, count):
    choices = [list(itertools.product(range(wide + k), repeat=2)) for k in range(count)]
    for steps in itertools.product(*choices):
        for outs in itertools.product(range(wide + count), repeat=wide):
            yield (wide, list(steps), list(outs))


class TestRun(unittest.TestCase):
    def test_any_joins_texts_in_order(self):
        net = (3, [(0, 1), (3, 2), (2, 0)], [0, 3, 4])
        self.assertEqual(run(net, "any", ["ab", "", "c d"]), ["ab", "ab", "abc d"])
        self.assertEqual(run(TURNED, "any", ["x", "y"]), ["x", "yx"])
        self.assertEqual(run(TWICE, "any", ["x", "y"]), ["x", "xxy"])

    def test_commuting_adds_numbers(self):
        net = (3, [(0, 1), (3, 2), (2, 0)], [0, 3, 4])
        self.assertEqual(run(net, "commuting", [5, -7, 3]), [5, -2, 1])
        self.assertEqual(run(TWICE, "commuting", [5, 1]), [5, 11])

    def test_greatest_takes_the_greatest(self):
        net = (3, [(0, 1), (3, 2), (2, 0)], [0, 3, 4])
        self.assertEqual(run(net, "greatest", [-5, -7, 3]), [-5, -5, 3])
        self.assertEqual(run(net, "greatest", [2, 9, 3]), [2, 9, 9])
        self.assertEqual(run(TWICE, "greatest", [-5, -1]), [-5, -1])

    def test_outs_as_they_stand(self):
        net = (3, [(2, 1)], [3, 1, 1])
        self.assertEqual(run(net, "any", ["a", "b", "c"]), ["cb", "b", "b"])
        self.assertEqual(run((1, [], [0]), "any", ["a"]), ["a"])
        self.assertEqual(run((1, [], [0]), "commuting", [0]), [0])

    def test_numbers_of_15_figures(self):
        net = line_net(2)
        self.assertEqual(run(net, "commuting", [LARGE, LARGE]), [LARGE, 2 * LARGE])
        self.assertEqual(run(net, "commuting", [-LARGE, LARGE]), [-LARGE, 0])
        self.assertEqual(run(net, "greatest", [-LARGE, LARGE]), [-LARGE, LARGE])

    def test_texts_of_all_signs(self):
        signs = "".join([chr(number) for number in range(32, 127) if number != 37]) + "\n"
        self.assertEqual(run(line_net(2), "any", [signs, "\n "]), [signs, signs + "\n "])

    def test_steps_that_are_not_used_cost_nothing(self):
        net = (2, doubled_chain(2, 0, 499) + [(0, 1)], [0, 501])
        self.assertEqual(run(net, "any", ["a", "b"]), ["a", "ab"])

    def test_numbers_told_very_often(self):
        net = (1, doubled_chain(1, 0, 500), [500])
        self.assertEqual(run(net, "commuting", [3]), [3 * 2**500])
        self.assertEqual(run(net, "greatest", [3]), [3])
        self.assertEqual(run(net, "any", [""]), [""])


class TestPlain(unittest.TestCase):
    def test_each_kind(self):
        self.assertEqual(plain("any", ["a", "", "bc", "d"]), ["a", "a", "abc", "abcd"])
        self.assertEqual(plain("commuting", [5, -7, 3]), [5, -2, 1])
        self.assertEqual(plain("greatest", [-5, -7, 3, 2]), [-5, -5, 3, 3])

    def test_one_thing_and_many(self):
        self.assertEqual(plain("any", ["x"]), ["x"])
        self.assertEqual(plain("commuting", [-4]), [-4])
        self.assertEqual(plain("greatest", [-4]), [-4])
        self.assertEqual(plain("commuting", [1] * 64), list(range(1, 65)))
        self.assertEqual(plain("commuting", [LARGE, LARGE]), [LARGE, 2 * LARGE])

    def test_right_nets_tell_the_same(self):
        for wide in (1, 2, 3, 7, 16, 63, 64):
            for net in (line_net(wide), stride_net(wide)):
                for kind in KINDS:
                    row = row_for(kind, wide)
                    self.assertEqual(run(net, kind, row), plain(kind, row))


class TestRefusals(unittest.TestCase):
    def test_what_is_no_net(self):
        for why, net in NO_NETS:
            for kind in KINDS:
                with self.subTest(why=why, kind=kind):
                    with self.assertRaises(BadNet):
                        run(net, kind, row_for(kind, 2))
                    with self.assertRaises(BadNet):
                        judged(net, kind)

    def test_other_kinds(self):
        for kind in ("", "Any", "any ", "ANY", "none", "commuting\n", "great", "greatestest"):
            with self.assertRaises(BadKind):
                run(line_net(2), kind, ["a", "b"])
            with self.assertRaises(BadKind):
                run(line_net(2), kind, [1, 2])
            with self.assertRaises(BadKind):
                judged(line_net(2), kind)
            with self.assertRaises(BadKind):
                judged(MISSING, kind)
            with self.assertRaises(BadKind):
                plain(kind, ["a", "b"])

    def test_rows_that_are_too_short_or_too_long(self):
        for wide in (1, 2, 64):
            for kind in KINDS:
                for length in (0, wide - 1, wide + 1):
                    with self.assertRaises(BadRow):
                        run(line_net(wide), kind, row_for(kind, length))

    def test_rows_with_others_than_told(self):
        cases = [
            ("any", [1, 2]),
            ("any", ["a", 2]),
            ("any", [1, "b"]),
            ("any", ["a", None]),
            ("any", ["a", ["b"]]),
            ("commuting", ["a", "b"]),
            ("commuting", [1, "b"]),
            ("commuting", ["1", 2]),
            ("commuting", [1, True]),
            ("commuting", [False, 1]),
            ("commuting", [1, None]),
            ("greatest", ["a", "b"]),
            ("greatest", [1, "b"]),
            ("greatest", ["1", 2]),
            ("greatest", [1, True]),
            ("greatest", [1, None]),
            ("any", ("a", "b")),
            ("any", "ab"),
            ("commuting", (1, 2)),
        ]
        for kind, row in cases:
            with self.subTest(kind=kind, row=row):
                with self.assertRaises(BadRow):
                    run(line_net(2), kind, row)

    def test_a_thing_that_is_not_used_is_looked_at_too(self):
        for kind, row in (("any", ["a", 1]), ("commuting", [1, "a"]), ("greatest", [1, "a"])):
            with self.assertRaises(BadRow):
                run(MISSING, kind, row)

    def test_the_order_of_errors(self):
        no_net = (2, [(0, 2)], [0, 2])
        with self.assertRaises(BadNet):
            run(no_net, "none", ["a", 1, 2])
        with self.assertRaises(BadNet):
            run(no_net, "none", ["a", "b"])
        with self.assertRaises(BadNet):
            run(no_net, "any", [1])
        with self.assertRaises(BadNet):
            judged(no_net, "none")
        with self.assertRaises(BadKind):
            run(line_net(2), "none", ["a", 1, 2])
        with self.assertRaises(BadKind):
            run(line_net(2), "none", [])


class TestJudged(unittest.TestCase):
    def check_right(self, net, kind):
        self.assertEqual(judged(net, kind), ("right",))
        row = row_for(kind, net[0])
        self.assertEqual(run(net, kind, row), plain(kind, row))

    def check_wrong(self, net, kind, place):
        told = judged(net, kind)
        self.assertIsInstance(told, tuple)
        self.assertEqual(told[:2], ("wrong", place))
        self.assertEqual(len(told), 3)
        self.check_row(net[0], kind, told[2])
        self.assertNotEqual(run(net, kind, told[2])[place], plain(kind, told[2])[place])

    def check_row(self, wide, kind, row):
        self.assertIs(type(row), list)
        self.assertEqual(len(row), wide)
        for thing in row:
            self.assertIs(type(thing), str if kind == "any" else int)

    def test_right_ones(self):
        for wide in (1, 2, 3, 4, 5, 8, 31, 64):
            for kind in KINDS:
                self.check_right(line_net(wide), kind)
                self.check_right(stride_net(wide), kind)

    def test_right_ones_with_steps_that_are_not_used(self):
        for kind in KINDS:
            self.check_right((2, [(1, 0), (2, 2), (0, 1)], [0, 4]), kind)
            self.check_right((2, doubled_chain(2, 0, 499) + [(0, 1)], [0, 501]), kind)

    def test_turned_is_wrong_for_any_alone(self):
        self.check_wrong(TURNED, "any", 1)
        self.check_right(TURNED, "commuting")
        self.check_right(TURNED, "greatest")

    def test_told_twice_is_right_for_greatest_alone(self):
        self.check_wrong(TWICE, "any", 1)
        self.check_wrong(TWICE, "commuting", 1)
        self.check_right(TWICE, "greatest")
        in_order_twice = (3, [(0, 1), (1, 2), (3, 4)], [0, 3, 5])
        self.check_wrong(in_order_twice, "any", 2)
        self.check_wrong(in_order_twice, "commuting", 2)
        self.check_right(in_order_twice, "greatest")

    def test_the_first_thing_told_twice(self):
        net = (1, [(0, 0)], [1])
        self.check_wrong(net, "any", 0)
        self.check_wrong(net, "commuting", 0)
        self.check_right(net, "greatest")

    def test_missing_is_wrong_for_all(self):
        for kind in KINDS:
            self.check_wrong(MISSING, kind, 1)
            self.check_wrong((3, [(0, 2)], [0, 0, 3]), kind, 1)
            self.check_wrong((3, [(0, 1), (0, 2)], [0, 3, 4]), kind, 2)

    def test_one_too_many_is_wrong_for_all(self):
        net = (3, [(0, 1), (3, 2)], [0, 4, 4])
        for kind in KINDS:
            self.check_wrong(net, kind, 1)
            self.check_wrong((2, [(0, 1)], [2, 2]), kind, 0)

    def test_two_faults_in_one_out(self):
        # One thing twice in the place of another: as many things, and the right sum of like ones.
        net = (3, [(0, 1), (3, 1)], [0, 3, 4])
        for kind in KINDS:
            self.check_wrong(net, kind, 2)

    def test_the_first_one_that_is_not(self):
        steps = [(0, 1), (2, 4), (1, 0), (5, 3)]
        cases = [
            ([0, 4, 5, 7], 2, None, None),
            ([0, 6, 5, 7], 1, None, None),
            ([1, 4, 5, 7], 0, 0, 0),
            ([0, 4, 5, 4], 2, 3, 3),
            ([0, 4, 4, 4], 2, 2, 2),
        ]
        for outs, for_any, for_commuting, for_greatest in cases:
            net = (4, steps, outs)
            for kind, place in zip(KINDS, (for_any, for_commuting, for_greatest)):
                if place is None:
                    self.check_right(net, kind)
                else:
                    self.check_wrong(net, kind, place)

    def test_a_turned_step_in_the_last_out_alone(self):
        net = (3, [(0, 1), (1, 0), (4, 2)], [0, 3, 5])
        self.check_wrong(net, "any", 2)
        self.check_right(net, "commuting")

    def test_wide_ones_with_the_last_out_wrong(self):
        wide, steps, outs = line_net(64)
        turned = (wide, steps[:-1] + [(63, steps[-1][0])], outs)
        self.check_wrong(turned, "any", 63)
        self.check_right(turned, "commuting")
        self.check_right(turned, "greatest")
        twice = (wide, steps + [(0, outs[-1])], outs[:-1] + [wide + 63])
        self.check_wrong(twice, "any", 63)
        self.check_wrong(twice, "commuting", 63)
        self.check_right(twice, "greatest")
        short = (wide, steps, outs[:-1] + [outs[-2]])
        for kind in KINDS:
            self.check_wrong(short, kind, 63)

    def test_told_very_often(self):
        net = (1, doubled_chain(1, 0, 500), [500])
        told = judged(net, "any")
        self.assertEqual(told[:2], ("wrong", 0))
        self.check_row(1, "any", told[2])
        self.assertNotEqual(told[2], [""])
        self.check_wrong(net, "commuting", 0)
        self.check_right(net, "greatest")

    def test_the_row_told_can_be_run_beside_outs_too_long_for_it(self):
        chain = doubled_chain(2, 0, 400)
        self.check_wrong((2, chain, [1, 401]), "any", 0)
        chain = doubled_chain(4, 2, 400)
        turned = chain + [(0, 1), (2, 1), (405, 0)]
        self.check_wrong((4, turned, [0, 404, 406, 403]), "any", 2)

    def test_all_small_nets(self):
        for wide, count in ((1, 0), (1, 1), (1, 2), (2, 0), (2, 1), (2, 2), (3, 0), (3, 1), (3, 2)):
            for net in small_nets(wide, count):
                for kind in KINDS:
                    place = first_wrong(net, kind)
                    if place is not None:
                        self.check_wrong(net, kind, place)
                        continue
                    self.check_right(net, kind)
                    if kind == "any":
                        self.assertGreaterEqual(count + depth(net), 2 * wide - 2)

    def test_steps_and_depth_of_right_ones(self):
        for wide in range(1, 65):
            self.assertEqual(len(line_net(wide)[1]) + depth(line_net(wide)), 2 * wide - 2)
            net = stride_net(wide)
            self.assertEqual(judged(net, "any"), ("right",))
            self.assertGreaterEqual(len(net[1]) + depth(net), 2 * wide - 2)


class TestNothingIsChangedOrKept(unittest.TestCase):
    def test_what_is_handed_in_stays_the_same(self):
        for net in (line_net(2), TURNED, TWICE, MISSING):
            for kind in KINDS:
                row = row_for(kind, 2)
                before = copy.deepcopy((net, row))
                run(net, kind, row)
                plain(kind, row)
                judged(net, kind)
                self.assertEqual((net, row), before)

    def test_lists_that_are_told_are_new(self):
        for kind in KINDS:
            for wide in (1, 2):
                row = row_for(kind, wide)
                before = list(row)
                for told in (run((wide, [], list(range(wide))), kind, row), plain(kind, row)):
                    told.append(None)
                    told[0] = None
                    self.assertEqual(row, before)

    def test_a_row_that_is_told_is_new_each_time(self):
        for kind in KINDS:
            told = judged(MISSING, kind)
            kept = copy.deepcopy(told)
            told[2][0] = None
            told[2].append(None)
            self.assertEqual(judged(MISSING, kind), kept)


if __name__ == "__main__":
    unittest.main()
