"""time: the cost of a dearest run and of a cheapest one."""

import unittest

from asking import BLOCKS, LONGEST, MOST, alt, asked, block, call, cost, init, loop, seq, time


def both(made, a):
    """The cost of a's dearest run and of its cheapest."""
    return tuple(asked(made, time(a, 0), time(a, 1)))


class EachSort(unittest.TestCase):
    def test_block(self):
        self.assertEqual(both([block(5)], 0), (5, 5))
        self.assertEqual(both([block(0)], 0), (0, 0))
        self.assertEqual(both([block(65535)], 0), (65535, 65535))

    def test_seq(self):
        self.assertEqual(both([block(5), block(7), seq(0, 1)], 2), (12, 12))
        self.assertEqual(both([block(5), seq(0, 0)], 1), (10, 10))

    def test_alt(self):
        self.assertEqual(both([block(5), block(7), alt(0, 1)], 2), (7, 5))
        self.assertEqual(both([block(5), block(7), alt(1, 0)], 2), (7, 5))
        self.assertEqual(both([block(5), block(5), alt(1, 0)], 2), (5, 5))

    def test_loop(self):
        self.assertEqual(both([block(5), loop(0, 2, 3)], 1), (15, 10))
        self.assertEqual(both([block(5), loop(0, 0, 3)], 1), (15, 0))
        self.assertEqual(both([block(5), loop(0, 3, 3)], 1), (15, 15))
        self.assertEqual(both([block(5), loop(0, 0, 0)], 1), (0, 0))
        self.assertEqual(both([block(5), loop(0, 1, 65535)], 1), (327675, 5))
        self.assertEqual(both([block(5), loop(0, 65535, 65535)], 1), (327675, 327675))

    def test_call(self):
        self.assertEqual(both([block(5), call(0, 1000)], 1), (5, 5))


class MadeOfSeveral(unittest.TestCase):
    MADE = [block(5), block(7), seq(0, 1), alt(0, 2), loop(3, 1, 4), call(4, 99), seq(5, 2), alt(6, 0), loop(7, 2, 3)]

    def test_each_program_of_them(self):
        self.assertEqual(
            [both(self.MADE, a) for a in range(9)],
            [(5, 5), (7, 7), (12, 12), (12, 5), (48, 5), (48, 5), (60, 17), (60, 5), (180, 10)])

    def test_again_behind_cost(self):
        self.assertEqual(
            [both(self.MADE + [cost(1, 0)], a) for a in range(9)],
            [(5, 5), (0, 0), (5, 5), (5, 5), (20, 5), (20, 5), (25, 10), (25, 5), (75, 10)])
        self.assertEqual(
            [both(self.MADE + [cost(0, 65535), cost(1, 1)], a) for a in (2, 3, 8)],
            [(65536, 65536), (65536, 65535), (15 * 65536, 2 * 65535)])

    def test_each_round_of_a_loop_may_be_another_run(self):
        # Three rounds, each for itself the dearer or the cheaper one.
        self.assertEqual(both([block(1), block(9), alt(0, 1), loop(2, 3, 3)], 3), (27, 3))

    def test_the_cheapest_run_may_leave_out_a_loop_in_a_loop(self):
        self.assertEqual(both([block(3), loop(0, 0, 2), loop(1, 4, 5)], 2), (30, 0))

    def test_a_choice_of_nothing(self):
        self.assertEqual(both([block(3), loop(0, 0, 0), alt(0, 1)], 2), (3, 0))
        self.assertEqual(both([block(3), loop(0, 0, 0), alt(1, 0)], 2), (3, 0))

    def test_the_cheapest_may_have_more_blocks_than_the_dearest(self):
        self.assertEqual(both([block(9), block(1), loop(1, 5, 5), alt(0, 2)], 3), (9, 5))


class Least(unittest.TestCase):
    def test_every_number_but_0_asks_for_the_cheapest(self):
        made = [block(5), loop(0, 2, 3)]
        self.assertEqual(
            asked(made, *[time(1, least) for least in (0, 1, 2, 256, 2 ** 32, 2 ** 63, MOST)]),
            [15, 10, 10, 10, 10, 10, 10])


class Cost(unittest.TestCase):
    def test_a_cost_that_changes_back_and_forth(self):
        made = [block(5), block(7), alt(0, 1), loop(2, 1, 2)]
        self.assertEqual(
            asked(made, time(3), cost(0, 8), time(3), time(3, 1), cost(0, 5), time(3), time(3, 1)),
            [14, 0, 16, 7, 0, 14, 5])

    def test_a_refused_cost_leaves_it_as_it_was(self):
        made = [block(5), seq(0, 0)]
        self.assertEqual(
            asked(made, cost(0, 65536), time(1), cost(1, 9), time(1), cost(0, MOST), time(0)),
            [-1, 10, -1, 10, -1, 5])

    def test_a_cost_of_before_init_is_gone(self):
        self.assertEqual(asked([block(5), cost(0, 9), init(), block(6), block(7)], time(0), time(1)), [6, 7])


class Far(unittest.TestCase):
    def test_2_to_the_40_blocks_of_65535(self):
        self.assertEqual(both(LONGEST + [cost(0, 65535)], 3), (BLOCKS * 65535, BLOCKS * 65535))

    def test_nothing_or_2_to_the_40_blocks_of_65535(self):
        made = [block(65535), loop(0, 0, 32768), loop(1, 0, 32768), loop(2, 0, 1024)]
        self.assertEqual(both(made, 3), (BLOCKS * 65535, 0))

    def test_all_that_is_doubled_by_seq(self):
        made = [block(65535)] + [seq(k, k) for k in range(40)]
        self.assertEqual(both(made, 40), (BLOCKS * 65535, BLOCKS * 65535))

    def test_one_block_apart_in_a_run_of_2_to_the_40(self):
        made = LONGEST + [cost(0, 65535), block(65534), seq(1, 4), seq(1, 0), alt(5, 6)]
        self.assertEqual(both(made, 7), (65535 * 32769, 65535 * 32769 - 1))


if __name__ == "__main__":
    unittest.main()
