"""often: how often a block is in the run that has it most often, and in the one that has it least often."""

import unittest

from asking import BLOCKS, LONGEST, MOST, alt, asked, block, call, cost, loop, often, seq


def both(made, a, b):
    return tuple(asked(made, often(a, b, 0), often(a, b, 1)))


class EachSort(unittest.TestCase):
    def test_block(self):
        made = [block(5), block(7)]
        self.assertEqual([both(made, 0, 0), both(made, 0, 1), both(made, 1, 0), both(made, 1, 1)],
                         [(1, 1), (0, 0), (0, 0), (1, 1)])

    def test_seq(self):
        made = [block(5), block(7), seq(0, 1), seq(1, 1), seq(2, 0)]
        self.assertEqual([both(made, a, 0) for a in (2, 3, 4)], [(1, 1), (0, 0), (2, 2)])
        self.assertEqual([both(made, a, 1) for a in (2, 3, 4)], [(1, 1), (2, 2), (1, 1)])

    def test_alt(self):
        made = [block(5), block(7), alt(0, 1), alt(1, 0), alt(0, 0)]
        self.assertEqual([both(made, a, 0) for a in (2, 3, 4)], [(1, 0), (1, 0), (1, 1)])
        self.assertEqual([both(made, a, 1) for a in (2, 3, 4)], [(1, 0), (1, 0), (0, 0)])

    def test_loop(self):
        made = [block(5), loop(0, 2, 3), loop(0, 0, 3), loop(0, 3, 3), loop(0, 0, 0), loop(0, 1, 65535),
                loop(0, 65535, 65535)]
        self.assertEqual([both(made, a, 0) for a in range(1, 7)],
                         [(3, 2), (3, 0), (3, 3), (0, 0), (65535, 1), (65535, 65535)])

    def test_call(self):
        made = [block(5), block(7), call(0, 3)]
        self.assertEqual([both(made, 2, 0), both(made, 2, 1)], [(1, 1), (0, 0)])


class MadeOfSeveral(unittest.TestCase):
    MADE = [block(5), block(7), seq(0, 1), alt(0, 2), loop(3, 1, 4), call(4, 99), seq(5, 2), alt(6, 0), loop(7, 2, 3)]

    def test_each_program_of_them(self):
        self.assertEqual([both(self.MADE, a, 0) for a in range(9)],
                         [(1, 1), (0, 0), (1, 1), (1, 1), (4, 1), (4, 1), (5, 2), (5, 1), (15, 2)])
        self.assertEqual([both(self.MADE, a, 1) for a in range(9)],
                         [(0, 0), (1, 1), (1, 1), (1, 0), (4, 0), (4, 0), (5, 1), (5, 0), (15, 0)])

    def test_a_block_in_no_run_in_every_run_and_in_some(self):
        made = [block(1), block(2), block(3), alt(0, 1), seq(2, 3), block(4)]
        self.assertEqual([both(made, 4, b) for b in (5, 2, 0, 1)], [(0, 0), (1, 1), (1, 0), (1, 0)])

    def test_a_block_of_a_loop_that_is_never_gone_through(self):
        made = [block(1), block(2), loop(0, 0, 0), seq(2, 1), loop(3, 5, 9)]
        self.assertEqual([both(made, 4, 0), both(made, 4, 1)], [(0, 0), (9, 5)])

    def test_cost_has_no_part_in_it(self):
        # The run that has block 0 most often is the cheap one.
        made = [block(1), block(1000), loop(0, 3, 3), alt(2, 1)]
        self.assertEqual([both(made, 3, 0), both(made, 3, 1)], [(3, 0), (1, 0)])
        for changed in (cost(0, 65535), cost(1, 0), cost(0, 0)):
            self.assertEqual([both(made + [changed], 3, 0), both(made + [changed], 3, 1)], [(3, 0), (1, 0)])

    def test_a_block_made_behind_the_program(self):
        self.assertEqual(both([block(1), seq(0, 0), block(1)], 1, 2), (0, 0))

    def test_two_blocks_of_one_cost_are_two_blocks(self):
        made = [block(4), block(4), seq(0, 1), seq(2, 0)]
        self.assertEqual([both(made, 3, 0), both(made, 3, 1)], [(2, 2), (1, 1)])


class Least(unittest.TestCase):
    def test_every_number_but_0_asks_for_the_least(self):
        made = [block(5), loop(0, 2, 3)]
        self.assertEqual(
            asked(made, often(1, 0, 0), often(1, 0, 1), often(1, 0, 2), often(1, 0, 2 ** 32), often(1, 0, MOST)),
            [3, 2, 2, 2, 2])


class Far(unittest.TestCase):
    def test_2_to_the_40_times(self):
        self.assertEqual(both(LONGEST, 3, 0), (BLOCKS, BLOCKS))
        self.assertEqual(both(LONGEST + [loop(3, 0, 1)], 4, 0), (BLOCKS, 0))
        self.assertEqual(both(LONGEST + [cost(0, 0)], 3, 0), (BLOCKS, BLOCKS))


if __name__ == "__main__":
    unittest.main()
