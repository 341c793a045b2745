"""nth: the block at a place of the run that's told."""

import unittest

from asking import BLOCKS, LONGEST, MOST, alt, asked, block, call, cost, loop, nth, seq, told_run


class EachSort(unittest.TestCase):
    def test_block(self):
        self.assertEqual(told_run([block(5), block(5)], 1, 1), [1, -3])

    def test_seq(self):
        self.assertEqual(told_run([block(5), block(7), seq(0, 1)], 2, 2), [0, 1, -3])
        self.assertEqual(told_run([block(5), block(7), seq(1, 0)], 2, 2), [1, 0, -3])
        self.assertEqual(told_run([block(5), seq(0, 0)], 1, 2), [0, 0, -3])

    def test_loop(self):
        self.assertEqual(told_run([block(5), loop(0, 1, 3)], 1, 3), [0, 0, 0, -3])
        self.assertEqual(told_run([block(5), block(6), seq(0, 1), loop(2, 0, 2)], 3, 4), [0, 1, 0, 1, -3])

    def test_call(self):
        self.assertEqual(told_run([block(5), block(6), seq(1, 0), call(2, 9)], 3, 2), [1, 0, -3])


class Choices(unittest.TestCase):
    def test_the_first_where_both_cost_the_same(self):
        self.assertEqual(told_run([block(5), block(5), alt(0, 1)], 2, 1), [0, -3])
        self.assertEqual(told_run([block(5), block(5), alt(1, 0)], 2, 1), [1, -3])
        self.assertEqual(told_run([block(4), block(8), loop(0, 2, 2), alt(1, 2)], 3, 1), [1, -3])
        self.assertEqual(told_run([block(4), block(8), loop(0, 2, 2), alt(2, 1)], 3, 2), [0, 0, -3])

    def test_the_first_where_it_is_dearer(self):
        self.assertEqual(told_run([block(6), block(5), alt(0, 1)], 2, 1), [0, -3])

    def test_the_second_where_it_is_dearer(self):
        self.assertEqual(told_run([block(5), block(6), alt(0, 1)], 2, 1), [1, -3])

    def test_dearer_and_not_longer(self):
        made = [block(1), block(9), loop(0, 5, 5), alt(2, 1), alt(1, 2)]
        self.assertEqual(told_run(made, 3, 1), [1, -3])
        self.assertEqual(told_run(made, 4, 1), [1, -3])

    def test_the_dearest_runs_are_compared_and_not_the_cheapest(self):
        made = [block(5), block(3), loop(1, 0, 2), alt(0, 2)]
        self.assertEqual(told_run(made, 3, 2), [1, 1, -3])

    def test_first_with_no_blocks_where_the_second_costs_nothing(self):
        made = [block(0), loop(0, 0, 0), alt(1, 0), alt(0, 1)]
        self.assertEqual(told_run(made, 2, 0), [-3])
        self.assertEqual(told_run(made, 3, 1), [0, -3])

    def test_behind_cost(self):
        made = [block(5), block(6), alt(0, 1)]
        self.assertEqual(
            asked(made, nth(2, 0), cost(0, 6), nth(2, 0), cost(1, 7), nth(2, 0), cost(1, 0), nth(2, 0), cost(0, 0),
                  nth(2, 0)),
            [1, 0, 0, 0, 1, 0, 0, 0, 0])

    def test_cost_changes_how_long_it_is(self):
        made = [block(5), block(2), loop(1, 0, 3), alt(0, 2), seq(3, 0)]
        self.assertEqual(told_run(made, 4, 4), [1, 1, 1, 0, -3])
        self.assertEqual(told_run(made + [cost(0, 6)], 4, 2), [0, 0, -3])
        self.assertEqual(told_run(made + [cost(0, 7)], 4, 2), [0, 0, -3])

    def test_a_choice_within_a_choice(self):
        made = [block(1), block(2), block(3), alt(0, 1), alt(3, 2), alt(2, 3), alt(4, 5)]
        self.assertEqual(told_run(made, 6, 1), [2, -3])
        self.assertEqual(told_run(made + [cost(0, 3)], 6, 1), [0, -3])
        self.assertEqual(told_run(made + [cost(1, 4)], 6, 1), [1, -3])

    def test_a_choice_within_a_loop_is_made_alike_in_every_round(self):
        self.assertEqual(told_run([block(5), block(5), alt(1, 0), loop(2, 0, 3)], 3, 3), [1, 1, 1, -3])


class Loops(unittest.TestCase):
    def test_hi_times_even_where_nothing_costs(self):
        self.assertEqual(told_run([block(0), loop(0, 0, 3)], 1, 3), [0, 0, 0, -3])

    def test_a_loop_that_is_never_gone_through(self):
        self.assertEqual(asked([block(5), loop(0, 0, 0)], nth(1, 0), nth(1, 1), nth(1, MOST)), [-3, -3, -3])

    def test_a_loop_whose_body_has_no_blocks(self):
        made = [block(5), loop(0, 0, 0), loop(1, 3, 65535), seq(2, 0), seq(3, 1), call(4, 9), loop(5, 0, 2)]
        self.assertEqual(told_run(made, 2, 0), [-3])
        self.assertEqual(told_run(made, 6, 2), [0, 0, -3])

    def test_loops_within_loops(self):
        made = [block(5), block(6), loop(0, 0, 2), seq(2, 1), loop(3, 1, 2), seq(1, 4), loop(5, 2, 2)]
        self.assertEqual(told_run(made, 6, 14), [1, 0, 0, 1, 0, 0, 1, 1, 0, 0, 1, 0, 0, 1, -3])


class MadeOfSeveral(unittest.TestCase):
    MADE = [block(5), block(7), seq(0, 1), alt(0, 2), loop(3, 1, 2), call(4, 99), seq(5, 0), alt(6, 0), seq(1, 7)]

    def test_one_program_as_part_of_several(self):
        self.assertEqual(told_run(self.MADE, 8, 6), [1, 0, 1, 0, 1, 0, -3])

    def test_again_behind_cost(self):
        self.assertEqual(told_run(self.MADE + [cost(1, 0)], 8, 4), [1, 0, 0, 0, -3])


class Places(unittest.TestCase):
    def test_first_last_and_beyond(self):
        made = [block(1), block(2), loop(0, 3, 3), seq(2, 1)]
        self.assertEqual(
            asked(made, nth(3, 0), nth(3, 3), nth(3, 4), nth(3, 5), nth(3, 2 ** 32), nth(3, 2 ** 63), nth(3, MOST)),
            [0, 1, -3, -3, -3, -3, -3])

    def test_far_out(self):
        # 2^40 blocks: 2^30 rounds of 1023 and one, which end with block 1 each.
        made = [block(1), block(2), loop(0, 1023, 1023), seq(2, 1), loop(3, 32768, 32768), loop(4, 0, 32768)]
        self.assertEqual(
            asked(made, nth(5, 0), nth(5, 1022), nth(5, 1023), nth(5, 1024), nth(5, 2 ** 39 - 1), nth(5, 2 ** 39),
                  nth(5, 2 ** 39 + 1023), nth(5, BLOCKS - 2), nth(5, BLOCKS - 1), nth(5, BLOCKS), nth(5, MOST)),
            [0, 0, 1, 0, 1, 0, 1, 0, 1, -3, -3])

    def test_all_places_of_one_block(self):
        places = (0, BLOCKS // 3, BLOCKS - 1, BLOCKS)
        self.assertEqual(asked(LONGEST, *[nth(3, i) for i in places]), [0, 0, 0, -3])

    def test_by_seq_alone(self):
        # Doubled 38 times: 2^38 and 2^38, with block 39 between them.
        made = [block(1)] + [seq(k, k) for k in range(38)] + [block(2), seq(38, 39), seq(40, 38)]
        places = (2 ** 38 - 1, 2 ** 38, 2 ** 38 + 1, 2 ** 39, 2 ** 39 + 1)
        self.assertEqual(asked(made, *[nth(41, i) for i in places]), [0, 39, 0, 0, -3])

    def test_far_out_behind_cost(self):
        made = LONGEST + [block(1), loop(4, 1, 512), alt(5, 0), seq(2, 6)]
        far = [nth(7, 2 ** 30 - 1), nth(7, 2 ** 30), nth(7, 2 ** 30 + 511), nth(7, 2 ** 30 + 512)]
        self.assertEqual(asked(made, *far), [0, 4, 4, -3])
        self.assertEqual(asked(made + [cost(0, 513)], *far), [0, 0, -3, -3])
        self.assertEqual(asked(made + [cost(0, 512)], *far), [0, 4, 4, -3])


if __name__ == "__main__":
    unittest.main()
