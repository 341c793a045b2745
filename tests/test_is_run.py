"""is_run: whether a row of blocks is a run, whatever way it's parted."""

import unittest

from asking import LONGEST, MOST, alt, ask, asked, block, call, cost, is_run, loop, seq, time


def judged(made, a, *rows):
    return asked(made, *[is_run(a, list(row)) for row in rows])


def rounds(made, a, longest):
    """For which numbers of blocks 0, up to longest, a row of so many is a run."""
    told = judged(made, a, *[[0] * k for k in range(longest + 1)])
    return [k for k in range(longest + 1) if told[k] == 1]


class EachSort(unittest.TestCase):
    def test_block(self):
        self.assertEqual(judged([block(5), block(5)], 1, [1], [0], [], [1, 1], [2]), [1, 0, 0, 0, 0])

    def test_seq(self):
        self.assertEqual(
            judged([block(5), block(7), seq(0, 1)], 2, [0, 1], [1, 0], [0], [1], [], [0, 1, 0], [0, 0, 1], [2]),
            [1, 0, 0, 0, 0, 0, 0, 0])

    def test_alt(self):
        self.assertEqual(
            judged([block(5), block(7), alt(0, 1)], 2, [0], [1], [], [0, 1], [1, 0], [0, 0], [2]),
            [1, 1, 0, 0, 0, 0, 0])

    def test_loop(self):
        self.assertEqual(rounds([block(5), loop(0, 2, 4)], 1, 6), [2, 3, 4])
        made = [block(5), block(6), loop(0, 2, 4)]
        self.assertEqual(judged(made, 2, [0, 1], [1, 0], [1, 1], [0, 0, 1]), [0, 0, 0, 0])

    def test_call(self):
        made = [block(5), block(7), seq(0, 1), call(2, 8), call(3, 0)]
        self.assertEqual(judged(made, 4, [0, 1], [1, 0], [], [0], [2], [3]), [1, 0, 0, 0, 0, 0])

    def test_neither_cost_nor_frame_has_a_part_in_it(self):
        made = [block(5), block(7), alt(0, 1), call(2, 65535), cost(0, 0), cost(1, 0)]
        self.assertEqual(judged(made, 3, [0], [1], []), [1, 1, 0])

    def test_cheaper_runs_are_runs_too(self):
        made = [block(5), block(900), alt(0, 1), loop(2, 2, 2)]
        self.assertEqual(judged(made, 3, [0, 0], [0, 1], [1, 0], [1, 1]), [1] * 4)


class EmptyRow(unittest.TestCase):
    def test_runs_with_no_blocks(self):
        made = [block(5), loop(0, 0, 0), loop(0, 0, 3), loop(1, 4, 4), seq(1, 2), seq(1, 0), alt(0, 1), call(6, 1),
                loop(0, 1, 3), loop(6, 9, 9)]
        self.assertEqual([judged(made, a, [])[0] for a in range(10)], [0, 1, 1, 1, 1, 0, 1, 1, 0, 1])


class Rounds(unittest.TestCase):
    def test_lo_0(self):
        self.assertEqual(rounds([block(5), loop(0, 0, 3)], 1, 6), [0, 1, 2, 3])

    def test_lo_equal_to_hi(self):
        self.assertEqual(rounds([block(5), loop(0, 3, 3)], 1, 6), [3])

    def test_hi_0(self):
        self.assertEqual(rounds([block(5), loop(0, 0, 0)], 1, 6), [0])

    def test_hi_65535(self):
        self.assertEqual(rounds([block(5), loop(0, 0, 65535)], 1, 24), list(range(25)))
        self.assertEqual(rounds([block(5), loop(0, 23, 65535)], 1, 24), [23, 24])
        self.assertEqual(rounds([block(5), loop(0, 65535, 65535)], 1, 24), [])

    def test_lo_and_hi_beside_the_longest_row(self):
        self.assertEqual(rounds([block(5), loop(0, 24, 24)], 1, 24), [24])
        self.assertEqual(rounds([block(5), loop(0, 0, 24)], 1, 24), list(range(25)))
        self.assertEqual(rounds([block(5), loop(0, 0, 23)], 1, 24), list(range(24)))
        self.assertEqual(rounds([block(5), loop(0, 25, 30)], 1, 24), [])
        self.assertEqual(rounds([block(5), loop(0, 24, 25)], 1, 24), [24])

    def test_rounds_of_several_blocks(self):
        made = [block(5), block(6), seq(0, 1), loop(2, 2, 3)]
        self.assertEqual(
            judged(made, 3, [0, 1], [0, 1] * 2, [0, 1] * 3, [0, 1] * 4, [0, 1, 0], [0, 1, 1, 0]),
            [0, 1, 1, 0, 0, 0])

    def test_loops_within_loops(self):
        self.assertEqual(rounds([block(5), loop(0, 2, 2), loop(1, 0, 3)], 2, 10), [0, 2, 4, 6])
        self.assertEqual(rounds([block(5), loop(0, 3, 4), loop(1, 2, 3)], 2, 15), [6, 7, 8, 9, 10, 11, 12])
        self.assertEqual(rounds([block(5), loop(0, 5, 5), loop(1, 0, 4), seq(2, 0)], 3, 24), [1, 6, 11, 16, 21])
        self.assertEqual(rounds(LONGEST, 3, 24), [])

    def test_neither_3_nor_5_nor_sums_of_these(self):
        made = [block(1), loop(0, 3, 3), loop(0, 5, 5), alt(1, 2), loop(3, 0, 65535)]
        self.assertEqual([k for k in range(25) if k not in rounds(made, 4, 24)], [1, 2, 4, 7])
        made = made[:4] + [loop(3, 3, 4)]
        self.assertEqual(rounds(made, 4, 24), [9, 11, 12, 13, 14, 15, 16, 18, 20])


class RoundsThatMayBeEmpty(unittest.TestCase):
    def test_empty_rounds_make_up_what_is_missing_to_lo(self):
        made = [block(5), loop(0, 0, 1), loop(1, 5, 5), loop(1, 3, 6), loop(1, 65535, 65535)]
        self.assertEqual(rounds(made, 2, 8), [0, 1, 2, 3, 4, 5])
        self.assertEqual(rounds(made, 3, 8), [0, 1, 2, 3, 4, 5, 6])
        self.assertEqual(rounds(made, 4, 24), list(range(25)))

    def test_hi_still_holds(self):
        self.assertEqual(rounds([block(5), loop(0, 0, 2), loop(1, 3, 3)], 2, 8), [0, 1, 2, 3, 4, 5, 6])

    def test_a_round_empty_by_choice(self):
        made = [block(5), block(6), seq(0, 1), loop(0, 0, 0), alt(2, 3), loop(4, 4, 4)]
        self.assertEqual(judged(made, 5, [], [0, 1], [0, 1] * 3, [0, 1] * 4, [0, 1] * 5, [0]), [1, 1, 1, 1, 0, 0])

    def test_rounds_that_are_all_empty(self):
        self.assertEqual(rounds([block(5), loop(0, 0, 0), loop(1, 7, 9), seq(2, 0)], 3, 3), [1])

    def test_empty_or_long_rounds(self):
        made = [block(5), loop(0, 3, 4), loop(0, 0, 0), alt(2, 1), loop(3, 9, 9)]
        self.assertEqual([k for k in range(25) if k not in rounds(made, 4, 24)], [1, 2, 5])


class Choices(unittest.TestCase):
    def test_a_choice_within_a_loop(self):
        made = [block(5), block(6), alt(0, 1), loop(2, 2, 3)]
        self.assertEqual(
            judged(made, 3, [0, 0], [0, 1], [1, 0, 1], [1, 1, 1], [0], [0, 0, 0, 0], [], [0, 2]),
            [1, 1, 1, 1, 0, 0, 0, 0])

    def test_a_loop_within_a_choice(self):
        made = [block(5), block(6), loop(0, 2, 3), loop(1, 0, 2), alt(2, 3)]
        self.assertEqual(
            judged(made, 4, [], [0], [0, 0], [0, 0, 0], [0] * 4, [1], [1, 1], [1, 1, 1], [0, 1], [0, 0, 1]),
            [1, 0, 1, 1, 0, 1, 1, 0, 0, 0])


class SeveralWaysToPart(unittest.TestCase):
    def test_the_longest_first_part_is_not_always_the_right_one(self):
        self.assertEqual(rounds([block(5), loop(0, 0, 3), loop(0, 2, 2), seq(1, 2)], 3, 7), [2, 3, 4, 5])
        # A loop that takes all it can leaves nothing for what follows.
        made = [block(5), block(6), alt(0, 1), loop(2, 0, 65535), seq(3, 0), seq(4, 1)]
        self.assertEqual(
            judged(made, 5, [0, 1], [0, 1, 0, 1], [1, 1, 0, 1], [0, 0], [1, 1], [0, 1, 0]),
            [1, 1, 1, 0, 0, 0])

    def test_nor_the_shortest(self):
        made = [block(5), block(6), seq(0, 1), alt(0, 2), seq(3, 0), seq(3, 1)]
        self.assertEqual(judged(made, 4, [0, 0], [0, 1, 0], [0, 1], [0]), [1, 1, 0, 0])
        self.assertEqual(judged(made, 5, [0, 1], [0, 1, 1], [0, 1, 0], [1, 1]), [1, 1, 0, 0])

    def test_rounds_that_begin_alike(self):
        # Rounds of 0, of 0 1 and of 1 0: 0 1 0 parts in two ways.
        made = [block(5), block(6), seq(0, 1), seq(1, 0), alt(0, 2), alt(4, 3), loop(5, 2, 2), loop(5, 3, 3)]
        self.assertEqual(
            judged(made, 6, [0, 1, 0], [0, 1, 1, 0], [0, 0], [0, 0, 0], [1, 0, 0, 1], [1, 1]),
            [1, 1, 1, 0, 1, 0])
        self.assertEqual(judged(made, 7, [0, 1, 0], [0, 1, 1, 0], [0, 0, 0], [0, 1, 0, 0]), [0, 0, 1, 1])

    def test_a_row_of_24_that_parts_in_very_many_ways(self):
        made = [block(5), loop(0, 0, 65535), loop(1, 0, 65535), block(6), seq(2, 3), seq(2, 2), seq(5, 3),
                loop(6, 0, 100)]
        self.assertEqual(judged(made, 4, [0] * 24, [0] * 23 + [3]), [0, 1])
        self.assertEqual(judged(made, 7, [0] * 24, [0] * 23 + [3], [3] * 24, [0, 3] * 12, [3, 0] * 12), [0, 1, 1, 1, 0])


class HowLong(unittest.TestCase):
    def test_24_and_25_numbers(self):
        made = [block(5), loop(0, 0, 65535)]
        self.assertEqual(judged(made, 1, [0] * 24, [0] * 25, [0] * 26), [1, -1, -1])
        self.assertEqual(judged(made, 1, [9] * 24, [9] * 25), [0, -1])
        self.assertEqual(judged(made, 0, [0] * 24, [0] * 25), [0, -1])

    def test_1000_numbers_and_what_is_asked_behind_them(self):
        made = [block(5), loop(0, 0, 65535)]
        for row in ([0] * 1000, list(range(1000)), [MOST] * 1000, [12, 1, 1] * 333):
            self.assertEqual(
                asked(made, is_run(1, row), time(1), is_run(1, [0]), is_run(7, row), block(1), is_run(0, [])),
                [-1, 5 * 65535, 1, -1, 2, 0])

    def test_15_rows_of_1000(self):
        self.assertEqual(ask(block(5), *[is_run(0, [0] * 1000)] * 15, is_run(0, [0])), [0] + [-1] * 15 + [1])

    def test_rows_take_just_their_own_numbers(self):
        made = [block(5), block(6), seq(0, 1)]
        self.assertEqual(
            asked(made, is_run(2, []), is_run(2, [0, 1]), is_run(9, [1, 1, 1]), is_run(2, [0]), is_run(9, []),
                  block(1)),
            [0, 1, -1, 0, -1, 3])


class NoBlocks(unittest.TestCase):
    def test_numbers_that_are_no_blocks(self):
        made = [block(5), loop(0, 0, 3), seq(1, 1), call(2, 4), block(6)]
        for number in (1, 2, 3, 4, 5, 63, 64, 2 ** 32, 2 ** 63, MOST - 1, MOST):
            for a in (0, 1, 2, 3):
                self.assertEqual(judged(made, a, [number], [0, number], [number, 0], [number] * 24), [0] * 4)
                self.assertEqual(judged(made, a, [number] * 25), [-1])

    def test_a_program_is_not_told_by_its_own_number(self):
        made = [block(5), seq(0, 0), alt(0, 0), loop(0, 1, 1), call(0, 1)]
        self.assertEqual([judged(made, a, [a])[0] for a in range(5)], [1, 0, 0, 0, 0])

    def test_a_block_made_behind_the_program(self):
        self.assertEqual(judged([block(5), alt(0, 0), block(5)], 1, [2], [0]), [0, 1])

    def test_blocks_of_one_cost_are_not_each_other(self):
        self.assertEqual(judged([block(5), block(5), seq(0, 1)], 2, [0, 1], [1, 0], [0, 0], [1, 1]), [1, 0, 0, 0])


if __name__ == "__main__":
    unittest.main()
