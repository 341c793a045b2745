"""Wrong inputs: every refusal of every call, which goes first, and that it changes nothing."""

import unittest

from asking import (LONGEST, MOST, alt, ask, asked, block, call, cost, is_run, last, loop, nth, often, seq, slack,
                    stack, time)

THREE = [block(1), block(2), seq(0, 1)]
FULL = [block(1)] * 63 + [call(0, 1)]
REFUSED_ON_THREE = [
    block(65536), block(MOST),
    seq(3, 0), seq(0, 3), seq(3, 3), seq(MOST, 0), seq(0, MOST),
    alt(3, 0), alt(0, 3), alt(3, 3), alt(MOST, 0), alt(0, MOST),
    loop(3, 0, 1), loop(MOST, 0, 1), loop(0, 2, 1), loop(0, 0, 65536), loop(MOST, MOST, MOST),
    call(3, 0), call(MOST, 0), call(0, 65536), call(MOST, MOST),
    cost(2, 0), cost(3, 0), cost(MOST, 0), cost(0, 65536), cost(2, 65536), cost(MOST, MOST),
]


class NoSuchProgram(unittest.TestCase):
    def test_where_there_are_none(self):
        for wrong in (seq(0, 0), alt(0, 0), loop(0, 0, 1), call(0, 1), cost(0, 1)):
            self.assertEqual(ask(wrong), [-1])

    def test_every_refusal_with_1(self):
        for wrong in REFUSED_ON_THREE:
            self.assertEqual(last(*THREE, wrong), -1, wrong)

    def test_a_program_can_not_be_part_of_itself(self):
        for wrong in (seq(1, 0), seq(0, 1), alt(1, 0), alt(0, 1), loop(1, 0, 1), call(1, 0)):
            self.assertEqual(ask(block(1), wrong), [0, -1])

    def test_numbers_that_would_count_from_the_end(self):
        for far in (MOST, MOST - 1, 2 ** 63, 2 ** 63 - 1, 2 ** 32, 64):
            for wrong in (seq(far, 0), seq(0, far), alt(far, 0), alt(0, far), loop(far, 0, 1), call(far, 1),
                          cost(far, 1)):
                self.assertEqual(last(*THREE, wrong), -1, wrong)


class NoBlock(unittest.TestCase):
    def test_cost_on_every_kind_that_is_no_block(self):
        for made in (seq(0, 0), alt(0, 0), loop(0, 1, 1), call(0, 0)):
            self.assertEqual(ask(block(1), made, cost(1, 5), cost(0, 5)), [0, 1, -1, 0])


class WhichGoesFirst(unittest.TestCase):
    def test_1_before_2_where_there_are_64(self):
        for wrong in (block(65536), block(MOST),
                      seq(64, 0), seq(0, 64), seq(MOST, MOST), alt(64, 0), alt(0, 64), alt(MOST, MOST),
                      loop(64, 0, 1), loop(0, 1, 0), loop(0, 0, 65536), call(64, 0), call(0, 65536)):
            self.assertEqual(last(*FULL, wrong), -1, wrong)

    def test_1_before_2_where_the_runs_would_be_too_long(self):
        for wrong in (loop(3, 3, 2), loop(3, 0, 65536), loop(3, MOST, MOST), seq(3, 4), seq(4, 3)):
            self.assertEqual(last(*LONGEST, wrong), -1, wrong)

    def test_2_where_nothing_else_is_wrong(self):
        for full in (block(65535), seq(63, 63), alt(63, 63), loop(63, 0, 65535), call(63, 65535)):
            self.assertEqual(last(*FULL, full), -2, full)
        for long in (seq(3, 0), seq(3, 3), loop(3, 0, 2), loop(3, 65535, 65535)):
            self.assertEqual(last(*LONGEST, long), -2, long)


# Behind these 0 and 1 are blocks, 2 to 5 one of each other sort, and 5 has no run with block 1 in it.
SIX = [block(1), block(2), seq(0, 0), alt(2, 0), loop(3, 0, 2), call(4, 3)]
FAR = (6, 7, 63, 64, 2 ** 32, 2 ** 63, MOST - 5, MOST)


class AskedOfNone(unittest.TestCase):
    def test_where_there_are_no_programs(self):
        self.assertEqual(
            ask(time(0, 0), time(0, 1), often(0, 0, 0), often(0, 0, 1), stack(0), slack(0, 0), nth(0, 0),
                is_run(0, [])),
            [-1] * 8)

    def test_a_program_that_there_is_not(self):
        for far in FAR:
            for wrong in (time(far, 0), time(far, 1), time(far, MOST), often(far, 0, 0), often(far, 1, 1),
                          stack(far), slack(far, 0), slack(far, 1), nth(far, 0), nth(far, MOST),
                          is_run(far, []), is_run(far, [0]), is_run(far, [0] * 24), is_run(far, [0] * 25)):
                self.assertEqual(asked(SIX, wrong, block(1)), [-1, 6], wrong)

    def test_a_block_that_there_is_not(self):
        for far in FAR:
            for wrong in (often(5, far, 0), often(5, far, 1), often(0, far, 0), slack(5, far), slack(far, far),
                          often(far, far, 0)):
                self.assertEqual(asked(SIX, wrong, block(1)), [-1, 6], wrong)

    def test_a_program_that_is_no_block(self):
        for number in (2, 3, 4, 5):
            for wrong in (often(5, number, 0), often(5, number, 1), often(number, number, 0), slack(5, number),
                          slack(0, number), slack(number, number)):
                self.assertEqual(asked(SIX, wrong, block(1)), [-1, 6], wrong)

    def test_programs_of_before_init_are_gone(self):
        for wrong in (time(1), often(1, 0), often(0, 1), stack(1), slack(1, 0), slack(0, 1), nth(1, 0), is_run(1, [1])):
            self.assertEqual(ask(block(1), block(2), [0], block(3), wrong), [0, 1, 0, 0, -1], wrong)

    def test_a_program_that_was_refused_is_not_there(self):
        for wrong in (time(4), often(4, 0), often(0, 4), stack(4), slack(4, 0), nth(4, 0), is_run(4, [])):
            self.assertEqual(ask(*LONGEST, loop(3, 0, 2), wrong)[4:], [-2, -1], wrong)
            self.assertEqual(ask(*LONGEST, block(65536), wrong)[4:], [-1, -1], wrong)


class AskedOfNoBlock(unittest.TestCase):
    def test_1_before_3(self):
        self.assertEqual(asked(SIX, slack(5, 1), slack(6, 1), slack(5, 2), slack(5, MOST)), [-3, -1, -1, -1])
        # No run of program 1 has anything of these, but they are no blocks either.
        self.assertEqual(asked(SIX, slack(1, 0), slack(1, 2), slack(1, 5), slack(1, 6)), [-3, -1, -1, -1])
        self.assertEqual(asked(SIX, nth(5, MOST), nth(6, MOST)), [-3, -1])

    def test_too_long_a_row(self):
        for row in ([0] * 25, [MOST] * 25, list(range(26)), [0] * 1000):
            for a in (0, 5, 6, MOST):
                self.assertEqual(asked(SIX, is_run(a, row), is_run(0, [0])), [-1, 1])


class ChangesNothing(unittest.TestCase):
    def test_the_next_program_gets_the_number_it_would_have_got(self):
        for wrong in REFUSED_ON_THREE:
            self.assertEqual(ask(*THREE, wrong, block(1), seq(3, 2)), [0, 1, 2, -1, 3, 4], wrong)

    def test_too_long_runs_take_no_number(self):
        for long in (seq(3, 0), seq(0, 3), loop(3, 0, 2)):
            self.assertEqual(ask(*LONGEST, long, call(4, 0), block(1), call(4, 0))[4:], [-2, -1, 4, 5], long)

    def test_all_refusals_one_after_another(self):
        self.assertEqual(
            ask(*THREE, *REFUSED_ON_THREE, loop(2, 1, 2)),
            [0, 1, 2] + [-1] * len(REFUSED_ON_THREE) + [3])

    def test_a_refused_65th_is_not_there(self):
        self.assertEqual(ask(*FULL, block(1), call(64, 0), cost(64, 1), cost(62, 1))[64:], [-2, -1, -1, 0])

    def test_a_refused_program_makes_no_run_longer(self):
        calls = LONGEST[:3] + [loop(2, 0, 512)]
        self.assertEqual(ask(*calls, loop(3, 0, 3), seq(3, 3), seq(4, 0))[4:], [-2, 4, -2])


if __name__ == "__main__":
    unittest.main()
