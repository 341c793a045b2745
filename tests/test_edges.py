"""The edges that the document names: 65,535, lo beside hi, 64 programs, and runs of 2^40 blocks."""

import unittest

from asking import BLOCKS, LONGEST, MOST, alt, ask, block, call, cost, last, loop, seq


class Greatest(unittest.TestCase):
    def test_cost_of_a_new_block(self):
        self.assertEqual(ask(block(0), block(65535), block(65536), block(MOST)), [0, 1, -1, -1])

    def test_new_cost(self):
        self.assertEqual(
            ask(block(1), cost(0, 0), cost(0, 65535), cost(0, 65536), cost(0, MOST)),
            [0, 0, 0, -1, -1])

    def test_frame(self):
        self.assertEqual(
            ask(block(1), call(0, 0), call(0, 65535), call(0, 65536), call(0, MOST)),
            [0, 1, 2, -1, -1])

    def test_hi(self):
        self.assertEqual(
            ask(block(1), loop(0, 0, 65535), loop(0, 0, 65536), loop(0, 0, MOST)),
            [0, 1, -1, -1])

    def test_lo_and_hi_both_greatest_and_both_beyond(self):
        self.assertEqual(
            ask(block(1), loop(0, 65535, 65535), loop(0, 65536, 65536), loop(0, MOST, MOST)),
            [0, 1, -1, -1])

    def test_hi_beyond_is_refused_though_the_runs_would_have_no_block(self):
        self.assertEqual(ask(block(1), loop(0, 0, 0), loop(1, 0, 65535), loop(1, 0, 65536)), [0, 1, 2, -1])


class LoBesideHi(unittest.TestCase):
    def test_lo_below_equal_and_above(self):
        self.assertEqual(ask(block(1), loop(0, 2, 3), loop(0, 3, 3), loop(0, 4, 3)), [0, 1, 2, -1])

    def test_lo_and_hi_0(self):
        self.assertEqual(ask(block(1), loop(0, 0, 0)), [0, 1])

    def test_lo_above_hi_0(self):
        self.assertEqual(ask(block(1), loop(0, 1, 0), loop(0, MOST, 0), loop(0, MOST, 65535)), [0, -1, -1, -1])


class SixtyFour(unittest.TestCase):
    def test_the_64th_and_the_65th_of_each_kind(self):
        for made in (block(1), seq(0, 62), alt(62, 0), loop(0, 0, 1), call(62, 1)):
            self.assertEqual(
                ask(*[block(1)] * 63, made, made, made),
                list(range(64)) + [-2, -2])

    def test_a_program_of_each_kind_made_behind_a_full_64(self):
        full = [block(1)] * 64
        for made in (block(1), seq(0, 1), alt(0, 1), loop(0, 0, 1), call(0, 1)):
            self.assertEqual(last(*full, made), -2)

    def test_64_is_also_full_where_the_runs_would_be_too_long(self):
        full = LONGEST + [block(1)] * 60
        self.assertEqual(ask(*full, seq(3, 3), loop(3, 2, 2))[-2:], [-2, -2])

    def test_cost_at_64(self):
        self.assertEqual(last(*[block(1)] * 64, cost(63, 9)), 0)
        self.assertEqual(last(*[block(1)] * 64, cost(64, 9)), -1)

    def test_what_was_refused_does_not_count(self):
        wrong = [block(65536), seq(0, 9999), alt(9999, 0), loop(0, 1, 0), call(0, 65536)]
        calls = [block(1)] + wrong * 20 + [block(1)] * 63 + [block(1)]
        self.assertEqual(ask(*calls), [0] + [-1] * 100 + list(range(1, 64)) + [-2])


class LongestRuns(unittest.TestCase):
    def test_just_2_to_the_40_by_loop(self):
        self.assertEqual(ask(*LONGEST), [0, 1, 2, 3])

    def test_just_2_to_the_40_by_seq(self):
        doubled = [block(1)] + [seq(k, k) for k in range(40)]
        self.assertEqual(ask(*doubled), list(range(41)))
        self.assertEqual(last(*doubled, seq(40, 40)), -2)

    def test_one_more_by_seq(self):
        self.assertEqual(last(*LONGEST, seq(3, 0)), -2)
        self.assertEqual(last(*LONGEST, seq(0, 3)), -2)

    def test_from_one_fewer_to_just_as_many_to_one_more_by_seq(self):
        self.assertEqual(61681 * 64821 * 275, BLOCKS - 1)
        calls = [block(1), loop(0, 0, 61681), loop(1, 0, 64821), loop(2, 0, 275)]
        self.assertEqual(ask(*calls, seq(3, 0), seq(4, 0), seq(0, 4)), [0, 1, 2, 3, 4, -2, -2])
        self.assertEqual(ask(*calls, seq(0, 3), seq(4, 0), seq(0, 4)), [0, 1, 2, 3, 4, -2, -2])

    def test_one_more_by_loop(self):
        self.assertEqual((65536 * 65280 + 65281) * 257, BLOCKS + 1)
        calls = [block(1), loop(0, 0, 32768), loop(1, 0, 2), loop(2, 0, 65280), loop(0, 0, 65281), seq(3, 4)]
        self.assertEqual(ask(*calls, loop(5, 0, 257), loop(5, 0, 256)), [0, 1, 2, 3, 4, 5, -2, 6])

    def test_loop_of_a_longest_run(self):
        self.assertEqual(
            ask(*LONGEST, loop(3, 0, 0), loop(3, 0, 1), loop(3, 1, 1), loop(3, 0, 2), loop(3, 2, 2), loop(3, 0, 65535)),
            [0, 1, 2, 3, 4, 5, 6, -2, -2, -2])

    def test_the_longest_of_all_that_hi_allows(self):
        calls = [block(1), loop(0, 0, 65535), loop(1, 0, 65535)]
        self.assertLess(65535 * 65535 * 256, BLOCKS)
        self.assertGreater(65535 * 65535 * 257, BLOCKS)
        self.assertEqual(ask(*calls, loop(2, 0, 257), loop(2, 0, 65535), loop(2, 0, 256)), [0, 1, 2, -2, -2, 3])

    def test_hi_counts_and_lo_does_not(self):
        calls = [block(1), loop(0, 0, 32768), loop(1, 1, 32768)]
        self.assertEqual(ask(*calls, loop(2, 0, 1025), loop(2, 0, 1024), seq(3, 0)), [0, 1, 2, -2, 3, -2])

    def test_alt_and_call_of_a_longest_run(self):
        self.assertEqual(
            ask(*LONGEST, alt(3, 3), alt(0, 3), alt(3, 0), call(3, 0), call(3, 65535)),
            [0, 1, 2, 3, 4, 5, 6, 7, 8])

    def test_alt_has_the_longest_run_of_its_longer_part(self):
        for made in (alt(3, 0), alt(0, 3), alt(3, 3)):
            self.assertEqual(ask(*LONGEST, made, seq(4, 0), loop(4, 0, 2), loop(4, 0, 1))[4:], [4, -2, -2, 5])

    def test_alt_is_no_longer_than_its_longer_part(self):
        calls = LONGEST[:3] + [loop(2, 0, 512), loop(2, 0, 511), alt(3, 4)]
        self.assertEqual(ask(*calls, seq(5, 3), seq(6, 0))[5:], [5, 6, -2])

    def test_call_has_the_longest_run_of_its_part(self):
        self.assertEqual(ask(*LONGEST, call(3, 7), seq(0, 4), loop(4, 0, 2), loop(4, 0, 1))[4:], [4, -2, -2, 5])

    def test_runs_with_no_block_add_none(self):
        calls = LONGEST + [loop(3, 0, 0), seq(3, 4), seq(4, 5), alt(4, 6), loop(4, 65535, 65535), seq(8, 7)]
        self.assertEqual(ask(*calls, seq(9, 0)), list(range(10)) + [-2])

    def test_cost_has_no_part_in_how_long_a_run_is(self):
        self.assertEqual(ask(*LONGEST, cost(0, 0), seq(3, 3), cost(0, 65535), seq(3, 0)), [0, 1, 2, 3, 0, -2, 0, -2])

    def test_programs_as_deep_as_there_can_be(self):
        calls = [block(1)] + [call(k, 65535) for k in range(63)]
        self.assertEqual(ask(*calls, call(63, 0)), list(range(64)) + [-2])


if __name__ == "__main__":
    unittest.main()
