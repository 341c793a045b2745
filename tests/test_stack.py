"""stack: the most stack that a program may come to."""

import unittest

from asking import LONGEST, alt, asked, block, call, cost, loop, seq, stack


def deepest(*made):
    """The most stack that the last program made may come to."""
    return asked(list(made), stack(len(made) - 1))[0]


class EachSort(unittest.TestCase):
    def test_block(self):
        self.assertEqual(deepest(block(9)), 0)

    def test_without_a_call(self):
        self.assertEqual(deepest(block(9), block(8), seq(0, 1), alt(2, 0), loop(3, 1, 9)), 0)

    def test_call(self):
        self.assertEqual(deepest(block(9), call(0, 16)), 16)

    def test_frames_of_0_and_of_65535(self):
        self.assertEqual(deepest(block(9), call(0, 0)), 0)
        self.assertEqual(deepest(block(9), call(0, 65535)), 65535)
        self.assertEqual(deepest(block(9), call(0, 65535), call(1, 0)), 65535)

    def test_calls_within_calls(self):
        self.assertEqual(deepest(block(9), call(0, 16), call(1, 8), call(2, 4)), 28)
        self.assertEqual(deepest(block(9), call(0, 65535), call(1, 65535)), 131070)

    def test_calls_side_by_side(self):
        self.assertEqual(deepest(block(9), call(0, 16), call(0, 8), seq(1, 2)), 16)
        self.assertEqual(deepest(block(9), call(0, 16), call(0, 8), seq(2, 1)), 16)
        self.assertEqual(deepest(block(9), call(0, 16), seq(1, 1)), 16)

    def test_calls_in_a_choice(self):
        self.assertEqual(deepest(block(9), call(0, 16), call(0, 8), alt(1, 2)), 16)
        self.assertEqual(deepest(block(9), call(0, 16), call(0, 8), alt(2, 1)), 16)

    def test_a_call_beside_what_calls_nothing(self):
        for both in (seq(0, 1), seq(1, 0), alt(0, 1), alt(1, 0)):
            self.assertEqual(deepest(block(9), call(0, 16), both), 16)

    def test_the_cheaper_way_may_be_the_deeper_one(self):
        self.assertEqual(deepest(block(9), block(1), call(1, 16), alt(0, 2)), 16)
        self.assertEqual(deepest(block(9), block(1), call(1, 16), call(0, 2), alt(3, 2)), 16)


class Loops(unittest.TestCase):
    def test_a_call_within_a_loop_that_is_never_gone_through(self):
        self.assertEqual(deepest(block(9), call(0, 16), loop(1, 0, 0)), 0)
        self.assertEqual(deepest(block(9), call(0, 16), loop(1, 0, 0), loop(2, 5, 5)), 0)
        self.assertEqual(deepest(block(9), call(0, 16), loop(1, 0, 0), call(0, 3), seq(2, 3)), 3)
        self.assertEqual(deepest(block(9), call(0, 16), loop(1, 3, 3), loop(2, 0, 0)), 0)

    def test_a_call_within_a_loop_that_may_be_gone_through(self):
        self.assertEqual(deepest(block(9), call(0, 16), loop(1, 0, 1)), 16)
        self.assertEqual(deepest(block(9), call(0, 16), loop(1, 1, 1)), 16)
        self.assertEqual(deepest(block(9), call(0, 16), loop(1, 0, 65535)), 16)
        self.assertEqual(deepest(block(9), call(0, 16), loop(1, 65535, 65535)), 16)

    def test_rounds_are_one_after_another(self):
        self.assertEqual(deepest(block(9), call(0, 16), loop(1, 2, 3), call(2, 5), loop(3, 4, 4)), 21)

    def test_a_call_around_a_loop_that_is_never_gone_through(self):
        self.assertEqual(deepest(block(9), loop(0, 0, 0), call(1, 16)), 16)
        self.assertEqual(deepest(block(9), call(0, 16), loop(1, 0, 0), call(2, 3)), 3)


class MadeOfSeveral(unittest.TestCase):
    def test_the_deepest_of_all_ways(self):
        made = [block(9), call(0, 10), call(0, 25), seq(1, 0), call(3, 20), alt(4, 2), loop(5, 0, 2), call(6, 1)]
        self.assertEqual(asked(made, *[stack(a) for a in range(8)]), [0, 10, 25, 10, 30, 30, 30, 31])

    def test_one_program_called_at_several_depths(self):
        self.assertEqual(deepest(block(9), call(0, 10), call(1, 10), seq(1, 2), call(3, 10), alt(1, 4)), 30)

    def test_frames_of_two_ways_are_not_mixed(self):
        # Outer 30 with inner 1, or outer 1 with inner 30, but never 30 with 30.
        made = [block(9), call(0, 1), call(1, 30), call(0, 30), call(3, 1), alt(2, 4)]
        self.assertEqual(deepest(*made), 31)

    def test_cost_has_no_part_in_it(self):
        made = [block(9), block(1), call(1, 16), call(0, 2), alt(3, 2)]
        for changed in (cost(0, 0), cost(1, 65535), cost(0, 65535)):
            self.assertEqual(asked(made + [changed], stack(4)), [16])

    def test_the_deepest_that_there_can_be(self):
        self.assertEqual(deepest(block(9), *[call(k, 65535) for k in range(63)]), 63 * 65535)

    def test_a_run_of_2_to_the_40_blocks_with_a_call_each(self):
        made = [block(1), call(0, 7), loop(1, 32768, 32768), loop(2, 32768, 32768), loop(3, 1024, 1024)]
        self.assertEqual(deepest(*made), 7)
        self.assertEqual(deepest(*LONGEST), 0)


if __name__ == "__main__":
    unittest.main()
