"""slack: by how much a block may become dearer and the dearest run cost the same, and no further."""

import unittest

from asking import BLOCKS, LONGEST, alt, asked, block, call, cost, loop, seq, slack, time


def slacks(made, a, *blocks):
    return asked(made, *[slack(a, b) for b in blocks])


class NoSlack(unittest.TestCase):
    def test_a_block_of_itself(self):
        self.assertEqual(slacks([block(5)], 0, 0), [0])
        self.assertEqual(slacks([block(0)], 0, 0), [0])
        self.assertEqual(slacks([block(65535)], 0, 0), [0])

    def test_in_the_dearest_run_once(self):
        self.assertEqual(slacks([block(5), block(7), seq(0, 1)], 2, 0, 1), [0, 0])
        self.assertEqual(slacks([block(5), call(0, 9)], 1, 0), [0])

    def test_in_the_dearest_run_many_times(self):
        self.assertEqual(slacks([block(5), loop(0, 0, 65535)], 1, 0), [0])
        self.assertEqual(slacks(LONGEST, 3, 0), [0])
        self.assertEqual(slacks(LONGEST + [cost(0, 65535)], 3, 0), [0])

    def test_of_either_of_two_dearest_ways(self):
        self.assertEqual(slacks([block(7), block(7), alt(0, 1)], 2, 0, 1), [0, 0])
        self.assertEqual(slacks([block(0), block(0), alt(0, 1)], 2, 0, 1), [0, 0])

    def test_in_both_ways_of_a_choice(self):
        made = [block(1), block(50), block(3), seq(0, 1), seq(0, 2), alt(3, 4)]
        self.assertEqual(slacks(made, 5, 0, 1, 2), [0, 0, 47])

    def test_a_block_of_cost_0_in_a_dearest_run(self):
        self.assertEqual(slacks([block(0), block(7), seq(0, 1)], 2, 0), [0])
        # A run of no blocks is as dear as one of a block that costs nothing.
        self.assertEqual(slacks([block(0), loop(0, 0, 0), alt(1, 0)], 2, 0), [0])
        self.assertEqual(slacks([block(0), loop(0, 0, 3)], 1, 0), [0])


class Some(unittest.TestCase):
    def test_the_cheaper_way_of_a_choice(self):
        self.assertEqual(slacks([block(5), block(7), alt(0, 1)], 2, 0, 1), [2, 0])
        self.assertEqual(slacks([block(7), block(5), alt(0, 1)], 2, 0, 1), [0, 2])

    def test_a_block_of_cost_0(self):
        self.assertEqual(slacks([block(0), block(7), alt(0, 1)], 2, 0), [7])

    def test_a_block_many_times_in_the_cheaper_way(self):
        # 3 * (2 + 4) is 18 and fits, 3 * (2 + 5) is 21 and doesn't.
        for dear, more in ((17, 3), (18, 4), (19, 4), (20, 4), (21, 5)):
            self.assertEqual(slacks([block(2), block(dear), loop(0, 1, 3), alt(2, 1)], 3, 0), [more])

    def test_the_run_with_the_block_most_often_is_not_always_the_first_to_get_dearest(self):
        # Once at 90 with 10 to go, or five times at 20 with 80 to go (16 each).
        made = [block(0), block(90), block(20), block(100), seq(0, 1), loop(0, 5, 5), seq(5, 2), alt(4, 6), alt(7, 3)]
        self.assertEqual(slacks(made, 8, 0), [10])
        # Once at 90 with 10 to go, or five times at 60 with 40 to go (8 each).
        self.assertEqual(slacks(made + [cost(2, 60)], 8, 0), [8])
        # A part alone: the dearest run of the two is one that has the block.
        self.assertEqual(slacks(made, 7, 0), [0])

    def test_in_dearer_and_cheaper_ways_but_not_in_the_dearest(self):
        made = [block(1), block(10), block(30), block(100), seq(0, 1), seq(0, 2), alt(4, 5), alt(6, 3)]
        self.assertEqual(slacks(made, 7, 0, 1, 2, 3), [69, 89, 69, 0])

    def test_above_65535(self):
        made = [block(65535), block(1), loop(0, 0, 10), alt(1, 2)]
        self.assertEqual(slacks(made, 3, 0, 1), [0, 655349])
        self.assertEqual(slacks([block(65535), block(0), seq(0, 0), alt(2, 1)], 3, 1), [131070])
        self.assertEqual(slacks([block(65535), block(65535), seq(0, 0), alt(2, 1)], 3, 1), [65535])

    def test_beside_the_dearest_run_that_there_can_be(self):
        made = LONGEST + [cost(0, 65535), block(0), alt(3, 4), block(1), alt(6, 3), seq(0, 6)]
        self.assertEqual(slacks(made, 5, 4, 0), [BLOCKS * 65535, 0])
        self.assertEqual(slacks(made, 7, 6, 0), [BLOCKS * 65535 - 1, 0])

    def test_many_times_beside_the_dearest_run_that_there_can_be(self):
        made = LONGEST + [cost(0, 65535), block(0), loop(4, 0, 32768), loop(5, 0, 32768), loop(6, 0, 1023), alt(7, 3)]
        self.assertEqual(slacks(made, 8, 4), [BLOCKS * 65535 // (2 ** 30 * 1023)])
        self.assertEqual(slacks(made + [cost(4, 65534)], 8, 4), [BLOCKS * 65535 // (2 ** 30 * 1023) - 65534])

    def test_a_choice_within_a_loop(self):
        # Each round may take the way that is dearer, so the rounds don't share what there is to go.
        self.assertEqual(slacks([block(5), block(7), alt(0, 1), loop(2, 0, 9)], 3, 0, 1), [2, 0])

    def test_a_loop_that_takes_the_block_only_where_it_pays(self):
        made = [block(0), block(6), seq(0, 0), alt(2, 1), loop(3, 1, 4), call(4, 8)]
        self.assertEqual(slacks(made, 5, 0, 1), [3, 0])

    def test_again_behind_cost(self):
        made = [block(5), block(7), alt(0, 1)]
        self.assertEqual(
            asked(made, slack(2, 0), cost(0, 6), slack(2, 0), cost(0, 7), slack(2, 0), slack(2, 1), cost(0, 9),
                  slack(2, 0), slack(2, 1), cost(1, 65535), slack(2, 0), slack(2, 1)),
            [2, 0, 1, 0, 0, 0, 0, 0, 2, 0, 65526, 0])


class JustSoMuch(unittest.TestCase):
    def test_the_dearest_run_costs_the_same_up_to_it_and_no_further(self):
        made = [block(3), block(4), block(50), loop(0, 0, 5), seq(3, 1), alt(2, 4), loop(5, 1, 3)]
        for b, costs in ((0, 3), (1, 4)):
            most, more = asked(made, time(6), slack(6, b))
            self.assertGreater(more, 0)
            self.assertEqual(asked(made, cost(b, costs + more), time(6)), [0, most])
            self.assertGreater(asked(made, cost(b, costs + more + 1), time(6))[1], most)

    def test_a_block_as_dear_as_its_slack_allows_has_no_more(self):
        made = [block(3), block(50), loop(0, 0, 5), alt(2, 1)]
        self.assertEqual(asked(made, slack(3, 0), cost(0, 10), slack(3, 0), slack(3, 1)), [7, 0, 0, 0])


class InNoRun(unittest.TestCase):
    def test_a_block_of_another_program(self):
        made = [block(5), block(7), seq(0, 0), block(9)]
        self.assertEqual(slacks(made, 2, 1, 3), [-3, -3])
        self.assertEqual(slacks(made, 0, 1), [-3])

    def test_a_loop_that_is_never_gone_through(self):
        made = [block(5), block(7), loop(0, 0, 0), seq(2, 1), loop(3, 1, 4), alt(4, 2), call(5, 1)]
        self.assertEqual([slacks(made, a, 0)[0] for a in (2, 3, 4, 5, 6)], [-3] * 5)
        self.assertEqual([slacks(made, a, 1)[0] for a in (2, 3, 4, 5, 6)], [-3, 0, 0, 0, 0])

    def test_a_loop_that_may_be_gone_through_is_something_else(self):
        self.assertEqual(slacks([block(0), block(7), loop(0, 0, 1), alt(1, 2)], 3, 0), [7])

    def test_both_in_a_loop_never_gone_through_and_outside_of_it(self):
        self.assertEqual(slacks([block(5), block(7), loop(0, 0, 0), alt(1, 0), seq(2, 3)], 4, 0), [2])


if __name__ == "__main__":
    unittest.main()
