"""Each call at ordinary inputs."""

import unittest

from asking import alt, ask, block, call, cost, init, last, loop, seq
from longestrundesk.kinds import Alt, Block, Call, Loop, Seq
from longestrundesk.programs import answer_one


class NumbersOfPrograms(unittest.TestCase):
    def test_init_answers_0(self):
        self.assertEqual(ask(init()), [0])

    def test_there_are_no_programs_at_the_beginning(self):
        self.assertEqual(ask(call(0, 0)), [-1])

    def test_blocks_are_numbered_from_0(self):
        self.assertEqual(ask(block(5), block(7), block(5)), [0, 1, 2])

    def test_every_kind_takes_the_next_number(self):
        self.assertEqual(
            ask(block(5), block(7), seq(0, 1), alt(0, 1), loop(2, 1, 3), call(4, 16), block(0)),
            [0, 1, 2, 3, 4, 5, 6])

    def test_one_program_may_be_part_of_several(self):
        self.assertEqual(
            ask(block(5), seq(0, 0), alt(0, 0), loop(0, 0, 2), call(0, 8), seq(1, 2), alt(3, 4), seq(5, 0)),
            [0, 1, 2, 3, 4, 5, 6, 7])

    def test_a_later_program_may_stand_before_an_earlier_one(self):
        self.assertEqual(ask(block(1), block(2), seq(1, 0), alt(2, 0)), [0, 1, 2, 3])

    def test_cost_answers_0_and_makes_nothing(self):
        self.assertEqual(ask(block(5), cost(0, 9), cost(0, 9), block(1)), [0, 0, 0, 1])

    def test_cost_on_a_block_that_is_part_of_others(self):
        self.assertEqual(ask(block(5), block(6), seq(0, 1), cost(1, 3), cost(0, 4)), [0, 1, 2, 0, 0])


class Init(unittest.TestCase):
    def test_there_are_no_programs_behind_it(self):
        for asked in (seq(0, 0), alt(0, 0), loop(0, 0, 0), call(0, 0), cost(0, 0)):
            self.assertEqual(ask(block(5), block(6), init(), asked), [0, 1, 0, -1])

    def test_numbers_begin_at_0_again(self):
        self.assertEqual(ask(block(5), seq(0, 0), init(), block(6), seq(0, 0)), [0, 1, 0, 0, 1])

    def test_only_programs_made_since_can_be_parts(self):
        self.assertEqual(last(block(1), block(2), init(), block(3), seq(0, 1)), -1)

    def test_what_was_a_block_need_not_be_one_again(self):
        self.assertEqual(
            ask(block(1), block(2), init(), block(3), call(0, 1), cost(1, 5)),
            [0, 1, 0, 0, 1, -1])

    def test_it_makes_room_for_64_again(self):
        full = [block(1)] * 64
        self.assertEqual(
            ask(*full, block(1), init(), *full, block(1)),
            list(range(64)) + [-2, 0] + list(range(64)) + [-2])

    def test_twice_one_after_another(self):
        self.assertEqual(ask(init(), init(), block(1)), [0, 0, 0])


class WhatIsKept(unittest.TestCase):
    def kept(self, *calls):
        programs = []
        for one in calls:
            answer_one(programs, one[0], one[1:])
        return programs

    def test_a_block_keeps_its_cost(self):
        programs = self.kept(block(5), block(65535), block(0))
        self.assertEqual([one.cost for one in programs], [5, 65535, 0])
        self.assertTrue(all(isinstance(one, Block) for one in programs))

    def test_cost_changes_that_block_alone(self):
        programs = self.kept(block(5), block(6), block(7), cost(1, 65535))
        self.assertEqual([one.cost for one in programs], [5, 65535, 7])

    def test_a_refused_cost_changes_nothing(self):
        programs = self.kept(block(5), call(0, 3), cost(0, 65536), cost(1, 8), cost(2, 8))
        self.assertEqual(len(programs), 2)
        self.assertEqual((programs[0].cost, programs[1].frame), (5, 3))

    def test_seq_and_alt_keep_their_parts_in_order(self):
        programs = self.kept(block(5), block(6), seq(1, 0), alt(0, 1))
        self.assertIsInstance(programs[2], Seq)
        self.assertEqual((programs[2].first, programs[2].second), (1, 0))
        self.assertIsInstance(programs[3], Alt)
        self.assertEqual((programs[3].first, programs[3].second), (0, 1))

    def test_loop_and_call_keep_their_numbers(self):
        programs = self.kept(block(5), block(6), loop(1, 2, 9), call(1, 40))
        self.assertIsInstance(programs[2], Loop)
        self.assertEqual((programs[2].body, programs[2].lo, programs[2].hi), (1, 2, 9))
        self.assertIsInstance(programs[3], Call)
        self.assertEqual((programs[3].body, programs[3].frame), (1, 40))


if __name__ == "__main__":
    unittest.main()
