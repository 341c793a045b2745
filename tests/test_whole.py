"""What holds over the whole program: asking changes nothing, and a longest list takes neither long nor deep nesting."""

import sys
import time as clock
import unittest

from asking import (BLOCKS, LONGEST, MOST, alt, ask, block, call, cost, flat, init, is_run, loop, nth, often, seq,
                    slack, stack, time)
from longestrundesk.programs import answers

MADE = [block(5), block(7), seq(0, 1), alt(0, 2), loop(3, 1, 4), call(4, 99), seq(5, 2), loop(0, 0, 0)]
ASKED = [time(6, 0), time(6, 1), often(6, 1, 0), often(6, 1, 1), stack(6), slack(6, 0), slack(7, 0), slack(3, 1),
         nth(6, 0), nth(6, 9), nth(6, 10), is_run(6, [0, 0, 1]), is_run(6, [0, 1]), is_run(7, [])]
REFUSED = [time(8, 0), often(6, 2, 0), often(8, 0, 1), stack(8), slack(8, 0), slack(6, 2), slack(7, 1), nth(8, 0),
           nth(6, MOST), is_run(8, []), is_run(6, [0] * 25), is_run(6, [0] * 1000)]
ANSWERS = [60, 17, 5, 1, 99, 0, -3, 0, 0, 1, -3, 1, 0, 1]


class AskingChangesNothing(unittest.TestCase):
    def test_asked_twice_and_in_between(self):
        for between in ASKED + REFUSED:
            told = ask(*MADE, *ASKED, between, *ASKED)[len(MADE):]
            self.assertEqual(told[:len(ASKED)], ANSWERS)
            self.assertEqual(told[len(ASKED) + 1:], ANSWERS, between)

    def test_asked_backwards(self):
        self.assertEqual(ask(*MADE, *ASKED[::-1])[len(MADE):], ANSWERS[::-1])

    def test_what_is_made_behind_is_what_it_would_have_been(self):
        made = []
        for one in MADE:
            made += [one] + ASKED + REFUSED
        told = ask(*made)
        self.assertEqual(told[::len(ASKED) + len(REFUSED) + 1], list(range(len(MADE))))
        self.assertEqual(told[-len(ASKED) - len(REFUSED):-len(REFUSED)], ANSWERS)

    def test_costs_changed_there_and_back(self):
        told = ask(*MADE, cost(0, 65535), *ASKED, cost(1, 0), *ASKED, cost(0, 5), cost(1, 7), *ASKED)
        self.assertEqual(told[-len(ASKED):], ANSWERS)
        self.assertNotEqual(told[len(MADE) + 1:len(MADE) + 1 + len(ASKED)], ANSWERS)

    def test_refused_calls_of_every_sort_change_no_answer(self):
        refused = [block(65536), seq(0, 9), alt(9, 0), loop(0, 2, 1), loop(0, 0, 65536), call(0, 65536), cost(2, 1),
                   cost(0, 65536), cost(9, 1)]
        for one in refused:
            told = ask(*MADE, one, *ASKED)
            self.assertEqual(told[len(MADE):], [-1] + ANSWERS, one)

    def test_64_that_are_full_are_asked_like_others(self):
        full = MADE + [block(1)] * 56
        self.assertEqual(ask(*full, block(1), seq(0, 0), *ASKED)[64:], [-2, -2] + ANSWERS)

    def test_behind_init(self):
        self.assertEqual(ask(*LONGEST, cost(0, 9), time(3), init(), *MADE, *ASKED)[-len(ASKED):], ANSWERS)


def wide():
    """64 programs, all of them loops but two, that a row of 24 parts in as many ways as can be."""
    return [block(65535), loop(0, 0, 65535)] + [loop(1, 0, 65535)] * 61 + [alt(61, 62)]


def deep():
    """64 programs, each made of the one before it."""
    made = [block(65535), loop(0, 0, 32768), loop(1, 0, 32768), loop(2, 0, 1024)]
    for count in range(4, 64):
        before = count - 1
        made.append((call(before, 65535), loop(before, 1, 1), alt(before, 0), loop(before, 0, 1))[count % 4])
    return made


def doubled():
    """64 programs, of which each is part of the next ones twice."""
    made = [block(65535)] + [seq(k, k) for k in range(40)]
    return made + [alt(k, k - 1) for k in range(40, 63)]


ROW = is_run(63, [0] * 24)
OF_63 = [time(63, 0), time(63, 1), often(63, 0, 0), often(63, 0, 1), stack(63), slack(63, 0), nth(63, BLOCKS - 1),
         nth(63, BLOCKS)]


class LongLists(unittest.TestCase):
    def answered(self, calls):
        """The answers, which mustn't take undue time or nesting."""
        self.assertLessEqual(len(calls), 400)
        numbers = flat(calls)
        self.assertLessEqual(len(numbers), 16000)
        depth, frame = 0, sys._getframe()
        while frame is not None:
            depth, frame = depth + 1, frame.f_back
        limit, begun = sys.getrecursionlimit(), clock.process_time()
        sys.setrecursionlimit(depth + 40)
        try:
            told = answers(numbers)
        finally:
            sys.setrecursionlimit(limit)
        self.assertLess(clock.process_time() - begun, 20)
        return told[1::4]

    def test_400_calls_of_each_sort(self):
        for made in (wide(), deep(), doubled()):
            for one in (time(63, 0), time(63, 1), often(63, 0, 0), stack(63), slack(63, 0), nth(63, BLOCKS // 7), ROW):
                told = self.answered(made + [one] * 336)
                self.assertEqual(told[:64], list(range(64)))
                self.assertEqual(len(set(told[64:])), 1, one)

    def test_what_the_deep_ones_are_answered(self):
        told = self.answered(deep() + (OF_63 + [ROW, is_run(63, [])]) * 33)
        self.assertEqual(told[64:], [BLOCKS * 65535, 0, BLOCKS, 0, 15 * 65535, 0, 0, -3, 1, 1] * 33)

    def test_what_the_doubled_ones_are_answered(self):
        told = self.answered(doubled() + (OF_63 + [ROW, is_run(5, [0] * 16), is_run(4, [0] * 16)]) * 30)
        half = BLOCKS // 2
        self.assertEqual(told[64:], [BLOCKS * 65535, half * 65535, BLOCKS, half, 0, 0, 0, -3, 0, 0, 1] * 30)

    def test_making_and_asking_mixed_with_changes(self):
        calls = deep()
        for k in range(112):
            calls += [cost(0, k), time(63), is_run(k % 64, [0] * (k % 25))]
        told = self.answered(calls)
        self.assertEqual(told[64::3], [0] * 112)
        self.assertEqual(told[65::3], [BLOCKS * k for k in range(112)])

    def test_the_same_list_twice(self):
        calls = flat(wide() + [time(63), ROW, slack(63, 0), nth(63, 65535 * 65535 - 1), stack(63)] * 5)
        before = list(calls)
        self.assertEqual(answers(calls), answers(calls))
        self.assertEqual(calls, before)


if __name__ == "__main__":
    unittest.main()
