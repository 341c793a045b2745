"""Many drawn lists of calls against the words of the document, written a second time and otherwise."""

import random
import unittest

from asking import BLOCKS, MOST, flat
from longestrundesk.programs import answers

ARGUMENTS = {0: 0, 1: 1, 2: 2, 3: 2, 4: 3, 5: 2, 6: 2}
WIDE = (0, 1, 2, 1024, 32768, 65535, 65536, MOST)


class Model:
    """The programs as a dict, each the call that made it, with how many blocks a run of it may have."""

    def __init__(self):
        self.made = {}
        self.blocks = {}

    def is_wrong(self, kind, numbers):
        if kind == 1:
            return numbers[0] > 65535
        if kind in (2, 3):
            return not set(numbers) <= set(self.made)
        if numbers[0] not in self.made or numbers[-1] > 65535:
            return True
        if kind == 4:
            return numbers[1] > numbers[2]
        return kind == 6 and self.made[numbers[0]][0] != 1

    def most_blocks(self, kind, numbers):
        if kind == 1:
            return 1
        if kind == 4:
            return numbers[2] * self.blocks[numbers[0]]
        if kind == 5:
            return self.blocks[numbers[0]]
        both = [self.blocks[number] for number in numbers]
        return sum(both) if kind == 2 else max(both)

    def answer(self, kind, *numbers):
        if kind == 0:
            self.__init__()
            return 0
        if self.is_wrong(kind, numbers):
            return -1
        if kind == 6:
            return 0
        most = self.most_blocks(kind, numbers)
        number = len(self.made)
        if number == 64 or most > BLOCKS:
            return -2
        self.made[number] = (kind, *numbers)
        self.blocks[number] = most
        return number


def drawn_number(source, kind, place, there):
    if source.random() < 0.05:
        return source.choice(WIDE)
    if kind in (2, 3) or (kind > 3 and place == 0):
        # Mostly late programs, whose runs are long, and sometimes one that there isn't.
        return source.randint(max(there - 6, 0), there)
    if kind == 4 and place == 1:
        return source.randint(0, 2)
    return source.choice(WIDE[:6])


def drawn(source):
    model = Model()
    calls, told = [], []
    for _ in range(source.randint(1, 150)):
        kind = source.choice((1, 2, 2, 3, 4, 5, 6)) if source.random() < 0.99 else 0
        one = [kind] + [drawn_number(source, kind, k, len(model.made)) for k in range(ARGUMENTS[kind])]
        calls.append(one)
        told.append(model.answer(*one))
    return calls, told


class Drawn(unittest.TestCase):
    def test_drawn_lists(self):
        source = random.Random(20)
        met = set()
        for _ in range(1000):
            calls, told = drawn(source)
            self.assertEqual(answers(flat(calls))[1::4], told, calls)
            met.update((one[0], min(number, 0)) for one, number in zip(calls, told))
        # Else the draws would say nothing of some answer.
        every = {(kind, answer) for kind in range(1, 6) for answer in (0, -1, -2)} | {(0, 0), (6, 0), (6, -1)}
        self.assertEqual(met, every)


if __name__ == "__main__":
    unittest.main()
