"""Drawn programs against the words of the document: every run written out, with the calls that are under way."""

import functools
import random
import unittest

from asking import alt, ask, block, call, cost, flat, is_run, loop, nth, often, seq, slack, stack, time
from longestrundesk.programs import answers

MOST_TRACES = 300
MOST_STEPS = 40


def joined(some, others):
    return {one + other for one in some for other in others}


class Written:
    """Each program's runs as traces: a block is its number, a call's beginning and end are its frame with a sign."""

    def __init__(self):
        self.made = []
        self.costs = {}
        self.traces = []

    def traces_of(self, one):
        if one[0] == 1:
            return {(len(self.made),)}
        if one[0] == 2:
            return joined(self.traces[one[1]], self.traces[one[2]])
        if one[0] == 3:
            return self.traces[one[1]] | self.traces[one[2]]
        if one[0] == 4:
            return self.looped(self.traces[one[1]], one[2], one[3])
        return {(("+", one[2]),) + trace + (("-", one[2]),) for trace in self.traces[one[1]]}

    def looped(self, body, lo, hi):
        rounds, found = {()}, set()
        for k in range(hi + 1):
            if k >= lo:
                found |= rounds
            rounds = joined(rounds, body)
            if len(rounds) > 20 * MOST_TRACES:
                return rounds
        return found

    def add(self, one):
        """Whether the program was made: those with too many or too long runs are left out."""
        traces = self.traces_of(one)
        if len(traces) > MOST_TRACES or max(len(trace) for trace in traces) > MOST_STEPS:
            return False
        if one[0] == 1:
            self.costs[len(self.made)] = one[1]
        self.made.append(one)
        self.traces.append(traces)
        return True

    def runs(self, a):
        return {tuple(step for step in trace if not isinstance(step, tuple)) for trace in self.traces[a]}

    def cost_of(self, run):
        return sum(self.costs[b] for b in run)

    def time(self, a, least):
        costs = [self.cost_of(run) for run in self.runs(a)]
        return min(costs) if least else max(costs)

    def often(self, a, b, least):
        if b not in self.costs:
            return -1
        counts = [run.count(b) for run in self.runs(a)]
        return min(counts) if least else max(counts)

    def stack(self, a):
        most = 0
        for trace in self.traces[a]:
            now = 0
            for step in trace:
                if isinstance(step, tuple):
                    now += step[1] if step[0] == "+" else -step[1]
                    most = max(most, now)
        return most

    def slack(self, a, b):
        if b not in self.costs:
            return -1
        dearest = self.time(a, 0)
        room = [(dearest - self.cost_of(run)) // run.count(b) for run in self.runs(a) if b in run]
        return min(room, default=-3)

    def told(self, a):
        one = self.made[a]
        if one[0] == 1:
            return [a]
        if one[0] == 2:
            return self.told(one[1]) + self.told(one[2])
        if one[0] == 3:
            return self.told(one[2] if self.time(one[2], 0) > self.time(one[1], 0) else one[1])
        if one[0] == 4:
            return self.told(one[1]) * one[3]
        return self.told(one[1])

    def nth(self, a, i):
        return dict(enumerate(self.told(a))).get(i, -3)

    def is_run(self, a, row):
        return 1 if tuple(row) in self.runs(a) else 0


def drawn_program(source, count, costs):
    sort = source.choice((1, 2, 2, 3, 3, 4, 4, 5)) if count > 1 else 1
    parts = [source.randrange(max(count, 1)), source.randrange(max(count - 4, 0), count + 1) % max(count, 1)]
    source.shuffle(parts)
    if sort == 1:
        return block(source.choice(costs))
    if sort == 4:
        lo = source.choice((0, 0, 1, 2))
        return loop(parts[0], lo, source.choice((lo, lo + 1, lo + 2)))
    if sort == 5:
        return call(parts[0], source.choice((0, 1, 2, 5, 65535)))
    return seq(*parts) if sort == 2 else alt(*parts)


def drawn_row(source, written, a):
    row = list(source.choice(sorted(written.runs(source.choice((a, a, source.randrange(len(written.made))))))))[:24]
    if row and source.random() < 0.3:
        row.pop(source.randrange(len(row)))
    if len(row) < 24 and source.random() < 0.3:
        row.insert(source.randint(0, len(row)), source.randrange(len(written.made)))
    if source.random() < 0.2:
        source.shuffle(row)
    return row


def drawn_question(source, written):
    a = source.randrange(len(written.made))
    # Mostly a block of the program's own.
    inside = sorted({b for run in written.runs(a) for b in run})
    b = source.choice(inside) if inside and source.random() < 0.8 else source.randrange(len(written.made))
    least = source.choice((0, 0, 1, 7))
    row = drawn_row(source, written, a)
    place = source.randint(0, len(written.told(a)))
    return source.choice((
        (time(a, least), lambda: written.time(a, least)), (often(a, b, least), lambda: written.often(a, b, least)),
        (stack(a), lambda: written.stack(a)), (slack(a, b), lambda: written.slack(a, b)),
        (nth(a, place), lambda: written.nth(a, place)), (is_run(a, row), lambda: written.is_run(a, row))))


def drawn(source):
    written = Written()
    costs = source.choice(((0, 1, 2), (0, 3, 5, 7, 50), (0, 1, 65534, 65535)))
    calls, told = [], []
    for _ in range(60):
        if len(written.made) < 3 or source.random() < 0.3:
            one = drawn_program(source, len(written.made), costs)
            if not written.add(one):
                continue
            calls.append(one)
            told.append(len(written.made) - 1)
        elif source.random() < 0.1:
            b = source.choice(sorted(written.costs))
            written.costs[b] = source.choice(costs)
            calls.append(cost(b, written.costs[b]))
            told.append(0)
        else:
            one, expected = drawn_question(source, written)
            calls.append(one)
            told.append(expected())
    return calls, told


class Drawn(unittest.TestCase):
    def test_every_call_against_the_runs_written_out(self):
        source = random.Random(5)
        met = {}
        for _ in range(400):
            calls, told = drawn(source)
            self.assertEqual(answers(flat(calls))[1::4], told, calls)
            for one, number in zip(calls, told):
                met[one[0], min(number, 1)] = met.get((one[0], min(number, 1)), 0) + 1
        # Else the draws would say too little of some answer.
        for sort in [(7, 0), (7, 1), (8, -1), (8, 0), (8, 1), (9, 0), (9, 1), (10, -3), (10, -1), (10, 0), (10, 1),
                     (11, -3), (11, 0), (11, 1), (12, 0), (12, 1)]:
            self.assertGreater(met.get(sort, 0), 40, sort)


def ends(made, row):
    """For a program and a start: the ends of its runs in the row, by going round each loop as often as it's told."""
    @functools.lru_cache(maxsize=None)
    def of(a, start):
        one = made[a]
        if one[0] == 1:
            return frozenset([start + 1] if row[start:start + 1] == [a] else [])
        if one[0] == 2:
            return frozenset(end for middle in of(one[1], start) for end in of(one[2], middle))
        if one[0] == 3:
            return of(one[1], start) | of(one[2], start)
        if one[0] == 5:
            return of(one[1], start)
        now, found = {start}, set()
        for k in range(one[3] + 1):
            if k >= one[2]:
                found |= now
            now = {end for middle in now for end in of(one[1], middle)}
        return frozenset(found)
    return of


class DrawnRows(unittest.TestCase):
    def program(self, source, count):
        parts = [source.randrange(count), source.randrange(max(count - 3, 0), count)]
        source.shuffle(parts)
        sort = source.choice((2, 3, 4, 4, 5))
        if sort == 4:
            lo = source.choice((0, 0, 0, 1, 2, 3, 7, 23, 24, 25))
            return loop(parts[1], lo, lo + source.choice((0, 1, 2, 5, 24)))
        return {2: seq(*parts), 3: alt(*parts), 5: call(parts[1], 1)}[sort]

    def test_rows_of_up_to_24_against_loops_gone_round_one_by_one(self):
        source = random.Random(24)
        met = {0: 0, 1: 0}
        for _ in range(600):
            made = [block(1), block(2), loop(0, 0, 0)]
            made += [self.program(source, count) for count in range(3, source.randint(5, 10))]
            numbers = ask(*made)
            made = made[:next((k for k in range(len(made)) if numbers[k] < 0), len(made))]
            for _ in range(6):
                row = [source.choice((0, 0, 0, 1)) for _ in range(source.choice((0, 1, 2, 3, 5, 8, 12, 23, 24)))]
                if source.random() < 0.3:
                    row = [source.choice((0, 1))] * len(row)
                of = ends(made, row)
                expected = [1 if len(row) in of(a, 0) else 0 for a in range(len(made))]
                told = ask(*made, *[is_run(a, row) for a in range(len(made))])[len(made):]
                self.assertEqual(told, expected, (made, row))
                for number in expected[3:]:
                    met[number] += 1
        self.assertGreater(min(met.values()), 1000, met)


class HoldTogether(unittest.TestCase):
    """What the answers say of one another, on programs whose runs can't all be written out."""

    def programs(self, source):
        made = [block(source.choice((0, 1, 3, 9, 40))) for _ in range(4)]
        for count in range(4, 24):
            a, b = source.randrange(count), source.randrange(max(count - 4, 0), count)
            lo = source.choice((0, 1, 3))
            made.append(source.choice((seq(a, b), seq(b, a), alt(a, b), alt(b, a), call(b, 4),
                                       loop(b, lo, lo + source.choice((0, 1, 2))))))
        return made

    def test_the_told_run_is_a_dearest_one(self):
        source = random.Random(7)
        short = 0
        for _ in range(150):
            made = self.programs(source)
            a = source.randrange(8, 24)
            costs = [one[1] for one in made[:4]]
            told = ask(*made, time(a), *[nth(a, i) for i in range(300)])[24:]
            if told[-1] != -3:
                continue
            run = [b for b in told[1:] if b != -3]
            self.assertEqual(told[1:len(run) + 1], run)
            self.assertEqual(sum(costs[b] for b in run), told[0])
            if len(run) <= 24:
                short += 1
                self.assertEqual(ask(*made, is_run(a, run))[-1], 1)
        self.assertGreater(short, 30)

    def test_slack_is_just_so_much(self):
        source = random.Random(8)
        some = 0
        for _ in range(300):
            made = self.programs(source)
            a, b = source.randrange(8, 24), source.randrange(4)
            dearest, room, most = ask(*made, time(a), slack(a, b), often(a, b))[24:]
            self.assertEqual(room == -3, most == 0)
            if room == -3 or made[b][1] + room + 1 > 65535:
                continue
            some += room > 0
            same, more = ask(*made, cost(b, made[b][1] + room), time(a), cost(b, made[b][1] + room + 1), time(a))[25::2]
            self.assertEqual(same, dearest)
            self.assertGreater(more, dearest)
        self.assertGreater(some, 30)


if __name__ == "__main__":
    unittest.main()
