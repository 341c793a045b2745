"""Bounded programs: the calls that make and change them, and the answers to these calls."""

MOST_PROGRAMS = 64
MOST_COST = 65535
MOST_FRAME = 65535
MOST_TIMES = 65535
# 2^40, written out as the value must be a plain one
MOST_BLOCKS = 1099511627776

INIT = 0
BLOCK = 1
SEQ = 2
ALT = 3
LOOP = 4
CALL = 5
# By call number, as a call's end in the list can't be seen but from this.
ARGUMENT_COUNTS = (0, 1, 2, 2, 3, 2, 2)

DONE = 0
WRONG = -1
NO_ROOM = -2


class UnknownCall(ValueError):
    pass


# Each program keeps how many blocks its longest run has: only costs change later, so this stays true.
class Block:
    def __init__(self, cost):
        self.cost = cost
        self.longest = 1


class Pair:
    def __init__(self, first, second, longest):
        self.first = first
        self.second = second
        self.longest = longest


class Seq(Pair):
    pass


class Alt(Pair):
    pass


class Loop:
    def __init__(self, body, lo, hi, longest):
        self.body = body
        self.lo = lo
        self.hi = hi
        self.longest = longest


class Call:
    def __init__(self, body, frame, longest):
        self.body = body
        self.frame = frame
        self.longest = longest


def is_program(programs, number):
    return number < len(programs)


def is_block(programs, number):
    return is_program(programs, number) and isinstance(programs[number], Block)


def add_program(programs, program):
    if len(programs) >= MOST_PROGRAMS or program.longest > MOST_BLOCKS:
        return NO_ROOM
    programs.append(program)
    return len(programs) - 1


def forget_all(programs):
    programs.clear()
    return DONE


def make_block(programs, cost):
    if cost > MOST_COST:
        return WRONG
    return add_program(programs, Block(cost))


def make_seq(programs, first, second):
    if not is_program(programs, first) or not is_program(programs, second):
        return WRONG
    longest = programs[first].longest + programs[second].longest
    return add_program(programs, Seq(first, second, longest))


def make_alt(programs, first, second):
    if not is_program(programs, first) or not is_program(programs, second):
        return WRONG
    longest = max(programs[first].longest, programs[second].longest)
    return add_program(programs, Alt(first, second, longest))


def make_loop(programs, body, lo, hi):
    if not is_program(programs, body) or lo > hi or hi > MOST_TIMES:
        return WRONG
    longest = programs[body].longest * hi
    return add_program(programs, Loop(body, lo, hi, longest))


def make_call(programs, body, frame):
    if not is_program(programs, body) or frame > MOST_FRAME:
        return WRONG
    return add_program(programs, Call(body, frame, programs[body].longest))


def change_cost(programs, number, cost):
    if not is_block(programs, number) or cost > MOST_COST:
        return WRONG
    block = programs[number]
    block.cost = cost
    return DONE


def answer_one(programs, call, numbers):
    if call == INIT:
        return forget_all(programs)
    if call == BLOCK:
        return make_block(programs, numbers[0])
    if call == SEQ:
        return make_seq(programs, numbers[0], numbers[1])
    if call == ALT:
        return make_alt(programs, numbers[0], numbers[1])
    if call == LOOP:
        return make_loop(programs, numbers[0], numbers[1], numbers[2])
    if call == CALL:
        return make_call(programs, numbers[0], numbers[1])
    # A call of any other number has been turned away before its numbers were read.
    return change_cost(programs, numbers[0], numbers[1])


def argument_count(call):
    if call >= len(ARGUMENT_COUNTS):
        raise UnknownCall(f"there is no call {call}")
    return ARGUMENT_COUNTS[call]


def answers(calls):
    programs = []
    told = []
    place = 0
    while place < len(calls):
        call = calls[place]
        end = place + 1 + argument_count(call)
        number = answer_one(programs, call, calls[place + 1:end])
        # Every answer, a refusal too, is three numbers: no bytes and no list stand behind the first.
        told.extend([3, number, 0, 0])
        place = end
    return told
