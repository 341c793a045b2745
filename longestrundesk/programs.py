"""Bounded programs: the calls that make them, change them and ask of them, and the answers to these calls."""

from longestrundesk.judge import row_is_run
from longestrundesk.kinds import Alt, Block, Call, Loop, Seq
from longestrundesk.measures import most_stacks, run_costs, slack_of, times_in_runs
from longestrundesk.told import told_block

MOST_PROGRAMS = 64
MOST_COST = 65535
MOST_FRAME = 65535
MOST_TIMES = 65535
# 2^40, written out as the value must be a plain one
MOST_BLOCKS = 1099511627776
MOST_ROW = 24

INIT = 0
BLOCK = 1
SEQ = 2
ALT = 3
LOOP = 4
CALL = 5
COST = 6
TIME = 7
OFTEN = 8
STACK = 9
SLACK = 10
NTH = 11
IS_RUN = 12
# By call number, as a call's end in the list can't be seen but from this; the row of IS_RUN comes behind these,
# which have at their end how many numbers it has.
ARGUMENT_COUNTS = (0, 1, 2, 2, 3, 2, 2, 2, 3, 1, 2, 2, 2)

DONE = 0
WRONG = -1
NO_ROOM = -2
NOT_THERE = -3


class UnknownCall(ValueError):
    pass


def is_program(programs, number):
    return number < len(programs)


def is_block(programs, number):
    return is_program(programs, number) and isinstance(programs[number], Block)


def add_program(programs, program):
    if len(programs) >= MOST_PROGRAMS or program.longest > MOST_BLOCKS:
        return NO_ROOM
    programs.append(program)
    return len(programs) - 1


def forget_all(programs):
    programs.clear()
    return DONE


def make_block(programs, cost):
    if cost > MOST_COST:
        return WRONG
    return add_program(programs, Block(cost))


def make_seq(programs, first, second):
    if not is_program(programs, first) or not is_program(programs, second):
        return WRONG
    longest = programs[first].longest + programs[second].longest
    return add_program(programs, Seq(first, second, longest))


def make_alt(programs, first, second):
    if not is_program(programs, first) or not is_program(programs, second):
        return WRONG
    longest = max(programs[first].longest, programs[second].longest)
    return add_program(programs, Alt(first, second, longest))


def make_loop(programs, body, lo, hi):
    if not is_program(programs, body) or lo > hi or hi > MOST_TIMES:
        return WRONG
    longest = programs[body].longest * hi
    return add_program(programs, Loop(body, lo, hi, longest))


def make_call(programs, body, frame):
    if not is_program(programs, body) or frame > MOST_FRAME:
        return WRONG
    return add_program(programs, Call(body, frame, programs[body].longest))


def change_cost(programs, number, cost):
    if not is_block(programs, number) or cost > MOST_COST:
        return WRONG
    block = programs[number]
    block.cost = cost
    return DONE


def time_of(programs, number, least):
    if not is_program(programs, number):
        return WRONG
    return run_costs(programs, least != 0)[number]


def how_often(programs, number, block, least):
    if not is_program(programs, number) or not is_block(programs, block):
        return WRONG
    return times_in_runs(programs, block, least != 0)[number]


def stack_of(programs, number):
    if not is_program(programs, number):
        return WRONG
    return most_stacks(programs)[number]


def slack_in(programs, number, block):
    if not is_program(programs, number) or not is_block(programs, block):
        return WRONG
    if times_in_runs(programs, block, False)[number] == 0:
        return NOT_THERE
    return slack_of(programs, number, block)


def nth_of(programs, number, place):
    if not is_program(programs, number):
        return WRONG
    block = told_block(programs, number, place)
    return NOT_THERE if block is None else block


def is_run(programs, number, row):
    if not is_program(programs, number) or len(row) > MOST_ROW:
        return WRONG
    return 1 if row_is_run(programs, number, row) else 0


def make_or_change(programs, call, numbers):
    if call == INIT:
        return forget_all(programs)
    if call == BLOCK:
        return make_block(programs, numbers[0])
    if call == SEQ:
        return make_seq(programs, numbers[0], numbers[1])
    if call == ALT:
        return make_alt(programs, numbers[0], numbers[1])
    if call == LOOP:
        return make_loop(programs, numbers[0], numbers[1], numbers[2])
    if call == CALL:
        return make_call(programs, numbers[0], numbers[1])
    return change_cost(programs, numbers[0], numbers[1])


def look_up(programs, call, numbers):
    if call == TIME:
        return time_of(programs, numbers[0], numbers[1])
    if call == OFTEN:
        return how_often(programs, numbers[0], numbers[1], numbers[2])
    if call == STACK:
        return stack_of(programs, numbers[0])
    if call == SLACK:
        return slack_in(programs, numbers[0], numbers[1])
    if call == NTH:
        return nth_of(programs, numbers[0], numbers[1])
    # Between the program and the row stands how many numbers the row has.
    return is_run(programs, numbers[0], numbers[2:])


def answer_one(programs, call, numbers):
    # A call of a number beyond IS_RUN has been turned away before its numbers were read.
    if call <= COST:
        return make_or_change(programs, call, numbers)
    return look_up(programs, call, numbers)


def call_end(calls, place):
    call = calls[place]
    if call >= len(ARGUMENT_COUNTS):
        raise UnknownCall(f"there is no call {call}")
    end = place + 1 + ARGUMENT_COUNTS[call]
    if call == IS_RUN:
        end += calls[end - 1]
    return end


def answers(calls):
    programs = []
    told = []
    place = 0
    while place < len(calls):
        end = call_end(calls, place)
        number = answer_one(programs, calls[place], calls[place + 1:end])
        # Every answer, a refusal too, is three numbers: no bytes and no list stand behind the first.
        told.extend([3, number, 0, 0])
        place = end
    return told
