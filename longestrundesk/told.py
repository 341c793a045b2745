"""The run that is told of a program. It may have 2^40 blocks, so it is never written out."""

from longestrundesk.kinds import Alt, Block, Loop, Seq
from longestrundesk.measures import run_costs


def told_choice(program, dearest):
    if dearest[program.second] > dearest[program.first]:
        return program.second
    return program.first


def told_length(program, dearest, found):
    if isinstance(program, Block):
        return 1
    if isinstance(program, Seq):
        return found[program.first] + found[program.second]
    if isinstance(program, Alt):
        return found[told_choice(program, dearest)]
    if isinstance(program, Loop):
        return found[program.body] * program.hi
    return found[program.body]


def told_lengths(programs, dearest):
    found = []
    for program in programs:
        found.append(told_length(program, dearest, found))
    return found


# Gives back None where the run that is told has no block at that place.
def told_block(programs, number, place):
    dearest = run_costs(programs, False)
    lengths = told_lengths(programs, dearest)
    if place >= lengths[number]:
        return None
    while not isinstance(programs[number], Block):
        program = programs[number]
        if isinstance(program, Alt):
            number = told_choice(program, dearest)
        elif not isinstance(program, Seq):
            # The rounds of a loop are alike; a call is as long as its body, so its places stay what they are.
            place = place % lengths[program.body]
            number = program.body
        elif place < lengths[program.first]:
            number = program.first
        else:
            place -= lengths[program.first]
            number = program.second
    return number
