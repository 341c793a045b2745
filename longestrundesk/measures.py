"""What is exact over all the runs of a program: costs, how often a block is in them, the stack, the slack.

A program's parts have lower numbers than itself, so every list here is filled from the front, with no nesting.
A list of weights has one for each program, of which only those of blocks count.
"""

from longestrundesk.kinds import Alt, Block, Call, Loop, Pair, Seq


def run_weight(program, weight, found, least):
    if isinstance(program, Block):
        return weight
    if isinstance(program, Seq):
        return found[program.first] + found[program.second]
    if isinstance(program, Alt):
        either = [found[program.first], found[program.second]]
        return min(either) if least else max(either)
    if isinstance(program, Loop):
        return found[program.body] * (program.lo if least else program.hi)
    return found[program.body]


# Of each program: what the run that weighs most weighs, or the one that weighs least.
def run_weights(programs, weights, least):
    found = []
    for program in programs:
        found.append(run_weight(program, weights[len(found)], found, least))
    return found


def block_costs(programs):
    return [program.cost if isinstance(program, Block) else 0 for program in programs]


def block_counts(programs, block):
    return [1 if number == block else 0 for number in range(len(programs))]


def run_costs(programs, least):
    return run_weights(programs, block_costs(programs), least)


def times_in_runs(programs, block, least):
    return run_weights(programs, block_counts(programs, block), least)


def stack_of_one(program, found):
    if isinstance(program, Block):
        return 0
    if isinstance(program, Pair):
        return max(found[program.first], found[program.second])
    if isinstance(program, Call):
        return found[program.body] + program.frame
    # No run of a loop that is never gone through is inside what its body calls.
    return found[program.body] if program.hi > 0 else 0


def most_stacks(programs):
    found = []
    for program in programs:
        found.append(stack_of_one(program, found))
    return found


def dearest_with(programs, number, block, more):
    costs = block_costs(programs)
    costs[block] += more
    return run_weights(programs, costs, False)[number]


# Only for a block that some run of the program has: else no slack is the greatest.
def slack_of(programs, number, block):
    dearest = dearest_with(programs, number, block, 0)
    fits = 0
    # By so much, the block alone costs more than the dearest run did.
    fails = dearest + 1
    while fails - fits > 1:
        middle = (fits + fails) // 2
        if dearest_with(programs, number, block, middle) == dearest:
            fits = middle
        else:
            fails = middle
    return fits
