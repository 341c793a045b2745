"""Whether a row of blocks is a run, by every way to part the row.

Of each program it is found, for every start in the row, at which places its runs from there may end. The ends
for one start are one whole number, in which the bit of each such place is set.
"""

from longestrundesk.kinds import Alt, Block, Loop, Seq


def block_ends(row, block):
    ends = [2 << start if row[start] == block else 0 for start in range(len(row))]
    ends.append(0)
    return ends


def ends_through(middles, ends):
    reached = 0
    while middles > 0:
        place = middles.bit_length() - 1
        reached |= ends[place]
        middles ^= 1 << place
    return reached


def seq_ends(first, second):
    return [ends_through(middles, second) for middles in first]


def alt_ends(first, second):
    return [first[start] | second[start] for start in range(len(first))]


# For every start: a number made of groups of len(body) bits, of which group k has the ends behind k rounds that
# each take something of the row.
def ends_by_rounds(body):
    width = len(body)
    groups = [0] * width
    # From the back, as a round that takes something ends at a later place.
    for start in range(width - 1, -1, -1):
        later = body[start] & ~(1 << start)
        groups[start] = (1 << start) | (ends_through(later, groups) << width)
    return groups


def ends_in_groups(groups, width):
    every = (1 << width) - 1
    reached = 0
    while groups > 0:
        reached |= groups & every
        groups = groups >> width
    return reached


def loop_ends(body, lo, hi):
    width = len(body)
    # Where a round may be empty, empty rounds make up what is missing to lo.
    least = 0 if body[0] & 1 == 1 else lo
    # There are no more rounds that take something than the row has numbers.
    most = min(hi, width - 1)
    if least > most:
        return [0] * width
    wanted = (1 << ((most - least + 1) * width)) - 1
    return [ends_in_groups((groups >> (least * width)) & wanted, width) for groups in ends_by_rounds(body)]


def program_ends(program, row, found):
    if isinstance(program, Block):
        # A block's number is that of the programs before it.
        return block_ends(row, len(found))
    if isinstance(program, Seq):
        return seq_ends(found[program.first], found[program.second])
    if isinstance(program, Alt):
        return alt_ends(found[program.first], found[program.second])
    if isinstance(program, Loop):
        return loop_ends(found[program.body], program.lo, program.hi)
    return found[program.body]


def row_is_run(programs, number, row):
    found = []
    # What a program is made of has lower numbers than itself.
    for program in programs[:number + 1]:
        found.append(program_ends(program, row, found))
    return (found[number][0] >> len(row)) & 1 == 1
