"""The one helper of the tests: the calls by name, and the answers without what stands round them."""

from longestrundesk.programs import answers

MOST = 18446744073709551615
BLOCKS = 2 ** 40


def init():
    return [0]


def block(cost):
    return [1, cost]


def seq(a, b):
    return [2, a, b]


def alt(a, b):
    return [3, a, b]


def loop(a, lo, hi):
    return [4, a, lo, hi]


def call(a, frame):
    return [5, a, frame]


def cost(b, new_cost):
    return [6, b, new_cost]


def time(a, least=0):
    return [7, a, least]


def often(a, b, least=0):
    return [8, a, b, least]


def stack(a):
    return [9, a]


def slack(a, b):
    return [10, a, b]


def nth(a, i):
    return [11, a, i]


def is_run(a, row):
    return [12, a, len(row), *row]


def flat(calls):
    return [number for one in calls for number in one]


def ask(*calls):
    """The number answered to each call; each must stand in the list as 3, the number, 0, 0."""
    told = answers(flat(calls))
    assert type(told) is list, told
    assert all(type(number) is int for number in told), told
    assert len(told) == 4 * len(calls), told
    for k in range(len(calls)):
        assert told[4 * k] == 3 and told[4 * k + 2:4 * k + 4] == [0, 0], told
    return told[1::4]


def last(*calls):
    return ask(*calls)[-1]


def asked(made, *calls):
    """The numbers answered to calls behind those that make programs, none of which may be refused."""
    told = ask(*made, *calls)
    assert min(told[:len(made)]) >= 0, told
    return told[len(made):]


def told_run(made, a, length):
    """The blocks at the first so many places of the run that's told of a, and what is answered just beyond."""
    return asked(made, *[nth(a, i) for i in range(length + 1)])


# Program 3 of these has one run, of just 2^40 blocks; 0 is a block, 1 and 2 its steps.
LONGEST = [block(1), loop(0, 32768, 32768), loop(1, 32768, 32768), loop(2, 1024, 1024)]
