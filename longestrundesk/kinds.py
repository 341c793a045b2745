"""The five sorts of program. A program names its parts by their numbers, which are lower than its own."""


# Each program keeps how many blocks its longest run has: only costs change later, so this stays true.
class Block:
    def __init__(self, cost):
        self.cost = cost
        self.longest = 1


class Pair:
    def __init__(self, first, second, longest):
        self.first = first
        self.second = second
        self.longest = longest


class Seq(Pair):
    pass


class Alt(Pair):
    pass


class Loop:
    def __init__(self, body, lo, hi, longest):
        self.body = body
        self.lo = lo
        self.hi = hi
        self.longest = longest


class Call:
    def __init__(self, body, frame, longest):
        self.body = body
        self.frame = frame
        self.longest = longest
