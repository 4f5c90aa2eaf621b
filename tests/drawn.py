"""Made-up lists of calls, the same ones each time."""

from tests.helper import (
    CLEAR, FAR, FIND, JETS, SUMS, TOP, at, begin, block, cluster, gain, jet, parts, pulse, weights, window,
)

# Where the pulses of one list lie: dense, so that blocks are divided and energies are equal, or spread, for many jets.
REGIONS = (
    [at(row, column) for row in range(-3, 3) for column in range(0, 6)],
    [at(row, column) for row in range(-2, 5) for column in range(26, 32)],
    [at(row, column) for row in range(10, 15) for column in range(10, 17)],
    [at(row, column) for row in range(0, 32, 2) for column in range(1, 32, 3)],
    list(range(1024)),
)
REACHES = (1, 64, 100, 128, 129, 182, 200, 257, 400, 1024)
RANGES = {
    1: ((1, TOP), (1, TOP), (1, 1024)),
    2: ((0, 3), (1, 2 ** 20), (0, 24), (0, 4095)),
    3: ((-32768, 32767),) * 16,
    4: ((0, 1023), (0, 3)) + ((0, 4095),) * 8,
    5: ((0, 1023),),
    7: ((0, 4),),
    8: ((0, 4),),
    10: ((0, 4),),
    12: ((1, 32), (1, 32)),
}


class Drawing:
    """One list after another; each keeps to a region."""

    def __init__(self, numbers):
        self.numbers = numbers
        self.region = REGIONS[0]

    def one_of(self, values):
        return values[self.numbers.below(len(values))]

    def start(self):
        low = 1 + self.numbers.below(4)
        return begin(low + self.numbers.below(5), low, self.one_of(REACHES))

    def gain(self):
        return gain(self.numbers.below(4), 1 + self.numbers.below(5), self.numbers.below(3), self.numbers.below(2))

    def weights(self):
        w = [self.one_of((1, 1, 1, 2, 3, -1)) for _ in range(8)]
        return weights(w, [self.numbers.below(9) - 4 for _ in range(8)])

    def pulse(self):
        samples = [self.one_of((0, 0, 1, 2, 5)) for _ in range(8)]
        if self.numbers.below(20) == 0:
            samples[self.numbers.below(8)] = 4095
        return pulse(self.one_of(self.region), samples, self.numbers.below(4))

    def window(self):
        most = self.one_of((4, 32))
        return window(1 + self.numbers.below(most), 1 + self.numbers.below(most))

    def query(self):
        number = self.numbers.below(5)
        return self.one_of((
            block(self.one_of(self.region)), cluster(number), cluster(number), parts(number), parts(number), jet(number),
            jet(number), jet(0), SUMS, self.window(),
        ))

    def edge(self):
        """A call with arguments at the ends of their ranges, and mostly one of them outside."""
        number = self.one_of(list(RANGES))
        given = [self.one_of(limits) for limits in RANGES[number]]
        place = self.numbers.below(len(given))
        least, greatest = RANGES[number][place]
        given[place] = self.one_of((least - 1, greatest + 1, -FAR, FAR, given[place]))
        return [number] + given

    def call(self):
        turn = self.numbers.below(100)
        if turn < 55:
            return self.pulse()
        if turn < 75:
            return self.query()
        if turn < 80:
            return FIND
        if turn < 88:
            return JETS
        if turn < 92:
            return self.gain()
        if turn < 94:
            return self.weights()
        if turn < 98:
            return self.edge()
        return self.one_of((CLEAR, self.start()))

    def calls(self, length):
        """A list of so many calls; some lists begin with calls ahead of open."""
        self.region = self.one_of(REGIONS)
        early = [self.call() for _ in range(self.one_of((0, 0, 0, 2)))]
        drawn = early + [self.start()]
        while len(drawn) < length:
            drawn.append(self.call())
        return drawn
