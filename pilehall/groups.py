"""Which groups are one: each lies under one other one at most, and the way up leads to the head."""

# The places in a way up.
HEAD = 0
STEPS = 1


class Groups:
    def __init__(self):
        # For each group the one that it lies under, None for a head.
        self.above = []
        # For each head how many groups are in its group; what stands at the others is kept for parting them.
        self.sizes = []

    def add_group(self):
        self.above.append(None)
        self.sizes.append(1)
        return len(self.above) - 1

    def has(self, number):
        return 0 <= number < len(self.above)

    def way_up(self, number):
        # No way is made shorter here: the steps are counted, and parting must find all as it was.
        steps = 0
        while self.above[number] is not None:
            number = self.above[number]
            steps += 1
        return (number, steps)

    def heads(self):
        return [self.way_up(number)[HEAD] for number in range(len(self.above))]

    def lay(self, first, second):
        # Of two heads with equally many groups the second goes under the first.
        lower = first if self.sizes[first] < self.sizes[second] else second
        upper = second if lower == first else first
        self.above[lower] = upper
        self.sizes[upper] += self.sizes[lower]
        return lower

    def part(self, lower):
        self.sizes[self.above[lower]] -= self.sizes[lower]
        self.above[lower] = None
