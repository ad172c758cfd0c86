"""Numbers for runs: many rows have the same runs, and numbers are told apart faster than these."""

from reelsplice.runs import UNUSED, may_end, need


class Numbering:
    """The runs of one stock that were met so far, each with its number, from 0 for the first runs on."""

    def __init__(self, stock):
        self.stock = stock
        self.numbers = {}
        self.runs = []
        self.used = []
        self.needed = []
        self.ending = []
        self.number_of(tuple([UNUSED for _ in stock]))

    def number_of(self, runs):
        """The number of runs; they get the next one where they have none yet."""
        number = self.numbers.get(runs)
        if number is None:
            number = len(self.runs)
            self.numbers[runs] = number
            self.runs.append(runs)
            self.used.append(sum([run[0] for run in runs]))
            self.needed.append(sum([need(reel, run) for reel, run in zip(self.stock, runs)]))
            self.ending.append(all([may_end(reel, run) for reel, run in zip(self.stock, runs)]))
        return number
