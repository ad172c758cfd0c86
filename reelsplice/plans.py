"""Plans: the steps of one case (points [8] and [11]), each worked out once."""

from reelsplice.keeping import last_frame, lets, looked_back_at, still_kept
from reelsplice.pairs import fits
from reelsplice.runs import UNUSED, may_end, moves_of, need, room


class Plan:
    """What the rows of a case have in common; it remembers what it has worked out."""

    def __init__(self, case):
        stock, tape, sayings = case
        self.stock = stock
        self.tape = tape
        self.frames = len(tape)
        self.first_runs = tuple([UNUSED for _ in stock])
        self.first = (self.first_runs, ())
        self.looked_at = [looked_back_at(sayings, k) for k in range(len(tape) + 1)]
        self.due = [[saying for saying in sayings if last_frame(saying) == k] for k in range(len(tape))]
        self.known_fitting = [[{} for reel in stock] for _ in tape]
        self.known_moves = [[{} for reel in stock] for _ in tape]
        self.known_choices = [{} for _ in tape]

    def fitting(self, k, r, run):
        """The places of reel r that frame k can take behind a run, each with the run behind it."""
        known = self.known_fitting[k][r]
        found = known.get(run)
        if found is None:
            signs = self.stock[r][0]
            found = [move for move in moves_of(self.stock[r], run) if fits(signs[move[0]], self.tape[k])]
            known[run] = found
        return found

    def moves(self, k, r, runs):
        """The places of reel r that frame k can take behind runs, each with the runs behind it."""
        known = self.known_moves[k][r]
        found = known.get(runs)
        if found is None:
            ahead, behind = runs[:r], runs[r + 1:]
            found = [(place, ahead + (after,) + behind) for place, after in self.fitting(k, r, runs[r])]
            known[runs] = found
        return found

    def choices(self, k, kept):
        """The reels that the sayings let frame k be of, each with what is kept behind it."""
        known = self.known_choices[k]
        found = known.get(kept)
        if found is None:
            found = [
                (r, still_kept(kept + ((k, r),), self.looked_at[k + 1]))
                for r in range(len(self.stock))
                if all([lets(saying, kept, r) for saying in self.due[k]])
            ]
            known[kept] = found
        return found

    def kept_without(self, k, kept):
        """What is kept behind frame k if it is left out."""
        return still_kept(kept, self.looked_at[k + 1])

    def steps(self, k, row):
        """The steps from a row at k, ascending: reel, place, row behind it."""
        runs, kept = row
        return [
            (r, place, (after, kept_after))
            for r, kept_after in self.choices(k, kept)
            for place, after in self.moves(k, r, runs)
        ]

    def ends(self, runs):
        """Whether the tape may end behind runs."""
        return all([may_end(reel, run) for reel, run in zip(self.stock, runs)])

    def can_come_out(self, k, runs):
        """Whether as many frames as there are from k on can come behind runs, whatever they are."""
        needed = sum([need(reel, run) for reel, run in zip(self.stock, runs)])
        most = sum([room(reel, run) for reel, run in zip(self.stock, runs)])
        return needed <= self.frames - k <= most
