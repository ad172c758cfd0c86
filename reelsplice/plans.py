"""Plans: the steps of one case (points [8], [11] and [13]), each worked out once."""

from reelsplice.keeping import last_frame, lets, looked_back_at, still_kept
from reelsplice.numbering import Numbering
from reelsplice.pairs import fits
from reelsplice.runs import moves_of, room

FIRST_RUNS = 0


class Plan:
    """What the rows of a case have in common; it remembers what it has worked out.

    Within layers runs stand as their numbers, by the numbering of the plan.
    """

    def __init__(self, case):
        stock, tape, sayings = case
        self.stock = stock
        self.tape = tape
        self.frames = len(tape)
        self.numbering = Numbering(stock)
        self.first = (self.numbering.runs[FIRST_RUNS], ())
        self.looked_at = [looked_back_at(sayings, k) for k in range(len(tape) + 1)]
        self.due = [[saying for saying in sayings if last_frame(saying) == k] for k in range(len(tape))]
        self.known_places = [[({}, {}) for reel in stock] for _ in tape]
        self.known_moves = [[({}, {}) for reel in stock] for _ in tape]
        self.known_choices = [{} for _ in tape]

    def places(self, k, r, run, fitting):
        """The places of reel r that can come next and fit frame k, or do not fit it, each with the run behind it."""
        known = self.known_places[k][r][fitting]
        found = known.get(run)
        if found is None:
            signs = self.stock[r][0]
            found = [move for move in moves_of(self.stock[r], run) if fits(signs[move[0]], self.tape[k]) == fitting]
            known[run] = found
        return found

    def moves(self, k, r, part, fitting=True):
        """A dict that has, for the runs of a part at least, the places of reel r that frame k can take behind them.

        Each place stands with the number of the runs behind it. If the frame
        is not to fit, these are the places that it can take as a misread one.
        """
        known = self.known_moves[k][r][fitting]
        for number in part:
            if number not in known:
                known[number] = self.moves_behind(k, r, self.numbering.runs[number], fitting)
        return known

    def moves_behind(self, k, r, runs, fitting):
        """What the dict of moves has for these runs."""
        ahead, behind = runs[:r], runs[r + 1:]
        return [
            (place, self.numbering.number_of(ahead + (after,) + behind))
            for place, after in self.places(k, r, runs[r], fitting)
        ]

    def choices(self, k, kept):
        """The reels that the sayings let frame k be of, each with what is kept behind it."""
        known = self.known_choices[k]
        found = known.get(kept)
        if found is None:
            found = [
                (r, still_kept(kept + ((k, r),), self.looked_at[k + 1]))
                for r in range(len(self.stock))
                if all([lets(saying, kept, r) for saying in self.due[k]])
            ]
            known[kept] = found
        return found

    def kept_without(self, k, kept):
        """What is kept behind frame k if it is left out."""
        return still_kept(kept, self.looked_at[k + 1])

    def steps(self, k, row):
        """The steps from a row at k, ascending: reel, place, row behind it."""
        runs, kept = row
        number = self.numbering.number_of(runs)
        return [
            (r, place, (self.numbering.runs[after], kept_after))
            for r, kept_after in self.choices(k, kept)
            for place, after in self.moves(k, r, (number,))[number]
        ]

    def ends(self, number):
        """Whether the tape may end behind runs."""
        return self.numbering.ending[number]

    def can_come_out(self, k, runs):
        """Whether as many frames as there are from k on can come behind runs, whatever they are."""
        most = sum([room(reel, run) for reel, run in zip(self.stock, runs)])
        return self.needs_at_most(self.numbering.number_of(runs), self.frames - k) and self.frames - k <= most

    def needs_at_most(self, number, frames):
        """Whether no more than so many frames must still be of reels behind runs, so that the tape may end."""
        return self.numbering.needed[number] <= frames
