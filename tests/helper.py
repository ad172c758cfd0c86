"""What the tests share: values, cases made at random, and results found by trying.

Nothing here uses the package; what is found by trying follows the words of
the document alone.
"""

import random
from itertools import combinations, product

CASE = ((('abc', 0, False), ('bd', 0, False)), ('a', 'b', '?', 'd', 'c'), ())
BACK = ((('bd', 1, False),), ('d', 'b'), ())

# values of all kinds, at any depth, none of which is what any function asks for
ODD = [
    None, True, False, 0, 1, -1, 10 ** 29, '', '?', 'a', 'abc' * 60, '\u00e9', [], {}, (), [[]], [()], ((),), {0: 1},
    {'a': []}, [None], (None,), ([],), ({},), [{}], [[], []], [{}, {}], (0,), (0, 0), ((0, 0),), [(0, 0)], [((0, 0),)],
    ((True, False),), ((0, 0, 0),), ('same', 0, 1), [('same', 0, 1)], {(): 0}, [{(): 0}], [{((), ()): 0}],
    [[((), ())]], [[[]]], [[[[[[[[[[[]]]]]]]]]]], ((((((((((((),),),),),),),),),),),),
    [{(((0, -1, 0),), ()): 0}], [[(((0, -1, 0),), ())]], [[(((0, -1, 0),), []), None]], {((0, -1, 0),): [1, 'x']},
]

# the largest of each kind: four reels, products up to 600, sixteen frames
FULL = (('abcd', 0, False), ('abcd', 0, False), ('abcd', 0, False), ('abcd', 0, False))
LOSSY = (('abcde', 0, False), ('abcd', 0, False), ('abcde', 1, False), ('abc', 0, False))
TURNING = (('abcde', 0, True), ('abcde', 0, False), ('abc', 0, True), ('ab', 0, False))
LONG = (('abcdefghij', 2, False), ('abcdefghi', 1, False))
OPEN_TAPE = ('?',) * 16


def runs_by_places(places, size, turns):
    """The run behind places of one reel, and how many are left out so far."""
    if not places:
        return (0, -1, 0), 0
    last = places[-1]
    if len(places) == 1:
        return (1, last, 0), min(last, size - 1 - last) if turns else last
    if places[0] < last:
        return (len(places), last, 1), len([p for p in range(last) if p not in places])
    return (len(places), last, -1), len([p for p in range(last + 1, size) if p not in places])


def all_runs(reel):
    """All runs of a reel, found from all choices of its places."""
    signs, loss, turns = reel
    found = set()
    for many in range(len(signs) + 1):
        for places in combinations(range(len(signs)), many):
            for order in (places, places[::-1]) if turns else (places,):
                run, left_out = runs_by_places(order, len(signs), turns)
                if left_out <= loss:
                    found.add(run)
    return sorted(found)


def frames_kept_at(sayings, k):
    return sorted({s[1] for s in sayings if s[0] in ('same', 'apart') and s[1] < k <= s[2]})


def all_rows(case, k, loose=False):
    """All rows, or loose rows, at k."""
    stock, _, sayings = case
    rows = []
    frames = frames_kept_at(sayings, k)
    choices = [[(j, r) for r in range(len(stock))] + ([None] if loose else []) for j in frames]
    for runs in product(*[all_runs(reel) for reel in stock]):
        used = sum(run[0] for run in runs)
        if used == k or (loose and used <= k):
            for kept in product(*choices):
                rows.append((runs, tuple(pair for pair in kept if pair is not None)))
    return rows


def sayings_hold(sayings, k, kept, r):
    """Whether the sayings whose last frame is k hold; those whose other frame is not kept are left out."""
    reels = dict(kept)
    reels[k] = r
    for word, a, b in sayings:
        if word == 'of' and a == k and r != b or word == 'off' and a == k and r == b:
            return False
        if word == 'same' and b == k and a in reels and reels[a] != r:
            return False
        if word == 'apart' and b == k and a in reels and reels[a] == r:
            return False
    return True


def next_runs(reel, run):
    """The places that can come next, each with the run behind it."""
    used, last, way = run
    found = []
    for p in range(len(reel[0])):
        if used == 0:
            after = (1, p, 0)
        elif p == last:
            continue
        else:
            its_way = 1 if p > last else -1
            if way not in (0, its_way):
                continue
            after = (used + 1, p, its_way)
        if after in all_runs(reel):
            found.append((p, after))
    return found


def steps_by_words(case, k, row):
    """The steps from a row or a loose row at k, ascending."""
    stock, tape, sayings = case
    runs, kept = row
    later = frames_kept_at(sayings, k + 1)
    found = []
    for r, reel in enumerate(stock):
        for p, run in next_runs(reel, runs[r]):
            if (tape[k] == '?' or reel[0][p] in tape[k]) and sayings_hold(sayings, k, kept, r):
                kept_after = tuple(pair for pair in kept + ((k, r),) if pair[0] in later)
                found.append((r, p, (runs[:r] + (run,) + runs[r + 1:], kept_after)))
    return sorted(found)


def ends_by_words(case, row):
    return all(len(reel[0]) - run[0] <= reel[1] for reel, run in zip(case[0], row[0]))


def stands(case, pairs):
    """Whether pairs, or None for some frames, are a loose cut by the words of the document."""
    stock, tape, sayings = case
    for pair, frame in zip(pairs, tape):
        if pair is not None and frame != '?' and stock[pair[0]][0][pair[1]] not in frame:
            return False
    for r, (signs, loss, turns) in enumerate(stock):
        places = [pair[1] for pair in pairs if pair is not None and pair[0] == r]
        up, down = sorted(set(places)), sorted(set(places), reverse=True)
        if places != up and not (turns and places == down):
            return False
        if len([p for p in range(len(signs)) if p not in places]) > loss:
            return False
    for word, a, b in sayings:
        if pairs[a] is None or word in ('same', 'apart') and pairs[b] is None:
            continue
        r = pairs[a][0]
        if word in ('same', 'apart') and (r == pairs[b][0]) != (word == 'same'):
            return False
        if word in ('of', 'off') and (r == b) != (word == 'of'):
            return False
    return True


def all_loose(case, most=None):
    """All loose cuts of a case, found by trying; with most = 0 all cuts, in ascending order."""
    stock, tape, _ = case
    pairs = [(r, p) for r, reel in enumerate(stock) for p in range(len(reel[0]))]
    if most != 0:
        pairs = pairs + [None]
    return [tried for tried in product(pairs, repeat=len(tape)) if stands(case, tried)]


def all_cuts(case):
    return all_loose(case, 0)


def random_reel(chance, size):
    signs = ''.join(chance.choice('abc') for _ in range(chance.randint(1, size)))
    return (signs, min(chance.choice([0, 0, 1, 1, 2, 10, 10]), len(signs)), chance.random() < 0.4)


def random_frame(chance):
    return chance.choice(['?', '?', '?', 'a', 'b', 'c', 'ab', 'bc', 'ac', 'abc'])


def random_saying(chance, frames, reels):
    if frames > 1 and chance.random() < 0.6:
        j, k = sorted(chance.sample(range(frames), 2))
        return (chance.choice(['same', 'apart']), j, k)
    return (chance.choice(['of', 'off']), chance.randrange(frames), chance.randrange(reels))


def random_case(chance, frames=5, reels=3, size=3):
    """A small case; most have some cuts, many have none."""
    stock = tuple(random_reel(chance, size) for _ in range(chance.randint(1, reels)))
    needed = sum(len(signs) - loss for signs, loss, _ in stock)
    most = sum(len(signs) for signs, _, _ in stock)
    # mostly as many frames as the stock can give
    length = chance.randint(needed, most) if chance.random() < 0.8 else chance.randint(0, frames)
    tape = tuple(random_frame(chance) for _ in range(min(length, frames)))
    many = chance.choice([0, 0, 1, 2, 3, 4]) if tape else 0
    return (stock, tape, tuple(random_saying(chance, len(tape), len(stock)) for _ in range(many)))


def random_cases(seed, many, places=6, **limits):
    """So many small cases with at most so many places in all."""
    chance = random.Random(seed)
    found = []
    while len(found) < many:
        case = random_case(chance, **limits)
        if sum(len(reel[0]) for reel in case[0]) <= places:
            found.append(case)
    return found


def large_cases():
    """Cases of the largest stocks and sixteen frames, with and without sayings."""
    sayings = (('same', 0, 9), ('apart', 3, 12), ('off', 7, 1), ('apart', 9, 15))
    mixed = ('ab', '?', 'abc', '?', 'bcd', '?', '?', 'acd', '?', '?', 'abcd', '?', '?', 'bd', '?', 'cde')
    return [
        (stock, tape, told)
        for stock in (FULL, LOSSY, TURNING, LONG)
        for tape in (OPEN_TAPE, mixed)
        for told in ((), sayings)
    ]


def parts_changed(value):
    """Values that differ from a value in one part, at any depth: of another kind, another number or left out."""
    found = []
    if isinstance(value, (list, tuple)):
        kind = type(value)
        other = tuple if kind is list else list
        found.append(other(value))
        for k, part in enumerate(value):
            found.append(kind(value[:k] + value[k + 1:]))
            found.extend(kind(value[:k] + kind([changed]) + value[k + 1:]) for changed in parts_changed(part))
        found.append(kind(value + kind([None])))
    elif isinstance(value, bool):
        found.extend([int(value), None])
    elif isinstance(value, int):
        found.extend([bool(value), None, str(value), [value], (value,), -1 - value, value + 100])
    elif isinstance(value, str):
        found.extend([None, 0, [value], (value,)])
    elif value is None:
        found.extend([0, False, ()])
    return found
