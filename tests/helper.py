"""What the tests share: values, cases made at random, and results found by trying.

Nothing here uses the package; what is found by trying follows the words of
the document alone.
"""

import copy
import random
from functools import lru_cache
from itertools import combinations, product

CASE = ((('abc', 0, False), ('bd', 0, False)), ('a', 'b', '?', 'd', 'c'), ())
BACK = ((('bd', 1, False),), ('d', 'b'), ())

# values of all kinds, at any depth, none of which is what any function asks for
ODD = [
    None, True, False, 0, 1, -1, 10 ** 29, '', '?', 'a', 'abc' * 60, '\u00e9', [], {}, (), [[]], [()], ((),), {0: 1},
    {'a': []}, [None], (None,), ([],), ({},), [{}], [[], []], [{}, {}], (0,), (0, 0), ((0, 0),), [(0, 0)], [((0, 0),)],
    ((True, False),), ((0, 0, 0),), ('same', 0, 1), [('same', 0, 1)], {(): 0}, [{(): 0}], [{((), ()): 0}],
    [[((), ())]], [[[]]], [[[[[[[[[[[]]]]]]]]]]], ((((((((((((),),),),),),),),),),),),
    [{(((0, -1, 0),), ()): 0}], [[(((0, -1, 0),), ())]], [[(((0, -1, 0),), []), None]], {((0, -1, 0),): [1, 'x']},
]

# the largest of each kind: four reels, products up to 600, sixteen frames
FULL = (('abcd', 0, False), ('abcd', 0, False), ('abcd', 0, False), ('abcd', 0, False))
LOSSY = (('abcde', 0, False), ('abcd', 0, False), ('abcde', 1, False), ('abc', 0, False))
TURNING = (('abcde', 0, True), ('abcde', 0, False), ('abc', 0, True), ('ab', 0, False))
LONG = (('abcdefghij', 2, False), ('abcdefghi', 1, False))
OPEN_TAPE = ('?',) * 16

SAYINGS = [('same', 0, 1), ('apart', 0, 2), ('of', 3, 1), ('off', 4, 1)]
# of three reels, each of which can give any number of frames, nearly everything is possible
FREE = (('abc', 3, False), ('ab', 2, True), ('c', 1, False))


def runs_by_places(places, size, turns):
    """The run behind places of one reel, and how many are left out so far."""
    if not places:
        return (0, -1, 0), 0
    last = places[-1]
    if len(places) == 1:
        return (1, last, 0), min(last, size - 1 - last) if turns else last
    if places[0] < last:
        return (len(places), last, 1), len([p for p in range(last) if p not in places])
    return (len(places), last, -1), len([p for p in range(last + 1, size) if p not in places])


def all_runs(reel):
    """All runs of a reel, found from all choices of its places."""
    signs, loss, turns = reel
    found = set()
    for many in range(len(signs) + 1):
        for places in combinations(range(len(signs)), many):
            for order in (places, places[::-1]) if turns else (places,):
                run, left_out = runs_by_places(order, len(signs), turns)
                if left_out <= loss:
                    found.add(run)
    return sorted(found)


def frames_kept_at(sayings, k):
    return sorted({s[1] for s in sayings if s[0] in ('same', 'apart') and s[1] < k <= s[2]})


def all_rows(case, k, loose=False):
    """All rows, or loose rows, at k."""
    stock, _, sayings = case
    rows = []
    frames = frames_kept_at(sayings, k)
    choices = [[(j, r) for r in range(len(stock))] + ([None] if loose else []) for j in frames]
    for runs in product(*[all_runs(reel) for reel in stock]):
        used = sum(run[0] for run in runs)
        if used == k or (loose and used <= k):
            for kept in product(*choices):
                rows.append((runs, tuple(pair for pair in kept if pair is not None)))
    return rows


def sayings_hold(sayings, k, kept, r):
    """Whether the sayings whose last frame is k hold; those whose other frame is not kept are left out."""
    reels = dict(kept)
    reels[k] = r
    for word, a, b in sayings:
        if word == 'of' and a == k and r != b or word == 'off' and a == k and r == b:
            return False
        if word == 'same' and b == k and a in reels and reels[a] != r:
            return False
        if word == 'apart' and b == k and a in reels and reels[a] == r:
            return False
    return True


def next_runs(reel, run):
    """The places that can come next, each with the run behind it."""
    used, last, way = run
    found = []
    for p in range(len(reel[0])):
        if used == 0:
            after = (1, p, 0)
        elif p == last:
            continue
        else:
            its_way = 1 if p > last else -1
            if way not in (0, its_way):
                continue
            after = (used + 1, p, its_way)
        if after in all_runs(reel):
            found.append((p, after))
    return found


def steps_by_words(case, k, row):
    """The steps from a row or a loose row at k, ascending."""
    stock, tape, sayings = case
    runs, kept = row
    later = frames_kept_at(sayings, k + 1)
    found = []
    for r, reel in enumerate(stock):
        for p, run in next_runs(reel, runs[r]):
            if (tape[k] == '?' or reel[0][p] in tape[k]) and sayings_hold(sayings, k, kept, r):
                kept_after = tuple(pair for pair in kept + ((k, r),) if pair[0] in later)
                found.append((r, p, (runs[:r] + (run,) + runs[r + 1:], kept_after)))
    return sorted(found)


def ends_by_words(case, row):
    return all(len(reel[0]) - run[0] <= reel[1] for reel, run in zip(case[0], row[0]))


def stands(case, pairs):
    """Whether pairs, or None for some frames, are a loose cut by the words of the document."""
    stock, tape, sayings = case
    for pair, frame in zip(pairs, tape):
        if pair is not None and frame != '?' and stock[pair[0]][0][pair[1]] not in frame:
            return False
    for r, (signs, loss, turns) in enumerate(stock):
        places = [pair[1] for pair in pairs if pair is not None and pair[0] == r]
        up, down = sorted(set(places)), sorted(set(places), reverse=True)
        if places != up and not (turns and places == down):
            return False
        if len([p for p in range(len(signs)) if p not in places]) > loss:
            return False
    for word, a, b in sayings:
        if pairs[a] is None or word in ('same', 'apart') and pairs[b] is None:
            continue
        r = pairs[a][0]
        if word in ('same', 'apart') and (r == pairs[b][0]) != (word == 'same'):
            return False
        if word in ('of', 'off') and (r == b) != (word == 'of'):
            return False
    return True


def all_loose(case, most=None):
    """All loose cuts of a case, found by trying; with most = 0 all cuts, in ascending order."""
    stock, tape, _ = case
    pairs = [(r, p) for r, reel in enumerate(stock) for p in range(len(reel[0]))]
    if most != 0:
        pairs = pairs + [None]
    return [tried for tried in product(pairs, repeat=len(tape)) if stands(case, tried)]


def all_cuts(case):
    return all_loose(case, 0)


def random_reel(chance, size):
    signs = ''.join(chance.choice('abc') for _ in range(chance.randint(1, size)))
    return (signs, min(chance.choice([0, 0, 1, 1, 2, 10, 10]), len(signs)), chance.random() < 0.4)


def random_frame(chance):
    return chance.choice(['?', '?', '?', 'a', 'b', 'c', 'ab', 'bc', 'ac', 'abc'])


def random_saying(chance, frames, reels):
    if frames > 1 and chance.random() < 0.6:
        j, k = sorted(chance.sample(range(frames), 2))
        return (chance.choice(['same', 'apart']), j, k)
    return (chance.choice(['of', 'off']), chance.randrange(frames), chance.randrange(reels))


def random_case(chance, frames=5, reels=3, size=3):
    """A small case; most have some cuts, many have none."""
    stock = tuple(random_reel(chance, size) for _ in range(chance.randint(1, reels)))
    needed = sum(len(signs) - loss for signs, loss, _ in stock)
    most = sum(len(signs) for signs, _, _ in stock)
    # mostly as many frames as the stock can give
    length = chance.randint(needed, most) if chance.random() < 0.8 else chance.randint(0, frames)
    tape = tuple(random_frame(chance) for _ in range(min(length, frames)))
    many = chance.choice([0, 0, 1, 2, 3, 4]) if tape else 0
    return (stock, tape, tuple(random_saying(chance, len(tape), len(stock)) for _ in range(many)))


def random_cases(seed, many, places=6, **limits):
    """So many small cases with at most so many places in all."""
    chance = random.Random(seed)
    found = []
    while len(found) < many:
        case = random_case(chance, **limits)
        if sum(len(reel[0]) for reel in case[0]) <= places:
            found.append(case)
    return found


def large_cases():
    """Cases of the largest stocks and sixteen frames, with and without sayings."""
    sayings = (('same', 0, 9), ('apart', 3, 12), ('off', 7, 1), ('apart', 9, 15))
    mixed = ('ab', '?', 'abc', '?', 'bcd', '?', '?', 'acd', '?', '?', 'abcd', '?', '?', 'bd', '?', 'cde')
    return [
        (stock, tape, told)
        for stock in (FULL, LOSSY, TURNING, LONG)
        for tape in (OPEN_TAPE, mixed)
        for told in ((), sayings)
    ]


def parts_changed(value):
    """Values that differ from a value in one part, at any depth: of another kind, another number or left out."""
    found = []
    if isinstance(value, (list, tuple)):
        kind = type(value)
        other = tuple if kind is list else list
        found.append(other(value))
        for k, part in enumerate(value):
            found.append(kind(value[:k] + value[k + 1:]))
            found.extend(kind(value[:k] + kind([changed]) + value[k + 1:]) for changed in parts_changed(part))
        found.append(kind(value + kind([None])))
    elif isinstance(value, bool):
        found.extend([int(value), None])
    elif isinstance(value, int):
        found.extend([bool(value), None, str(value), [value], (value,), -1 - value, value + 100])
    elif isinstance(value, str):
        found.extend([None, 0, [value], (value,)])
    elif value is None:
        found.extend([0, False, ()])
    return found


def integers_moved(value):
    """Tuples that differ from one in one integer, by one, at any depth."""
    if isinstance(value, tuple):
        return [value[:k] + (moved,) + value[k + 1:] for k, part in enumerate(value) for moved in integers_moved(part)]
    return [value - 1, value + 1]


def parts_replaced(value, other):
    """Tuples that differ from one in that another value stands for one part, at any depth."""
    found = [other]
    if isinstance(value, tuple):
        for k, part in enumerate(value):
            found.extend(value[:k] + (changed,) + value[k + 1:] for changed in parts_replaced(part, other))
    return found


def hashable(value):
    try:
        hash(value)
    except TypeError:
        return False
    return True


def mending_steps(case, prices, k, row):
    """The rows behind the mending steps from a row at k, each with the cost; no misread frames if that price is None."""
    stock, tape, sayings = case
    stranger, misread = prices
    later = frames_kept_at(sayings, k + 1)
    found = [((row[0], tuple(pair for pair in row[1] if pair[0] in later)), stranger)]
    for r, p, after in steps_by_words((stock, ('?',) * len(tape), sayings), k, row):
        if tape[k] == '?' or stock[r][0][p] in tape[k]:
            found.append((after, 0))
        elif misread is not None:
            found.append((after, misread))
    return found


def joined_steps(case, k, joined):
    """The joined rows behind the steps from a joined row at k, each with the cost."""
    row, before = joined
    return [((after, r), int(before not in (-1, r))) for r, _, after in steps_by_words(case, k, row)]


def all_joined(case, k):
    """All joined rows at k."""
    return [(row, r) for row in all_rows(case, k) for r in (range(len(case[0])) if k else [-1])]


def shown_by_words(values, number, first, steps, ends):
    """Whether dicts with rows as keys show a number, by the words of the document."""
    if values[0].get(first) != 0:
        return False
    for k in range(len(values) - 1):
        for row, v in values[k].items():
            for after, cost in steps(k, row):
                if after not in values[k + 1] or values[k + 1][after] > v + cost:
                    return False
    return all(v >= number for row, v in values[-1].items() if ends(row))


def parts_exchanged(pairs):
    """A tuple of pairs with two of them exchanged, or one put elsewhere."""
    found = []
    for i in range(len(pairs)):
        rest = pairs[:i] + pairs[i + 1:]
        found.extend(rest[:k] + pairs[i:i + 1] + rest[k:] for k in range(len(pairs)))
        for k in range(i):
            found.append(pairs[:k] + (pairs[i],) + pairs[k + 1:i] + (pairs[k],) + pairs[i + 1:])
    return found


def made(desk, event):
    """Makes an event of a desk or of a watcher."""
    word, *arguments = event
    return getattr(desk, word)(*arguments)


def is_frame_by_words(value):
    if type(value) is not str:
        return False
    return value == '?' or all('a' <= sign <= 'z' for sign in value) and list(value) == sorted(set(value))


def merged_by_words(frame, other):
    if '?' in (frame, other):
        return other if frame == '?' else frame
    return ''.join(sorted(set(frame) & set(other)))


def case_behind(case, event):
    """The case behind a valid event, by the words of the document."""
    stock, tape, sayings = case
    if event[0] == 'read':
        _, k, frame = event
        return (stock, tape[:k] + (merged_by_words(tape[k], frame),) + tape[k + 1:], sayings)
    if event[0] == 'say':
        return (stock, tape, sayings + (event[1],))
    return (stock, tape, sayings[:event[1]] + sayings[event[1] + 1:])


def random_event(chance, case):
    stock, tape, sayings = case
    word = chance.choice(['read', 'read', 'read', 'say', 'say', 'drop'])
    if word == 'say' and len(sayings) < 4:
        return ('say', random_saying(chance, len(tape), len(stock)))
    if word == 'drop' and sayings:
        return ('drop', chance.randrange(len(sayings)))
    return ('read', chance.randrange(len(tape)), random_frame(chance))


# watches: the document's, and one whose whole cuts have sixteen frames
WATCH = ((('abc', 0, False), ('ab', 0, False)), 0, 16)
LONG_WATCH = ((('ab', 1, False), ('b', 1, False)), 3, 16)
SHORT = ((('aa', 1, False),), 0, 16)
TURNED = ((('abcdba', 0, True),), 0, 16)
MIXED = ((('axyb', 3, False), ('m', 0, False)), 0, 16)
SIXTEEN = ((('aabbaabb', 0, False), ('abababab', 0, False)), 0, 16)


def orders(reel):
    """All tuples of places that a cut can have of a reel."""
    signs, loss, turns = reel
    found = set()
    for many in range(len(signs) - loss, len(signs) + 1):
        for places in combinations(range(len(signs)), many):
            found.add(places)
            if turns:
                found.add(places[::-1])
    return sorted(found)


def interleaved(parts):
    """All ways to put some tuples of pairs into one, each in its own order."""
    if not any(parts):
        return [()]
    found = []
    for i, part in enumerate(parts):
        if part:
            found.extend((part[0],) + rest for rest in interleaved(parts[:i] + [part[1:]] + parts[i + 1:]))
    return found


@lru_cache(maxsize=None)
def all_tapes(stock):
    """The cuts of all tapes with frames '?' alone, of any length, ascending."""
    found = []
    for chosen in product(*[orders(reel) for reel in stock]):
        found.extend(interleaved([tuple((r, p) for p in places) for r, places in enumerate(chosen)]))
    return sorted(found)


def signs_along(stock, pairs):
    return ''.join(stock[r][0][p] for r, p in pairs)


def all_whole(watch, head):
    """All whole cuts, ascending."""
    stock, least, most = watch
    found = []
    for cut in all_tapes(stock):
        if max(least, len(head)) <= len(cut) <= most:
            signs = signs_along(stock, cut[:len(head)])
            if all(frame == '?' or sign in frame for sign, frame in zip(signs, head)):
                found.append(cut)
    return found


def watch_size(stock):
    """The product that point [21] names."""
    size = 1
    for signs, loss, turns in stock:
        size *= len(signs) * (loss + 1) * (2 if turns else 1) + 1
    return size


def random_watch(chance):
    """A small watch, mostly with four to seven places; its empty head may be dead."""
    fewest = chance.choice([1, 4, 4, 4, 5])
    while True:
        stock = tuple(random_reel(chance, chance.choice([2, 3, 4])) for _ in range(chance.choice([1, 2, 2, 3, 3, 4])))
        if watch_size(stock) <= 100 and fewest <= sum(len(reel[0]) for reel in stock) <= 7:
            break
    if chance.random() < 0.5:
        return (stock, 0, 16)
    least, most = sorted([chance.randint(0, 7), chance.randint(0, 7)])
    return (stock, least, most)


def loosened(chance, sign):
    """A frame that a sign fits."""
    if chance.random() < 0.4:
        return '?'
    return ''.join(sorted({sign} | set(chance.sample('abcx', chance.choice([0, 0, 1, 2])))))


def random_head(chance, watch, plain=False):
    """A head, mostly one that is not dead; a plain one has single letters."""
    cuts = all_whole(watch, ())
    if cuts and chance.random() < 0.8:
        cut = chance.choice(cuts)
        signs = signs_along(watch[0], cut)[:chance.randint(0, len(cut))]
        return tuple(sign if plain else loosened(chance, sign) for sign in signs)
    return tuple(random_frame(chance) for _ in range(chance.randint(0, 4)))


def small_heads(seed, many, plain=False):
    """So many watches, each with a head."""
    chance = random.Random(seed)
    found = []
    for _ in range(many):
        watch = random_watch(chance)
        found.append((watch, random_head(chance, watch, plain)))
    return found


def turning_heads(seed, many):
    """So many watches with a reel that turns, each with a head of letters: doubts that have no twins are found there."""
    chance = random.Random(seed)
    found = []
    while len(found) < many:
        stock = ((''.join(chance.choice('abc') for _ in range(chance.randint(3, 7))), chance.choice([0, 0, 1]), True),)
        if chance.random() < 0.5:
            stock += ((chance.choice(['a', 'ab', 'c', 'bc']), 0, False),)
        if watch_size(stock) <= 100:
            cut = chance.choice(all_tapes(stock))
            found.append(((stock, 0, 16), tuple(signs_along(stock, cut[:chance.randint(1, 3)]))))
    return found


def sure_by_trying(watch, head):
    """The frames of a head that have one pair in all whole cuts, with it, or None if the head is dead."""
    cuts = all_whole(watch, head)
    if not cuts:
        return None
    pairs = [{cut[k] for cut in cuts} for k in range(len(head))]
    return {k: min(found) for k, found in enumerate(pairs) if len(found) == 1}


def scene_behind(scene, event):
    """The watch, the head and whether the tape has ended behind a valid event, by the words of the document."""
    (stock, least, most), head, ended = scene
    if event[0] == 'end':
        return ((stock, len(head), len(head)), head, True)
    if event[0] == 'frame':
        return ((stock, least, most), head + (event[1],), ended)
    _, k, frame = event
    return ((stock, least, most), head[:k] + (merged_by_words(head[k], frame),) + head[k + 1:], ended)


def random_scene_event(chance, scene):
    """An event that is one in a scene, if perhaps not one that is taken."""
    (stock, least, most), head, ended = scene
    words = ['again'] * 3 * bool(head) + ['frame'] * 4 * (not ended and len(head) < 16)
    words += ['end'] * (not ended and least <= len(head) <= most)
    if not words:
        return None
    word = chance.choice(words)
    letters = ''.join(reel[0] for reel in stock)
    frame = chance.choice([random_frame(chance), chance.choice(letters), loosened(chance, chance.choice(letters))])
    if word == 'again':
        return ('again', chance.randrange(len(head)), frame)
    return ('frame', frame) if word == 'frame' else ('end',)


def totals_of(reel, run):
    """All numbers of frames that a reel can have given in the end, if a run of it goes on in any way."""
    found = {run[0]} if len(reel[0]) - run[0] <= reel[1] else set()
    for _, after in next_runs(reel, run):
        found |= totals_of(reel, after)
    return found


@lru_cache(maxsize=None)
def totals(stock, runs):
    """All numbers of frames that a tape can have behind runs, if frames '?' follow."""
    sums = {0}
    for reel, run in zip(stock, runs):
        sums = {one + other for one in sums for other in totals_of(reel, run)}
    return sorted(sums)


def lives(watch, row):
    """Whether a row can still end within a watch."""
    stock, least, most = watch
    return any(least <= many <= most for many in totals(stock, row[0]))


def with_part(values, k, part):
    """A list with another part in the place of one."""
    return values[:k] + [part] + values[k + 1:]


def lists_disturbed(table):
    """Lists of lists that differ from some in that one is of another kind, or one part of it left out or doubled."""
    found = [table[:-1], table[1:], table + [[]], [[]] + table, tuple(table), dict(enumerate(table)), None]
    for k, part in enumerate(table):
        found.extend([with_part(table, k, tuple(part)), with_part(table, k, dict.fromkeys(part)), with_part(table, k, None)])
        for i in range(len(part)):
            found.append(with_part(table, k, part[:i] + part[i + 1:]))
            found.append(with_part(table, k, part + [part[i]]))
            found.append(with_part(table, k, part[:i] + [part[i], part[i]] + part[i + 1:]))
    return found


class ValuesChecks:
    """What is asked of values of each kind; a test case adds how they are found and what the words of the document say.

    find(case), least(case), shown(case, value, number), by_words(case, values, number), keys(case, k)
    """

    some_cases = ()     # small cases of all kinds
    two_cases = ()      # a case with a number, and one of which each number is shown
    told_case = None    # a small case with sayings that keep frames

    def check(self, expected, case, value, *numbers):
        before = repr(value)
        for number in numbers:
            self.assertIs(self.shown(case, value, number), expected, (case, value, number))
        self.assertEqual(repr(value), before)

    def with_dict(self, values, k, part):
        return values[:k] + [part] + values[k + 1:]

    def test_they_show_the_least(self):
        nothing = 0
        for case in self.some_cases:
            values, least = self.find(case), self.least(case)
            self.assertEqual(values, self.find(case))
            if least is None:
                nothing += 1
                self.check(True, case, values, 0, 1, 2, 5, 17, 10 ** 29)
            else:
                self.check(True, case, values, *range(least + 1))
                self.check(False, case, values, least + 1, least + 2, 10 ** 29)
        self.assertTrue(0 < nothing < len(self.some_cases))

    def test_they_are_right_by_words(self):
        for case in self.some_cases[:40]:
            values, least = self.find(case), self.least(case)
            self.assertEqual(len(values), len(case[1]) + 1)
            for k, part in enumerate(values):
                keys = self.keys(case, k)
                for row, v in part.items():
                    self.assertIn(row, keys)
                    self.assertIs(type(v), int)
                    self.assertTrue(0 <= v <= 10 ** 20)
            for number in [0, 1, 2, 3, 9]:
                expected = least is None or number <= least
                self.assertEqual(self.by_words(case, values, number), expected)
                self.check(expected, case, values, number)

    def test_all_rows_with_nothing(self):
        for case in self.some_cases[:60]:
            values = [{row: 0 for row in self.keys(case, k)} for k in range(len(case[1]) + 1)]
            self.check(True, case, values, 0)
            self.check(self.by_words(case, values, 1), case, values, 1)

    def test_numbers_changed(self):
        chance = random.Random(101)
        for case in self.some_cases[:60]:
            values = self.find(case)
            for _ in range(12):
                k = chance.choice([k for k, part in enumerate(values) if part])
                changed = copy.deepcopy(values)
                row = chance.choice(sorted(changed[k]))
                changed[k][row] = max(0, changed[k][row] + chance.choice([-1, 1, 2]))
                for number in (0, 1, 2):
                    self.check(self.by_words(case, changed, number), case, changed, number)

    def test_rows_left_out_or_put_in(self):
        for case in self.some_cases[:40]:
            values = self.find(case)
            for k, part in enumerate(values):
                for row in part:
                    fewer = self.with_dict(values, k, {other: v for other, v in part.items() if other != row})
                    self.check(False, case, fewer, 0, 1, 10 ** 29)
                for row in self.keys(case, k):
                    if row not in part:
                        for v in (0, 9):
                            more = self.with_dict(values, k, {**part, row: v})
                            self.check(self.by_words(case, more, 1), case, more, 1)

    def test_order_of_keys_means_nothing(self):
        for case in self.some_cases[:40]:
            values, least = self.find(case), self.least(case)
            for reverse in (False, True):
                turned = [{row: part[row] for row in sorted(part, reverse=reverse)} for part in values]
                self.assertEqual(turned, values)
                self.check(True, case, turned, least or 0)
                self.check(least is None, case, turned, (least or 0) + 1)

    def test_dicts_left_out_or_exchanged(self):
        for case in self.two_cases:
            values = self.find(case)
            self.check(True, case, values, 0)
            for other in [values[:-1], values[1:], values + [{}], [{}] + values, values[::-1], tuple(values), [], [{}]]:
                self.check(False, case, other, 0, 1)
            for k in range(len(values)):
                for other in [None, [], list(values[k].items()), list(values[k]), ()]:
                    self.check(False, case, self.with_dict(values, k, other), 0)
                if values[k]:
                    self.check(False, case, self.with_dict(values, k, {}), 0)
                    self.check(False, case, self.with_dict(values, k, values[k - 1]), 0)

    def test_keys_of_other_forms(self):
        case = self.told_case
        values = self.find(case)
        self.check(True, case, values, 0)
        for k, part in enumerate(values):
            keys = self.keys(case, k)
            self.assertTrue(part)
            for row in part:
                for changed in parts_changed(row):
                    # a truth in the place of an integer is equal to it, so it stands in its key's place
                    if hashable(changed) and (changed not in keys or repr(changed) != repr(row) and changed == row):
                        one = {key: v for key, v in part.items() if key != row}
                        self.check(False, case, self.with_dict(values, k, {**one, changed: part[row]}), 0)
                        if changed not in keys:
                            self.check(False, case, self.with_dict(values, k, {**part, changed: 3}), 0)
        for value in ODD:
            if hashable(value):
                self.check(False, case, self.with_dict(values, 2, {**values[2], value: 0}), 0)

    def test_rows_that_there_are_not(self):
        for case in [self.told_case] + self.some_cases[:25]:
            values = self.find(case)
            for k, part in enumerate(values):
                keys = self.keys(case, k)
                others = {moved for row in part for moved in integers_moved(row)}
                if k + 1 < len(values):
                    others |= set(self.keys(case, k + 1))
                for other in others:
                    if other not in keys:
                        self.check(False, case, self.with_dict(values, k, {**part, other: 9}), 0)

    def test_other_values_within_keys(self):
        for case in self.two_cases:
            values = self.find(case)
            for k, part in enumerate(values):
                keys = {repr(key) for key in self.keys(case, k)}
                for row in list(part)[:2]:
                    rest = {key: v for key, v in part.items() if key != row}
                    for value in filter(hashable, ODD):
                        for changed in parts_replaced(row, value):
                            if repr(changed) not in keys:
                                self.check(False, case, self.with_dict(values, k, {**rest, changed: part[row]}), 0)
                                if changed not in part:
                                    self.check(False, case, self.with_dict(values, k, {**part, changed: 9}), 0)

    def test_numbers_of_other_kinds(self):
        for case in self.two_cases:
            values = self.find(case)
            for k, part in enumerate(values):
                for row in part:
                    for other in [None, False, True, '0', -1, [], (0,), {}]:
                        self.check(False, case, self.with_dict(values, k, {**part, row: other}), 0)
            (first,) = values[0]
            self.check(False, case, [{first: 1}] + values[1:], 0)

    def test_other_values(self):
        for case in self.two_cases:
            for value in ODD:
                self.check(False, case, value, 0, 1)

    def test_values_of_another_case(self):
        for case, other in zip(self.some_cases, self.some_cases[1:]):
            values = self.find(other)
            expected = (len(case[1]) == len(other[1])
                        and all(row in self.keys(case, k) for k, part in enumerate(values) for row in part)
                        and self.by_words(case, values, 1))
            self.check(expected, case, values, 1)

    def test_results_are_new(self):
        for case in self.two_cases:
            before = repr(case)
            values = self.find(case)
            kept = copy.deepcopy(values)
            values[1].clear()
            (first,) = values[0]
            values[0][first] = 7
            values.pop()
            self.assertEqual(self.find(case), kept)
            self.assertEqual(repr(case), before)

    def check_large(self, case):
        values, least = self.find(case), self.least(case)
        self.assertEqual(values, self.find(case))
        if least is None:
            self.assertTrue(self.shown(case, values, 10 ** 29))
        else:
            self.assertTrue(self.shown(case, values, least))
            self.assertFalse(self.shown(case, values, least + 1))
        row = max(values[9])
        v = values[9].pop(row)
        self.assertFalse(self.shown(case, values, 0))
        values[9][row] = v + 1
        # the row before led to it with its least value
        self.assertFalse(self.shown(case, values, 0))
        values[9][row] = v
        self.assertTrue(self.shown(case, values, least or 0))
