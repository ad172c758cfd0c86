"""Stage 22: the logs of watchers (point [29])."""

from reelsplice.doubts import find_marked, find_parted, pairs_shown
from reelsplice.heads import find_whole, is_whole, lengths
from reelsplice.kinds import is_below
from reelsplice.pairs import ascends, is_pair
from reelsplice.watch_events import is_watch_event, scene_behind, scene_of
from reelsplice.watchers import Watcher


def watch_log(watcher):
    """The log of a watcher."""
    states = watcher.states
    return [entry_of(states[i - 1][2], states[i]) for i in range(1, len(states))]


def entry_of(before, state):
    """The entry of a log for a state of a watcher, with the frames that were told before."""
    event, (watch, head, _), sure = state
    cut = find_whole(watch, head)
    news = [(k, pair, find_marked(watch, head, k), cut) for k, pair in sorted(sure.items()) if k not in before]
    doubts = [(k,) + find_parted(watch, head, k) for k in range(len(head)) if k not in sure]
    return (event, news, doubts)


def is_news(scene, value):
    """Whether any value is a frame that is sure in a scene, with its pair and what shows it."""
    watch, head, _ = scene
    if not isinstance(value, tuple) or len(value) != 4:
        return False
    k, pair, table, cut = value
    if not is_below(k, len(head)) or not is_pair(watch[0], pair) or not is_whole(watch, head, cut):
        return False
    return pairs_shown(watch, head, k, table) == [pair]


def is_doubt(scene, value):
    """Whether any value is a frame that is in doubt in a scene, with two whole cuts that show it."""
    watch, head, _ = scene
    if not isinstance(value, tuple) or len(value) != 3:
        return False
    k, one, other = value
    if not is_below(k, len(head)) or not is_whole(watch, head, one) or not is_whole(watch, head, other):
        return False
    return one[k] != other[k] and one < other


def is_entry(scene, told, value):
    """Whether any value is the entry of a log in a scene, with the frames that earlier entries told."""
    if not isinstance(value, tuple) or len(value) != 3 or not is_watch_event(scene, value[0]):
        return False
    event, news, doubts = value
    after = scene_behind(scene, event)
    watch, head, _ = after
    if not isinstance(news, list) or not all([is_news(after, part) for part in news]):
        return False
    if not isinstance(doubts, list) or not all([is_doubt(after, part) for part in doubts]):
        return False
    new, open_frames = [part[0] for part in news], [part[0] for part in doubts]
    if not ascends(new) or not ascends(open_frames) or sorted(told + new + open_frames) != list(range(len(head))):
        return False
    return lengths(watch, head) != []


def first_watch_fault(watch, value):
    """The number of the first entry of a list of any values that is not right, or None if it is a log."""
    scene, told = scene_of(watch), []
    for i, entry in enumerate(value):
        if not is_entry(scene, told, entry):
            return i
        scene = scene_behind(scene, entry[0])
        told = told + [part[0] for part in entry[1]]
    return None


def is_watch_log(watch, value):
    """Whether any value is a log for a watch."""
    return isinstance(value, list) and first_watch_fault(watch, value) is None


def resumed_watcher(watch, log):
    """A watcher that began with a watch, with the events of a log."""
    stock, least, most = watch
    watcher = Watcher(stock, least, most)
    for event, _, _ in log:
        watcher.make(event)
    return watcher
