"""The events of a watcher, and the scene behind each (point [27]).

A scene is a tuple (watch, head, ended): the present ones, and whether the
tape has ended.
"""

from reelsplice.cases import MOST_FRAMES, is_frame
from reelsplice.kinds import is_below
from reelsplice.reading import merged_at


def scene_of(watch):
    """The scene at the beginning of a watch."""
    return (watch, (), False)


def is_watch_event(scene, value):
    """Whether any value is an event in a scene."""
    (_, least, most), head, ended = scene
    if not isinstance(value, tuple):
        return False
    if value[:1] == ("frame",):
        return len(value) == 2 and is_frame(value[1]) and not ended and len(head) < MOST_FRAMES
    if value[:1] == ("again",):
        return len(value) == 3 and is_below(value[1], len(head)) and is_frame(value[2])
    return value == ("end",) and not ended and least <= len(head) <= most


def scene_behind(scene, event):
    """The scene behind an event."""
    watch, head, ended = scene
    if event[0] == "frame":
        return (watch, head + (event[1],), ended)
    if event[0] == "again":
        _, k, frame = event
        return (watch, merged_at(head, k, frame), ended)
    return ((watch[0], len(head), len(head)), head, True)
