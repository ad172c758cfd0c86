"""Stage 21: watchers, which tell of each frame as soon as it is sure (point [27])."""

from reelsplice.doubts import pairs_by_frame
from reelsplice.errors import InvalidEvent, Refused
from reelsplice.heads import find_dead_table
from reelsplice.watch_events import is_watch_event, scene_behind, scene_of


class Watcher:
    """A watch and the frames of its tape that came so far, with what is sure of them."""

    def __init__(self, stock, least, most):
        self.states = []
        self.accept(None, scene_of((stock, least, most)))

    def accept(self, event, scene):
        """Notes an event, None for the beginning, with the scene behind it and the pairs that are sure there.

        It is refused if the head is dead there.
        """
        watch, head, _ = scene
        table = find_dead_table(watch, head)
        if table is not None:
            raise Refused(table)
        sure = {k: pairs[0] for k, pairs in enumerate(pairs_by_frame(watch, head)) if len(pairs) == 1}
        self.states.append((event, scene, sure))

    def make(self, event):
        """Makes an event and returns its news, or raises what is wrong with it."""
        _, scene, before = self.states[-1]
        if not is_watch_event(scene, event):
            raise InvalidEvent(event)
        self.accept(event, scene_behind(scene, event))
        return [(k, pair) for k, pair in sorted(self.told().items()) if k not in before]

    def frame(self, frame):
        """Takes one more frame."""
        return self.make(("frame", frame))

    def again(self, k, frame):
        """Merges frame k with a frame."""
        return self.make(("again", k, frame))

    def end(self):
        """Takes it that the tape has no more frames."""
        return self.make(("end",))

    def undo(self):
        """Takes back the last event and returns it; None if there is none."""
        return self.states.pop()[0] if len(self.states) > 1 else None

    def scene(self):
        """The present watch, the head, and whether the tape has ended."""
        return self.states[-1][1]

    def head(self):
        """The present head."""
        return self.scene()[1]

    def watch(self):
        """The present watch."""
        return self.scene()[0]

    def has_ended(self):
        """Whether the tape has ended."""
        return self.scene()[2]

    def told(self):
        """A dict from the frames that are told to their pairs."""
        return {k: pair for k, pair in self.states[-1][2].items()}

    def in_doubt(self):
        """The ascending list of the frames in doubt."""
        told = self.told()
        return [k for k in range(len(self.head())) if k not in told]

    def __eq__(self, other):
        if not isinstance(other, Watcher):
            return False
        return self.states == other.states
