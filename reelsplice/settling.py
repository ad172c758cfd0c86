"""Stage 20: what settles a doubt."""

from reelsplice.coming import can_end, next_letters
from reelsplice.doubts import verdict


def settling(watch, head, k):
    """A dict from each letter that can come next, and '' if the tape can end, to whether frame k is sure behind it."""
    stock = watch[0]
    found = {letter: verdict(watch, head + (letter,), k) == "sure" for letter in next_letters(watch, head)}
    if can_end(watch, head):
        found[""] = verdict((stock, len(head), len(head)), head, k) == "sure"
    return found
