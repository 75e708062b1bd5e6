"""Announcements for a screen reader, and what follows them."""

from keyfocus.errors import Refused

_MOST_MESSAGES = 40
_MOST_NAMES = 20


def _announcement(entry):
    """The announcement that an entry of a queue tells."""
    if entry[0] == "message":
        return entry
    _, old, new, steps = entry
    same = 0
    while same < min(len(old), len(new)) and old[same] == new[same]:
        same += 1
    return "path", len(old) - same, steps[same:]


class Announcements:
    """A queue of announcements, and the last announced path."""

    def __init__(self):
        self._last = ()
        # A path stands here as ("path", its old names, its new names, all its new steps): two of
        # them could not be merged if the steps that they have in common were missing.
        self._entries = []

    def tell(self, names, steps):
        """Announces a path, with a step for each name, if it is another one than the last one."""
        new = tuple(names)
        if new == self._last:
            return
        self._put_path(self._last, new, tuple(steps))
        self._last = new

    def message(self, text, assertive):
        """Announces a message, a polite or an assertive one."""
        messages = [entry for entry in self._entries if entry[0] == "message"]
        if len(messages) >= _MOST_MESSAGES:
            raise Refused("too many queued messages")
        entry = ("message", text, assertive)
        if not assertive:
            self._entries.append(entry)
            return
        paths = [path for path in self._entries if path[0] == "path"]
        self._entries = [other for other in messages if other[2]] + [entry]
        for _, old, new, steps in paths:
            self._put_path(old, new, steps)

    def queue(self):
        """The list of the announcements in the queue."""
        return [_announcement(entry) for entry in self._entries]

    def take(self):
        """Takes the first announcement out of the queue; None if there is none."""
        if len(self._entries) == 0:
            return None
        return _announcement(self._entries.pop(0))

    def _put_path(self, old, new, steps):
        """Puts a path at the end of the queue, merged with one that is there already."""
        if len(self._entries) > 0 and self._entries[-1][0] == "path":
            old = self._entries.pop()[1]
        if old != new:
            self._entries.append(("path", old, new, steps))


class Tracker:
    """A path that follows announcements."""

    def __init__(self):
        self._names = []

    def apply(self, announcement):
        """Follows an announcement."""
        if announcement[0] == "message":
            return
        _, exited, entered = announcement
        kept = len(self._names) - exited
        if kept < 0:
            raise Refused("not enough names on the path")
        if kept + len(entered) > _MOST_NAMES:
            raise Refused("too many names on the path")
        self._names = self._names[:kept] + [step[0] for step in entered]

    def path(self):
        """The list of the names on the path."""
        return list(self._names)
