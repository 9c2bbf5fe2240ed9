"""The journal: payloads on a disk, of which the last ones may be lost (points [27] to [29])."""

from crosskeep.packing.frames import FRAME_HEAD, frame, read_frames


class Journal:
    """The payloads of the frames on a disk. The first ones are synced."""

    def __init__(self):
        self._payloads = []
        # For each count of payloads, from none to all, the octets that the frames of the first ones take.
        self._sizes = [0]
        self._synced = 0

    @property
    def frame_count(self):
        """The number of the payloads."""
        return len(self._payloads)

    @property
    def synced_frames(self):
        """How many of the payloads are synced."""
        return self._synced

    @property
    def octet_count(self):
        """The number of all octets."""
        return self._sizes[-1]

    @property
    def synced_octets(self):
        """The number of the synced octets."""
        return self._sizes[self._synced]

    def append(self, payload):
        """Append a payload, a list of octets."""
        self._payloads.append(list(payload))
        self._sizes.append(self._sizes[-1] + FRAME_HEAD + len(payload))

    def sync(self):
        """Make all octets synced."""
        self._synced = len(self._payloads)

    def crash(self, count):
        """Lose the octets that are not synced but for so many, and each frame that is cut by this."""
        left = self.synced_octets + count
        # What is left of a frame that is cut never stands whole, so only frames that end in time come back.
        whole = len([size for size in self._sizes if size <= left]) - 1
        del self._payloads[whole:]
        del self._sizes[whole + 1:]
        self.sync()

    def payloads(self):
        """Return a list of all payloads, in order, each a list of octets."""
        return [list(payload) for payload in self._payloads]

    def image(self):
        """Return a list of all octets, synced or not."""
        return [octet for payload in self._payloads for octet in frame(payload)]

    def fork(self):
        """Return a new Journal in the same state."""
        twin = Journal()
        twin._payloads = self.payloads()
        twin._sizes = list(self._sizes)
        twin._synced = self._synced
        return twin


def read_journal(octets):
    """Return the journal that a disk with these octets tells."""
    payloads, _ = read_frames(octets)
    journal = Journal()
    for payload in payloads:
        journal.append(payload)
    journal.sync()
    return journal
