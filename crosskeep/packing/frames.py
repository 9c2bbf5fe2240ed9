"""Checksums and frames: payloads of which it can be seen whether they stand whole (points [25] and [26])."""

MOST_PAYLOAD = 65535
FRAME_HEAD = 6
LENGTH_OCTETS = 2
CHECKSUM_OCTETS = 4
CHECKSUM_PRIME = 4294967291


def checksum(octets):
    """Return the checksum of a list of octets."""
    total = 1
    for octet in octets:
        total = (total * 257 + octet + 1) % CHECKSUM_PRIME
    return total


def frame(payload):
    """Return the frame of a payload, a list of octets, as a list."""
    return _in_octets(len(payload), LENGTH_OCTETS) + _in_octets(checksum(payload), CHECKSUM_OCTETS) + payload


def read_frames(octets):
    """Return a pair: the list of the payloads of the whole frames, and the number of octets that these take."""
    payloads = []
    taken = 0
    payload = _payload_at(octets, taken)
    while payload is not None:
        payloads.append(payload)
        taken += FRAME_HEAD + len(payload)
        payload = _payload_at(octets, taken)
    return payloads, taken


def _payload_at(octets, at):
    """Return the payload of the frame that stands whole at this place, or None if none does."""
    start = at + FRAME_HEAD
    if start > len(octets):
        return None
    length = _from_octets(octets[at:at + LENGTH_OCTETS])
    payload = octets[start:start + length]
    if len(payload) < length or checksum(payload) != _from_octets(octets[at + LENGTH_OCTETS:start]):
        return None
    return payload


def _in_octets(number, count):
    return [(number >> (8 * place)) & 255 for place in range(count)]


def _from_octets(octets):
    return sum([octet << (8 * place) for place, octet in enumerate(octets)])
