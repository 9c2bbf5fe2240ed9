"""The error classes of the package (point [5])."""


class CrossError(ValueError):
    """The base of all error classes."""


class Malformed(CrossError):
    """Octets, a line or a script do not tell what they should."""

    def __init__(self, why="", line=0):
        super().__init__(why)
        self.line = line


class OutOfRange(CrossError):
    """A number, bounds, members, a plan or a call are not allowed."""


class NotDeal(CrossError):
    """Data is no deal."""


class NoMessage(CrossError):
    """There is no such message."""


class LinkCut(CrossError):
    """The link of a message is cut."""


class NoNode(CrossError):
    """There is no such node."""


class NodeDown(CrossError):
    """The node is down."""


class NodeUp(CrossError):
    """The node is up."""


class NodeGone(CrossError):
    """The node is gone."""


class NoClient(CrossError):
    """There is no such client."""


class CallOpen(CrossError):
    """The client has an open call."""


class NoCall(CrossError):
    """The client has no open call."""
