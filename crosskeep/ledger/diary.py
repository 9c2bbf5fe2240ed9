"""The diary: the plainest machine, which notes each command once (point [41])."""


class Diary:
    """The commands that were applied, each once, in the order in which they came first."""

    def __init__(self):
        self.lines = []

    def apply(self, command):
        """Do a command; return a list with the letter of the new line, or an empty one."""
        if self.settled(command):
            return []
        self.lines.append(command)
        return [(len(self.lines), command)]

    def settled(self, command):
        """Return True if the command is a line, otherwise False."""
        return command in self.lines
