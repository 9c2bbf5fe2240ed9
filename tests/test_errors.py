"""Point [5]: the error classes."""

import unittest

from crosskeep import errors

NAMES = [
    "Malformed", "OutOfRange", "NotDeal", "NoMessage", "LinkCut", "NoNode", "NodeDown", "NodeUp", "NodeGone",
    "NoClient", "CallOpen", "NoCall",
]


class Errors(unittest.TestCase):
    def test_each_derives_directly_from_the_base(self):
        self.assertEqual(errors.CrossError.__bases__, (ValueError,))
        for name in NAMES:
            self.assertEqual(getattr(errors, name).__bases__, (errors.CrossError,), name)
            self.assertEqual(getattr(errors, name).__module__, "crosskeep.errors", name)

    def test_there_are_no_others(self):
        classes = [name for name, item in vars(errors).items() if isinstance(item, type)]
        self.assertEqual(sorted(classes), sorted(NAMES + ["CrossError"]))

    def test_line_of_malformed(self):
        self.assertEqual(errors.Malformed("why").line, 0)
        self.assertEqual(errors.Malformed().line, 0)
        self.assertEqual(errors.Malformed("why", 7).line, 7)
        self.assertEqual(str(errors.Malformed("why", 7)), "why")

    def test_messages(self):
        for name in NAMES:
            self.assertEqual(str(getattr(errors, name)("why")), "why", name)
