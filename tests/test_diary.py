"""Point [41]: the diary."""

import unittest

from crosskeep.ledger.diary import Diary


class Diaries(unittest.TestCase):
    def test_at_first(self):
        self.assertEqual(Diary().lines, [])
        self.assertIs(Diary().settled(("a",)), False)

    def test_each_command_once(self):
        diary = Diary()
        self.assertEqual(diary.apply(("a", 1)), [(1, ("a", 1))])
        self.assertEqual(diary.apply(("b",)), [(2, ("b",))])
        self.assertEqual(diary.apply(("a", 1)), [])
        self.assertEqual(diary.apply(()), [(3, ())])
        self.assertEqual(diary.apply(("b",)), [])
        self.assertEqual(diary.lines, [("a", 1), ("b",), ()])

    def test_settled_changes_nothing(self):
        diary = Diary()
        diary.apply(("a",))
        self.assertIs(diary.settled(("a",)), True)
        self.assertIs(diary.settled(("b",)), False)
        self.assertIs(diary.settled(("b",)), False)
        self.assertEqual(diary.lines, [("a",)])

    def test_diaries_are_apart(self):
        first, second = Diary(), Diary()
        first.apply(("a",))
        self.assertEqual(second.lines, [])

    def test_letters_are_new(self):
        diary = Diary()
        diary.apply(("a",)).append("more")
        self.assertEqual(diary.lines, [("a",)])
        self.assertEqual(diary.apply(("b",)), [(2, ("b",))])


if __name__ == "__main__":
    unittest.main()
