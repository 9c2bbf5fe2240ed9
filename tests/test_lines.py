"""Points [99] to [101]: calls as lines, scripts, and what is malformed."""

import unittest
from itertools import product
from random import Random

from crosskeep.errors import CrossError, Malformed
from crosskeep.script.lines import WORD_SIGNS, read_call, read_script, write_call, write_script

MOST = 10 ** 18
SIGNS = "".join([chr(code) for code in range(32, 127) if code != 37])

# Calls with their lines.
LINES = [
    (("tick",), "tick"),
    (("a",), "a"),
    (("abcdefghijkl",), "abcdefghijkl"),
    (("tick", 11), "tick 11"),
    (("send", -5, ()), "send -5 ()"),
    (("deal", 3, (("a", None),), 'say "x"'), 'deal 3 (("a" -)) "say ""x"""'),
    (("x", None), "x -"),
    (("x", None, None), "x - -"),
    (("x", 0, -1, 10, -10, MOST, -MOST), f"x 0 -1 10 -10 {MOST} -{MOST}"),
    (("x", ""), 'x ""'),
    (("x", '"'), 'x """"'),
    (("x", '""'), 'x """"""'),
    (("x", ' " '), 'x " "" "'),
    (("x", " "), 'x " "'),
    (("x", "-"), 'x "-"'),
    (("x", "(1)"), 'x "(1)"'),
    (("x", "5", 5), 'x "5" 5'),
    (("x", "", ""), 'x "" ""'),
    (("x", '" "'), 'x """ """'),
    (("x", SIGNS), 'x "' + SIGNS.replace('"', '""') + '"'),
    (("x", ((),)), "x (())"),
    (("x", ((), ())), "x (() ())"),
    (("x", (None,)), "x (-)"),
    (("x", (None, -1, "a", (1, ("b",)), ())), 'x (- -1 "a" (1 ("b")) ())'),
    (("x", (1, 2), 3), "x (1 2) 3"),
    (("x", (")", "(")), 'x (")" "(")'),
]
BAD = [
    # Words.
    "", " ", "abcdefghijklm", "Tick", "tick1", "1", "-", "()", '"a"', "ti_ck", "tick_", " tick", "tick ", "tick  11",
    "tick\t11", "tick,11", "tick(1)", 'tick"a"', "tick-", "tick-1", "t\u00efck", "tick\n", "\ntick",
    # Integers.
    "x 01", "x 00", "x -0", "x -01", "x +1", "x 1.0", "x 1e3", "x 1_000", "x 0x1", "x --1", "x - 1-", "x 1-", "x -1-",
    "x 1a", "x 1x", "x -5x", "x a", f"x {MOST + 1}", f"x -{MOST + 1}", f"x {10 * MOST}", f"x {'9' * 5000}", f"x -{'9' * 5000}",
    "x \u0661", "x \u00b2", "x -\u0661", "x None", "x True",
    # Dashes.
    "x --", "x -a", "x -()", 'x -""', "x - ", "x  -",
    # Texts.
    'x "', 'x "a', 'x """', 'x "a""', 'x "a"b', 'x "a"1', 'x "a""b', 'x ""a', 'x "a"-', 'x "a"()', 'x "a" ', "x 'a'",
    'x "%"', 'x "a%b"', 'x "\n"', 'x "\t"', 'x "\u00e9"', 'x "\x7f"', 'x "\x1f"', 'x "a" "', 'x "" "',
    # Tuples.
    "x (", "x )", "x (()", "x ())", "x (1", "x 1)", "x (1))", "x ( )", "x ( 1)", "x (1 )", "x (1  2)", "x (1,2)",
    "x ()()", "x (1)(2)", "x (1 2", "x [1]", "x (1(2))", 'x (1"a")', "x (-1-)", "x (1) ", "x ((1) )", 'x ("a)',
    "x (01)",
    # More lines than one.
    "tick\ntick", "x 1\n", "x (\n)", "x 1\r", "tick\r\n",
]


def nested(depth, inner=()):
    data = inner
    for _ in range(depth - 1):
        data = (data,)
    return data


def some_data(random, depth=0):
    kind = random.randrange(5 if depth < 4 else 4)
    if kind == 0:
        return None
    if kind < 3:
        return random.choice((0, 1, -1, 9, 10, -10, 99, 10 ** 17, MOST, -MOST, random.randint(-MOST, MOST)))
    if kind == 3:
        return "".join(random.choices(SIGNS + '""  ()-', k=random.randrange(8)))
    return tuple(some_data(random, depth + 1) for _ in range(random.randrange(4)))


def some_call(random):
    word = "".join(random.choices("abcxyz", k=random.randint(1, 12)))
    return (word,) + tuple(some_data(random) for _ in range(random.randrange(5)))


class LineCase(unittest.TestCase):
    def refuse(self, read, text, line):
        with self.assertRaises(Malformed) as caught:
            read(text)
        self.assertEqual(caught.exception.line, line, repr(text[:60]))
        self.assertIs(type(caught.exception).__base__, CrossError)


class Lines(LineCase):
    def test_the_most_signs_of_a_word(self):
        self.assertEqual(WORD_SIGNS, 12)

    def test_both_ways(self):
        for call, line in LINES:
            self.assertEqual(write_call(call), line)
            back = read_call(line)
            self.assertEqual(back, call)
            self.assertIs(type(back), tuple)

    def test_kinds_stay(self):
        self.assertEqual([type(data) for data in read_call('x 1 "1" (1) -')], [str, int, str, tuple, type(None)])

    def test_malformed(self):
        for line in BAD:
            self.refuse(read_call, line, 0)

    def test_each_character_in_texts_and_elsewhere(self):
        for code in list(range(256)) + [0x3b1, 0x2028, 0x1f600]:
            sign = chr(code)
            line = 'x "a' + sign + 'b"'
            if sign in SIGNS.replace('"', ""):
                self.assertEqual(read_call(line), ("x", "a" + sign + "b"))
            else:
                self.refuse(read_call, line, 0)
            if not "a" <= sign <= "z":
                self.refuse(read_call, "x" + sign, 0)
                self.refuse(read_call, sign + "x", 0)

    def test_depth(self):
        for depth in (1, 2, 39, 40):
            line = "x 1 " + "(" * depth + ")" * depth + " 2"
            self.assertEqual(read_call(line), ("x", 1, nested(depth), 2))
            self.assertEqual(write_call(("x", 1, nested(depth), 2)), line)
        for depth in (41, 42, 100, 50000):
            self.refuse(read_call, "x " + "(" * depth + ")" * depth, 0)
        self.assertEqual(read_call("x " + "(" * 40 + "1" + ")" * 40), ("x", nested(40, (1,))))
        many = (nested(39), nested(39), 5)
        self.assertEqual(read_call(write_call(("x", many, many))), ("x", many, many))

    def test_beyond_the_depth_writing_raises_nothing(self):
        self.assertEqual(write_call(("x", nested(41))), "x " + "(" * 41 + ")" * 41)

    def test_drawn_calls(self):
        random = Random(100)
        lines = {}
        for _ in range(3000):
            call = some_call(random)
            line = write_call(call)
            self.assertEqual(read_call(line), call)
            self.assertEqual(lines.setdefault(line, call), call)

    def test_what_is_not_refused_is_just_a_line(self):
        good = 0
        for length in range(1, 7):
            for signs in product('-0a" ()', repeat=length):
                line = "x " + "".join(signs)
                try:
                    call = read_call(line)
                except Malformed:
                    continue
                good += 1
                self.assertEqual(write_call(call), line)
        self.assertGreater(good, 200)

    def test_long_texts(self):
        call = ("x", '"' * 3000, "a" * 100000, tuple(range(3000)))
        self.assertEqual(read_call(write_call(call)), call)


class Scripts(LineCase):
    calls = [call for call, _ in LINES]
    text = "".join(line + "\n" for _, line in LINES)

    def test_both_ways(self):
        self.assertEqual(write_script(self.calls), self.text)
        self.assertEqual(read_script(self.text), self.calls)
        self.assertEqual(read_script('tick 11\nsend -5 ()\n'), [("tick", 11), ("send", -5, ())])

    def test_empty(self):
        self.assertEqual(write_script([]), "")
        self.assertEqual(read_script(""), [])

    def test_without_a_line_end_at_the_end(self):
        self.assertEqual(read_script(self.text[:-1]), self.calls)
        self.assertEqual(read_script("tick"), [("tick",)])
        self.refuse(read_script, "tick\ntick 00", 2)
        self.refuse(read_script, "tick\n ", 2)

    def test_the_number_of_the_first_line_that_is_malformed(self):
        self.refuse(read_script, "tick 11\ntick 011\n", 2)
        for line in BAD:
            if "\n" not in line:
                self.refuse(read_script, line + "\n", 1)
                self.refuse(read_script, self.text + line + "\n", len(LINES) + 1)
                self.refuse(read_script, "tick\n" + line + "\n" + line + "\ntick\n", 2)

    def test_empty_lines(self):
        self.refuse(read_script, "\n", 1)
        self.refuse(read_script, "\n\n", 1)
        self.refuse(read_script, "tick\n\n", 2)
        self.refuse(read_script, "tick\n\ntick\n", 2)
        self.refuse(read_script, "\ntick\n", 1)

    def test_other_line_ends(self):
        self.refuse(read_script, "tick\r\ntick\r\n", 1)
        self.refuse(read_script, "tick\rtick\n", 1)
        for sign in "\r\x0b\x0c\x1c\x1d\x1e\x85\u2028\u2029":
            self.refuse(read_script, "tick\nx 1" + sign + "tick\n", 2)
            self.refuse(read_script, 'tick\nx "a' + sign + 'b"\n', 2)

    def test_a_text_over_two_lines(self):
        self.refuse(read_script, 'tick\nx "a\nb"\n', 2)
        self.refuse(read_script, "tick\nx (1\n2)\n", 2)

    def test_drawn_schedules(self):
        random = Random(101)
        for _ in range(200):
            calls = [some_call(random) for _ in range(random.randrange(20))]
            script = write_script(calls)
            self.assertEqual(read_script(script), calls)
            self.assertEqual(script.count("\n"), len(calls))

    def test_lists_stay_and_are_new(self):
        calls = [("tick", 1), ("x", (1, 2))]
        write_script(calls)
        self.assertEqual(calls, [("tick", 1), ("x", (1, 2))])
        read_script("tick\n").clear()
        read_script("").append("x")
        self.assertEqual((read_script("tick\n"), read_script("")), ([("tick",)], []))


if __name__ == "__main__":
    unittest.main()
