"""Every example of the interface, as the document tells it."""

import unittest

import crosskeep.errors

# What is written as "raises X" raises this error of the package.
EXAMPLES = [
    r'''
>>> from crosskeep.data.store import Store
>>> store = Store({"a": 5})
>>> store.do(((("a", 5), ("b", None)), (("add", "a", -2), ("put", "b", "x"))))
('done', (3, None))
>>> store.do(((("a", 5), ("b", None)), (("del", "a"),)))
('unheld', (3, 'x'))

>>> from crosskeep.data.parts import join_parts, part_of, try_part
>>> deal = ((("a", 3),), (("del", "b"), ("add", "a", 1)))
>>> part_of(deal, ["a"])
(((0, 'a', 3),), ((1, ('add', 'a', 1)),))
>>> first = try_part({"a": 3}, part_of(deal, ["a"]))
>>> first
(1, ((0, 3),), ((1, 4),), (('a', 4),))
>>> second = try_part({"b": "x"}, part_of(deal, ["b"]))
>>> join_parts([second, first])
('done', ('x', 4))
''',
    r'''
>>> from crosskeep.packing.packs import pack, unpack
>>> pack(("put", 300, None))
[4, 3, 3, 3, 112, 117, 116, 1, 172, 2, 0]
>>> unpack([4, 1, 2, 0])
(-1,)
>>> unpack([1, 128, 0])
raises Malformed

>>> from crosskeep.packing.frames import checksum, frame, read_frames
>>> checksum([7])
265
>>> frame([7])
[1, 0, 9, 1, 0, 0, 7]
>>> read_frames([1, 0, 9, 1, 0, 0, 7, 1, 0, 9])
([[7]], 7)
''',
    r'''
>>> from crosskeep.journal.journal import Journal
>>> journal = Journal()
>>> journal.append([7])
>>> journal.sync()
>>> journal.append([8, 9])
>>> journal.append([])
>>> (journal.frame_count, journal.synced_frames, journal.octet_count, journal.synced_octets)
(3, 1, 21, 7)
>>> journal.crash(13)
>>> journal.payloads()
[[7], [8, 9]]
>>> journal.octet_count
15
''',
    r'''
>>> from crosskeep.bag.bag import Bag
>>> bag = Bag()
>>> bag.send(10, 11, ("ask", 1))
0
>>> bag.double(0)
1
>>> bag.cut(10, 11)
>>> bag.take(1)
raises LinkCut
>>> bag.heal(10, 11)
>>> bag.take(1)
(10, 11, ('ask', 1))
>>> bag.numbers()
[0]
''',
    r'''
>>> from crosskeep.voting.votes import choice_of, unlawful_ballot
>>> votes = [(0, (1, 0), "a"), (1, (2, 1), "b"), (2, (2, 1), "b")]
>>> choice_of((0, 1, 2), votes)
'b'
>>> unlawful_ballot((0, 1, 2), votes) is None
True
>>> unlawful_ballot((0, 1, 2), votes + [(1, (1, 0), "a")])
(2, 1)
''',
    r'''
>>> from crosskeep.keeper.keeper import Keeper
>>> keeper = Keeper(1, (("", 1), ("m", 2)))
>>> keeper.apply(("deal", 0, 1, ((), (("put", "a", 5),)), (("a", 1),)))
[('client', 0, ('answer', 1, ('done', (None,))))]
>>> keeper.key_rows()
[('a', 5)]
>>> letters = keeper.apply(("deal", 0, 2, ((("a", 5),), (("del", "a"), ("put", "z", 6))), (("a", 1), ("z", 2))))
>>> letters[0][:2], letters[0][2][0]
(('cell', 2), 'lock')
>>> keeper.lock_rows(), keeper.key_rows()
([('a', 0, 2)], [('a', 5)])
>>> other = Keeper(2, (("", 1), ("m", 2)))
>>> answer = other.apply(letters[0][2])
>>> answer[0][:2], answer[0][2][0]
(('cell', 1), 'locked')
>>> [letter[2][0] for letter in keeper.apply(answer[0][2])]
['answer', 'end']
>>> keeper.decided_rows()
[(0, 1, ('done', (None,))), (0, 2, ('done', (5, None)))]
>>> keeper.piece_rows()
[('', 'm', 'own', 1, 1), ('m', None, 'away', 1, 2)]
''',
    r'''
>>> from crosskeep.clients.beliefs import first_beliefs, learned
>>> learned(first_beliefs((("", 1), ("m", 2))), ("c", "p", 3, 2))
[('', 'c', 1, 1), ('c', 'm', 3, 2), ('m', 'p', 3, 2), ('p', None, 2, 1)]
''',
    r'''
>>> from crosskeep.world.world import World
>>> world = World((3, 1), ((0, 1, 2), (0,)), (("", 1), ("m", 2)), False)
>>> world.call(0, ((), (("put", "a", 5), ("put", "z", 6))), 0)
1
>>> world.calm(40)
>>> world.history.rows()[0][5]
('done', (None, None))
>>> world.perform(("give", 10, "", "c", 2))
1
>>> world.calm(40)
>>> world.stations[20].node.machine.key_rows()
[('a', 5), ('z', 6)]
''',
    r'''
>>> from crosskeep.judge.explain import fault_of
>>> from crosskeep.judge.search import find_order
>>> deal = ((), (("add", "a", 1),))
>>> history = [(0, 1, deal, 0, 3, ("done", (2,))), (1, 1, deal, 1, None, None)]
>>> find_order(history)
[(1, 1, ('done', (1,))), (0, 1, ('done', (2,)))]
>>> fault_of(history, [(0, 1, ("done", (2,)))])
('wrong', 0)
''',
    r'''
>>> from crosskeep.script.lines import read_script, write_call
>>> write_call(("deal", 3, (("a", None),), 'say "x"'))
'deal 3 (("a" -)) "say ""x"""'
>>> read_script('tick 11\nsend -5 ()\n')
[('tick', 11), ('send', -5, ())]
>>> read_script('tick 11\ntick 011\n')
raises Malformed
''',
    r'''
>>> from crosskeep.audit.audit import audit
>>> from crosskeep.world.world import World
>>> world = World((1, 1), ((0,), (0,)), (("", 1), ("m", 2)), False)
>>> world.call(0, ((), (("put", "a", 5), ("put", "z", 6))), 0)
1
>>> world.calm(40)
>>> audit(world.plan, [tally.votes for tally in world.onlooker.tallies], world.history.rows())
([(0, 1, ('done', (None, None)))], None)
''',
]


def statements_of(example):
    """The pairs of a statement and what it shows, or an empty text."""
    pairs = []
    for line in example.strip("\n").split("\n"):
        if line.startswith(">>> "):
            pairs.append([line[4:], ""])
        elif line:
            pairs[-1][1] += line
    return pairs


def shown_by(statement, names):
    """What a statement shows: nothing, the value of an expression, or the error that it raises."""
    try:
        code = compile(statement, "example", "eval")
    except SyntaxError:
        exec(statement, names)
        return ""
    try:
        value = eval(code, names)
    except crosskeep.errors.CrossError as error:
        return "raises " + type(error).__name__
    return "" if value is None else repr(value)


class Examples(unittest.TestCase):
    def test_each(self):
        count = 0
        for example in EXAMPLES:
            names = {}
            for statement, shown in statements_of(example):
                self.assertEqual(shown_by(statement, names), shown, statement)
                count += shown != ""
        self.assertGreater(count, 40)


if __name__ == "__main__":
    unittest.main()
