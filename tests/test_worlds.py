"""Points [7] to [10], [53] to [55], [79] and [95] to [98]: what is guaranteed of worlds, whatever their calls."""

import unittest
from collections import Counter
from random import Random

from crosskeep.voting.votes import unlawful_ballot
from crosskeep.world.world import World
from cells import is_beginning, was_synced
from keepers import dump
from worlds import MOVING, ROUGH, WEIGHTS, Walk, puts, some_plan, things_of, unrest_of


def fault_of_cells(world):
    """The first of the points [53] and [54] that does not hold, or None."""
    machines = {}
    for endpoint, station in world.stations.items():
        node, tally = station.node, world.onlooker.tallies[station.cell - 1]
        if not is_beginning(node.record.row, tally.row) or node.upto > len(tally.row):
            return ("row", endpoint)
        if node.state == "up":
            told = machines.setdefault((station.cell, node.upto), dump(node.machine))
            if told != dump(node.machine):
                return ("machine", endpoint)
    for cell, tally in enumerate(world.onlooker.tallies, 1):
        for slot in range(1, len(tally.row) + 2):
            if unlawful_ballot(tally.members_of(slot), tally.votes_of(slot)) is not None:
                return ("unlawful", cell, slot)
    return None


class AnyRowOfCalls(unittest.TestCase):
    def check(self, walk, where):
        self.assertIsNone(walk.fault(), where)
        self.assertIsNone(fault_of_cells(walk.world), where)
        names = [entry[:2] for entry in walk.order]
        self.assertEqual(len(names), len(set(names)), where)

    def test_behind_each_step(self):
        for seed, weights in enumerate((WEIGHTS, ROUGH, MOVING) * 4):
            walk = Walk(Random(seed), kind=False)
            for step in range(250):
                walk.step(weights)
                self.check(walk, (seed, step))

    def test_many_worlds(self):
        told = Counter()
        for seed in range(90):
            walk = Walk(Random(1000 + seed), kind=seed % 5 > 0)
            for step in range(500):
                walk.step((WEIGHTS, ROUGH, MOVING)[seed % 3])
                if step % 25 == 0:
                    self.check(walk, (seed, step))
            self.check(walk, seed)
            told.update(row[5][0] for row in walk.world.history.rows() if row[5] is not None)
            told.update(call[0] for call, (done, _) in zip(walk.calls, walk.outcomes) if done)
            told.update(walk.errors)
            told["lazy"] += walk.plan[3]
            told["wide"] += sum(len(station.node.machine.home_rows()) > 0 for station in walk.world.stations.values())
            told["taken"] += sum(command[0] == "taken" for _, command in walk.world.onlooker.commands())
            told["members chosen"] += sum(entry[0] == "members" for _, entry in walk.world.onlooker.chosen)
        for word in ("done", "unheld", "busy", "moved", "wipe", "crash", "restart", "members", "give", "cut", "double",
                     "drop", "lazy", "wide", "taken", "members chosen", "NodeGone", "NodeDown", "LinkCut", "CallOpen"):
            self.assertGreater(told[word], 8, told)

    def test_what_messages_tell_was_synced(self):
        for seed in range(30):
            walk = Walk(Random(2000 + seed), kind=False)
            seen = 0
            for step in range(300):
                walk.step(ROUGH)
                for number in walk.world.bag.numbers():
                    sender, _, body = walk.world.bag.message(number)
                    # A message of a node that is gone may be doubled.
                    if number >= seen and sender >= 10 and walk.world.stations[sender].node.state != "gone":
                        self.assertTrue(was_synced(walk.world.stations[sender].node, body), (seed, step, body))
                seen = max([seen] + [number + 1 for number in walk.world.bag.numbers()])

    def test_rows_behind_restarts(self):
        restarts = 0
        for seed in range(40):
            walk = Walk(Random(3000 + seed), kind=False)
            for _ in range(300):
                call = walk.some_call({**ROUGH, "crash": 8})
                if call is None:
                    continue
                if call[0] != "crash" or walk.world.stations[call[1]].node.state != "up":
                    walk.perform(call)
                    continue
                node = walk.world.stations[call[1]].node
                payloads, synced, row = node.journal.payloads(), node.journal.synced_frames, list(node.record.row)
                walk.perform(call)
                kept = node.journal.payloads()
                self.assertTrue(synced <= len(kept) and kept == payloads[:len(kept)])
                self.assertEqual(node.record.row, row[:node.upto])
                walk.perform(("restart", call[1]))
                self.assertEqual(node.record.row, row[:node.upto])
                restarts += 1
        self.assertGreater(restarts, 200)

    def test_refused_calls_change_nothing(self):
        refused = Counter()
        for seed in range(12):
            walk = Walk(Random(4000 + seed), kind=False)
            for _ in range(200):
                call = walk.some_call({**ROUGH, "wipe": 1, "cut": 2})
                if call is None:
                    continue
                # Half of the calls are bent, so that they are refused in many ways.
                if walk.random.random() < 0.4:
                    call = self.bent(walk.random, call)
                before = dump(walk.world)
                walk.perform(call)
                if not walk.outcomes[-1][0]:
                    self.assertEqual(dump(walk.world), before, call)
                    refused[walk.errors[-1]] += 1
        for word in ("OutOfRange", "NoMessage", "LinkCut", "NoNode", "NodeDown", "NodeUp", "NodeGone", "NoClient",
                     "CallOpen", "NoCall", "NotDeal"):
            self.assertGreater(refused[word], 0, refused)

    def bent(self, random, call):
        word = call[0]
        if word == "call" and random.random() < 0.5:
            return call[:2] + (((), ()),) + call[3:]
        place = random.randrange(1, len(call))
        return call[:place] + (random.choice((401, 10 ** 7, 11, 2, 0)),) + call[place + 1:]


class TurningKind(unittest.TestCase):
    def test_everything_comes_to_rest_in_time(self):
        things = rounds = 0
        for seed in range(80):
            walk = Walk(Random(5000 + seed))
            for _ in range(400):
                walk.step((WEIGHTS, ROUGH, MOVING)[seed % 3])
            walk.turn_kind()
            many = things_of(walk.world)
            count = 0
            while unrest_of(walk.world) is not None and count < 1500 + 100 * many:
                walk.perform(("calm", 10))
                count += 10
            self.assertIsNone(unrest_of(walk.world), seed)
            self.assertTrue(all(row[5] is not None for row in walk.world.history.rows()))
            self.assertIsNone(walk.fault(), seed)
            things, rounds = things + many, rounds + count
        self.assertGreater(things, 2000)
        self.assertGreater(rounds, 1000)

    def test_and_stays_so(self):
        for seed in range(6):
            walk = Walk(Random(6000 + seed))
            for _ in range(300):
                walk.step(WEIGHTS)
            walk.turn_kind()
            left = 1500 + 100 * things_of(walk.world)
            while left > 0:
                walk.perform(("calm", min(left, 400)))
                left -= 400
            self.assertIsNone(unrest_of(walk.world), seed)
            chosen = len(walk.world.onlooker.chosen)
            walk.perform(("calm", 60))
            self.assertIsNone(unrest_of(walk.world), seed)
            self.assertEqual(len(walk.world.onlooker.chosen), chosen)
            self.assertIsNone(walk.fault(), seed)

    def test_it_goes_on(self):
        for seed in range(20):
            walk = Walk(Random(7000 + seed))
            for _ in range(200):
                walk.step(WEIGHTS)
            walk.turn_kind()
            walk.perform(("calm", 200))
            self.assertIsNone(unrest_of(walk.world), seed)
            answer = ("moved",)
            tries = 0
            while answer[0] == "moved" and tries < 20:
                walk.perform(("call", 3, puts(("a", 1), ("k", 2), ("z", 3)), tries))
                walk.perform(("calm", 60))
                answer = walk.world.history.rows()[-1][5]
                tries += 1
            self.assertEqual(answer[0], "done", seed)
            self.assertIsNone(walk.fault())


class Alike(unittest.TestCase):
    def test_the_same_calls_do_the_same(self):
        for seed in range(10):
            walk = Walk(Random(8000 + seed), kind=False)
            for _ in range(250):
                walk.step(ROUGH)
            again = Walk(Random(0), plan=walk.plan)
            for call in walk.calls:
                again.perform(call)
            self.assertEqual((again.outcomes, again.errors), (walk.outcomes, walk.errors))
            self.assertEqual(dump(again.world), dump(walk.world))

    def test_worlds_are_apart(self):
        plan = some_plan(Random(1))
        first, second = World(*plan), World(*plan)
        before = dump(second)
        first.call(0, puts(("a", 1)), 0)
        first.calm(20)
        first.give(10, ("", None), 2)
        self.assertEqual(dump(second), before)

    def test_histories(self):
        for seed in range(20):
            walk = Walk(Random(9000 + seed), kind=False)
            for _ in range(300):
                walk.step(WEIGHTS)
            rows = walk.world.history.rows()
            self.assertEqual([row[3] for row in rows], sorted(row[3] for row in rows))
            events = sorted([row[3] for row in rows] + [row[4] for row in rows if row[4] is not None])
            self.assertEqual(events, list(range(walk.world.history.events)))
            for row in rows:
                self.assertEqual(row[4] is None, row[5] is None)
                self.assertTrue(row[4] is None or row[3] < row[4])
            for client in range(4):
                mine = [row for row in rows if row[0] == client]
                self.assertEqual([row[1] for row in mine], list(range(1, len(mine) + 1)))
                self.assertTrue(all(row[4] is not None for row in mine[:-1]))
                self.assertEqual(walk.world.clients[client].call is not None, bool(mine) and mine[-1][4] is None)


if __name__ == "__main__":
    unittest.main()
