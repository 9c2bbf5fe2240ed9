"""Points [1], [2], [6] to [11], [94], [102] and [111]: what the whole guarantees, and the order of its parts."""

import ast
import unittest
from collections import Counter
from pathlib import Path
from random import Random

import crosskeep
from crosskeep.audit.audit import audit
from crosskeep.judge.explain import fault_of
from crosskeep.judge.replay import replay_of
from crosskeep.judge.search import find_order
from crosskeep.script.lines import read_script, write_script
from crosskeep.script.runs import run, shorten
from crosskeep.voting.votes import are_grounds, grounds_of
from crosskeep.world.world import World
from keepers import dump
from worlds import MOVING, ROUGH, TWO_CELLS, WEIGHTS, Walk, puts, unrest_of

PACKAGE = Path(crosskeep.__file__).parent
PARTS = (
    "data", "packing", "journal", "bag", "voting", "ledger", "keeper", "clients", "world", "judge", "script", "audit",
)


def audit_of(world):
    return audit(world.plan, [tally.votes for tally in world.onlooker.tallies], world.history.rows())


class Parts(unittest.TestCase):
    def test_each_part_builds_only_on_those_ahead_of_it(self):
        for path in PACKAGE.rglob("*.py"):
            part = path.parent.name if path.parent != PACKAGE else path.stem
            for node in ast.walk(ast.parse(path.read_text(encoding="utf-8"))):
                if isinstance(node, ast.ImportFrom) and node.module.startswith("crosskeep."):
                    other = node.module.split(".")[1]
                    if other != "errors":
                        self.assertLessEqual(PARTS.index(other), PARTS.index(part), path)

    def test_no_two_files_import_from_each_other(self):
        imports = {}
        for path in PACKAGE.rglob("*.py"):
            name = ".".join(("crosskeep",) + path.relative_to(PACKAGE).with_suffix("").parts)
            tree = ast.parse(path.read_text(encoding="utf-8"))
            imports[name] = [node.module for node in ast.walk(tree) if isinstance(node, ast.ImportFrom)
                             and node.module.startswith("crosskeep.")]
        done = set()
        while len(done) < len(imports):
            free = [name for name in imports if name not in done and set(imports[name]) <= done]
            self.assertTrue(free, sorted(set(imports) - done))
            done.update(free)


class AnyRowOfCalls(unittest.TestCase):
    def walks(self, seed, count, steps, weights):
        for place in range(count):
            walk = Walk(Random(seed + place), kind=place % 2 > 0)
            for _ in range(steps):
                walk.step(weights[place % len(weights)])
            yield walk

    def test_audits(self):
        told = Counter()
        for walk in self.walks(100, 120, 500, (WEIGHTS, ROUGH, MOVING)):
            history = walk.world.history.rows()
            order, fault = audit_of(walk.world)
            self.assertIsNone(fault)
            self.assertIsNone(fault_of(history, order))
            replay = replay_of(walk.world)
            self.assertEqual(sorted(order), sorted(replay.order))
            told["same"] += order == replay.order
            told["other"] += order != replay.order
            told["deals"] += len(order)
        self.assertTrue(told["deals"] > 300 and told["same"] > 20 and told["other"] > 5, told)

    def test_audits_behind_each_step(self):
        for seed, weights in enumerate((WEIGHTS, ROUGH, MOVING) * 2):
            walk = Walk(Random(seed), kind=False)
            for _ in range(250):
                walk.step(weights)
                self.assertIsNone(audit_of(walk.world)[1])

    def test_audits_change_nothing(self):
        for walk in self.walks(200, 5, 300, (MOVING,)):
            before = dump(walk.world)
            audit_of(walk.world)
            replay_of(walk.world)
            self.assertEqual(dump(walk.world), before)

    def test_grounds_of_all_that_is_chosen(self):
        chosen = 0
        for walk in self.walks(300, 40, 500, (WEIGHTS, MOVING)):
            for tally in walk.world.onlooker.tallies:
                for slot, entry in enumerate(tally.row, 1):
                    members, votes = tally.members_of(slot), tally.votes_of(slot)
                    grounds = grounds_of(members, votes)
                    self.assertEqual(grounds[1], entry)
                    self.assertIs(are_grounds(members, votes, grounds), True)
                    chosen += 1
        self.assertGreater(chosen, 200)

    def test_the_judges_own_order(self):
        searched = 0
        for seed in range(60):
            walk = Walk(Random(400 + seed), kind=False)
            for _ in range(300):
                few = len(walk.world.history.rows()) < 8
                walk.step((WEIGHTS, ROUGH, MOVING)[seed % 3] if few else {"calm": 1, "deliver": 1, "restart": 1})
            history = walk.world.history.rows()
            order = find_order(history)
            self.assertIsNotNone(order)
            self.assertIsNone(fault_of(history, order))
            searched += len(order) > 2
        self.assertGreater(searched, 20)

    def test_scripts(self):
        for walk in self.walks(500, 30, 300, (WEIGHTS, ROUGH, MOVING)):
            script = write_script(walk.calls)
            calls = read_script(script)
            self.assertEqual(calls, walk.calls)
            self.assertEqual(write_script(calls), script)
            world = World(*walk.plan)
            self.assertEqual(run(world, calls), walk.outcomes)
            self.assertEqual(dump(world), dump(walk.world))

    def test_the_order_only_grows(self):
        for walk in self.walks(600, 20, 100, (MOVING,)):
            order = replay_of(walk.world).order
            for _ in range(10):
                for _ in range(20):
                    walk.step(WEIGHTS)
                longer = replay_of(walk.world).order
                self.assertEqual(longer[:len(order)], order)
                order = longer


class Long(unittest.TestCase):
    def test_a_world_with_many_calls_and_keys(self):
        random = Random(11)
        walk = Walk(random, plan=((5, 3, 4), ((0, 1, 2), (0, 2), (1, 2, 3)), (("", 1), ("g", 2), ("p", 3)), False))
        keys = [letter + str(number) for letter in "adhmqz" for number in range(80)]
        for step in range(1500):
            walk.step({"deliver": 6, "crash": 0.2, "restart": 0.6, "give": 0.1, "drop": 0.2})
            deal = ((), tuple(("add", key, 1) for key in random.sample(keys, random.randint(1, 6))))
            walk.perform(("call", random.randrange(4), deal, step))
            walk.perform(("calm", 3))
        walk.turn_kind()
        walk.perform(("calm", 400))
        self.assertIsNone(unrest_of(walk.world))
        self.assertIsNone(walk.fault())
        self.assertIsNone(audit_of(walk.world)[1])
        self.assertGreater(len(walk.order), 300)
        self.assertGreater(len(walk.calls), 4000)

    def test_a_failing_schedule_is_shortened(self):
        walk = Walk(Random(5), plan=TWO_CELLS)
        for _ in range(40):
            walk.step({"deliver": 5, "tick": 3, "call": 2, "again": 2, "double": 1})
        walk.perform(("calm", 60))
        walk.perform(("call", 0, puts(("a", 1), ("z", 2)), 0))
        walk.perform(("calm", 60))

        def fails(calls):
            world = World(*TWO_CELLS)
            run(world, calls)
            order = replay_of(world).order
            return any(len(world.history.rows()[place][2][1]) > 1 for place in range(len(world.history.rows()))
                       if world.history.rows()[place][:2] in [entry[:2] for entry in order])

        self.assertTrue(fails(walk.calls))
        short = shorten(walk.calls, fails)
        self.assertTrue(fails(short))
        self.assertLessEqual(len(short), 12)
        for place in range(len(short)):
            self.assertFalse(fails(short[:place] + short[place + 1:]))


if __name__ == "__main__":
    unittest.main()
