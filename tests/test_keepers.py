"""Points [7] to [9] and [75]: what is guaranteed of the keepers of several cells, whatever becomes of their letters."""

import unittest
from collections import Counter
from random import Random

from keepers import gets
from realm import KEYS, Realm

WEIGHTS = {"deliver": 30, "drop": 1, "ask": 6, "again": 1, "give": 1, "orders": 3}


class AnyRowOfCommands(unittest.TestCase):
    def run_realms(self, seed, count, steps, weights):
        random = Random(seed)
        for _ in range(count):
            realm = Realm(random, random.randint(1, 4))
            for _ in range(random.randrange(steps)):
                realm.step({**weights, "drop": random.choice((0, 1, 8))})
            yield realm

    def test_step_by_step(self):
        random = Random(75)
        for _ in range(40):
            realm = Realm(random, random.randint(2, 4))
            for _ in range(200):
                realm.step(WEIGHTS)
                self.assertIsNone(realm.fault())

    def test_decided_deals_are_those_of_a_plain_store(self):
        told = Counter()
        for realm in self.run_realms(7, 60, 900, WEIGHTS):
            self.assertIsNone(realm.fault())
            told.update(row[5][0] for row in realm.history.rows() if row[5] is not None)
            told.update("several " + realm.decided[name][0] for name in realm.wide if name in realm.decided)
            told["taken"] += sum(keeper.took(mover) for keeper in realm.keepers.values()
                                 for mover in range(realm.movers + 1))
        for word in ("done", "unheld", "busy", "moved", "several done", "several unheld", "taken"):
            self.assertGreater(told[word], 20, told)

    def test_ranges_that_move_all_the_time(self):
        for realm in self.run_realms(8, 40, 700, {**WEIGHTS, "give": 8}):
            self.assertIsNone(realm.fault())

    def test_letters_that_come_again_and_again(self):
        for realm in self.run_realms(9, 40, 700, {**WEIGHTS, "deliver": 60, "orders": 12}):
            self.assertIsNone(realm.fault())


class Calm(unittest.TestCase):
    def calm_realm(self, random):
        realm = Realm(random, random.randint(1, 4))
        for _ in range(random.randrange(400)):
            realm.step({**WEIGHTS, "give": 3, "drop": 4})
        for _ in range(12):
            realm.kind_round()
        return realm

    def test_nothing_hangs(self):
        random = Random(98)
        for _ in range(50):
            realm = self.calm_realm(random)
            self.assertEqual(realm.unrest(), [])
            self.assertIsNone(realm.fault())
            self.assertTrue(all(row[5] is not None for row in realm.history.rows()))

    def test_clients_learn_where_the_keys_are(self):
        random = Random(76)
        moved = 0
        for _ in range(40):
            realm = self.calm_realm(random)
            for keys in (KEYS[:4], KEYS[4:]):
                answer = ("moved",)
                tries = 0
                while answer[0] == "moved":
                    realm.begin(0, gets(*keys))
                    for _ in range(6):
                        realm.kind_round()
                    answer = realm.history.rows()[-1][5]
                    tries += 1
                    self.assertLess(tries, 40)
                self.assertEqual(answer, ("done", tuple(realm.store.rows.get(key) for key in keys)))
                moved += tries - 1
            self.assertIsNone(realm.fault())
        self.assertGreater(moved, 10)


if __name__ == "__main__":
    unittest.main()
