"""Long rows of calls of all kinds, done with a manager and with a second one that is made for tests."""

import unittest

from chances import Chance
from keyfocus.outlines import write_outline
from managers import ManagerCase, Watched, outcome, state
from model import Model
from trees import random_tree


class WholeManagerTest(ManagerCase):
    def test_many_calls(self):
        for seed in range(60):
            outline = write_outline(random_tree(seed, 4 + seed % 14, 0.1))
            with self.subTest(seed=seed):
                self.compare(Watched(self, outline), Model(outline), Chance(seed))

    def compare(self, watched, model, chance):
        self.assertEqual(state(model), state(watched.manager))
        for _ in range(60):
            word, arguments = chance.call(watched.manager)
            expected = outcome(getattr(model, word), *arguments)
            self.assertEqual(expected, outcome(getattr(watched, word), *arguments), (word, arguments))
            self.assertEqual(state(model), state(watched.manager), (word, arguments))


if __name__ == "__main__":
    unittest.main()
