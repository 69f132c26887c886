"""Over the whole, point 4: houses with machines in rings, whose letters are lost, late, twice, cut, against a plain house."""

import random
import unittest

from tests.worlds import World


class Drawn(unittest.TestCase):
    def test_worlds(self):
        told, came, left = {}, 0, 0
        for seed in range(100):
            world = World(self, random.Random(seed))
            for time in range(world.draw.choice((40, 120, 240))):
                world.deed()
                if time % 10 == 0:
                    world.look_closely()
            world.look_closely()
            for kind, many in world.told.items():
                told[kind] = told.get(kind, 0) + many
            for time in range(2):
                come, others = world.all_come()
                came += come
                left += others
        for kind in ("charter", "list", "items", "permit"):
            self.assertGreater(told[kind], 40, told)
        self.assertGreater(came, 100)
        self.assertGreater(left, 20)
