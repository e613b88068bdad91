import random
import unittest
from itertools import combinations

from linkneed.layouts import holds_long, long_jumps
from tests.checks import refusal, same_kind, unusable
from tests.samples import ODD_VALUES


def told_holds(things, low, high, chosen):
    lengths = [thing if isinstance(thing, int) else 2 if at in chosen else 1 for at, thing in enumerate(things)]
    addresses = [sum(lengths[:at]) for at in range(len(things) + 1)]
    return all(low <= addresses[thing[1]] - addresses[at] <= high for at, thing in enumerate(things)
               if isinstance(thing, tuple) and at not in chosen)


def jumps_of(things):
    return [at for at, thing in enumerate(things) if isinstance(thing, tuple)]


def some_things(source, most, farthest):
    many = source.randrange(most + 1)
    return tuple(("jump", source.randrange(many + 1)) if source.random() < 0.6 else source.randrange(farthest) for _ in range(many))


class LayoutsTest(unittest.TestCase):
    def test_example(self):
        self.assertEqual(long_jumps((("jump", 2), 7, ("jump", 0), 1), -8, 7), (0, 2))

    def test_edges(self):
        self.assertEqual(long_jumps((), 0, 0), ())
        # A jump to itself goes nowhere; one to behind all is allowed.
        self.assertEqual(long_jumps((("jump", 0), ("jump", 2)), 0, 0), (1,))
        self.assertEqual(long_jumps((("jump", 2), 6), -8, 7), ())
        self.assertEqual(long_jumps((("jump", 2), 7), -8, 7), (0,))
        self.assertEqual(long_jumps((8, ("jump", 0)), -8, 7), ())
        self.assertEqual(long_jumps((9, ("jump", 0)), -8, 7), (1,))
        self.assertEqual(long_jumps((0, 0, ("jump", 0)), 0, 0), ())

    def test_one_long_jump_makes_another_one_long(self):
        self.assertEqual(long_jumps((("jump", 3), 5, ("jump", 5), 6, 0), -8, 7), ())
        self.assertEqual(long_jumps((("jump", 3), 5, ("jump", 5), 6, 1), -8, 7), (0, 2))
        self.assertEqual(long_jumps((("jump", 3), 4, ("jump", 5), 6, 1), -8, 7), (2,))
        self.assertEqual(long_jumps((0, ("jump", 4), ("jump", 0), 5, ("jump", 1), 1), -8, 7), ())
        self.assertEqual(long_jumps((1, ("jump", 4), ("jump", 0), 6, ("jump", 1), 1), -8, 7), (1, 4))

    def test_all_choices(self):
        source = random.Random(18)
        for _ in range(150):
            things = some_things(source, 8, 5)
            low, high = -source.randrange(7), source.randrange(7)
            jumps = jumps_of(things)
            holding = [some for many in range(len(jumps) + 1) for some in combinations(jumps, many)
                       if told_holds(things, low, high, some)]
            for many in range(len(jumps) + 1):
                for some in combinations(jumps, many):
                    self.assertIs(holds_long(things, low, high, some), some in holding)
            least = long_jumps(things, low, high)
            self.assertIn(least, holding)
            self.assertTrue(all(set(least) <= set(some) for some in holding))

    def test_large_ones(self):
        source = random.Random(19)
        for _ in range(10):
            things = some_things(source, 600, 4)
            least = long_jumps(things, -30, 31)
            self.assertTrue(same_kind(least, tuple(sorted(least))))
            self.assertTrue(told_holds(things, -30, 31, least))
            self.assertIs(holds_long(things, -30, 31, least), True)
            for at in least:
                self.assertIs(holds_long(things, -30, 31, tuple(one for one in least if one != at)), False)
        things = (("jump", 600),) * 600
        self.assertEqual(long_jumps(things, -8, 7), tuple(range(593)))

    def test_refusals(self):
        for thing in [thing for thing in ODD_VALUES if thing not in ((), (0,))] + [
                (-1,), (True,), (("jump", 2),), (("jump", -1),), (("jump", True),), (("jump",),), (["jump", 0],), (("jump", 0, 0),),
                (("jumps", 0),), [("jump", 0)], (1, None), ((0, 0),)]:
            self.assertEqual(refusal(long_jumps, thing, 1, -1), unusable("things"))
            self.assertEqual(refusal(holds_long, thing, 1, -1, None), unusable("things"))
        for thing in [thing for thing in ODD_VALUES if thing not in (0, -1, -7, -10 ** 59) or thing is False] + [1]:
            self.assertEqual(refusal(long_jumps, (1,), thing, -1), unusable("low"))
            self.assertEqual(refusal(holds_long, (1,), thing, -1, None), unusable("low"))
        for thing in [thing for thing in ODD_VALUES if thing not in (0, 1, 10 ** 59) or isinstance(thing, bool)]:
            self.assertEqual(refusal(long_jumps, (1,), 0, thing), unusable("high"))
            self.assertEqual(refusal(holds_long, (1,), 0, thing, None), unusable("high"))
        for thing in [thing for thing in ODD_VALUES if thing != ()] + [(1,), (0, 0), (2, 0), [0], (3,), (False,), (0, 9), ("0",)]:
            if thing != (0,):
                self.assertEqual(refusal(holds_long, (("jump", 2), 3, ("jump", 2)), 0, 9, thing), unusable("chosen"))
        self.assertIs(holds_long((("jump", 2), 3, ("jump", 2)), 0, 9, (0,)), True)

    def test_by_name(self):
        self.assertEqual(long_jumps(high=7, low=-8, things=(("jump", 2), 7, ("jump", 0), 1)), (0, 2))
        self.assertIs(holds_long(chosen=(0,), high=7, low=-8, things=(("jump", 2), 7, ("jump", 0), 1)), False)


if __name__ == "__main__":
    unittest.main()
