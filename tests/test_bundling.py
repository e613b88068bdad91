import random
import unittest
from itertools import permutations

from linkneed.bundling import bundle
from linkneed.compiling import compile_unit
from linkneed.rowkinds import is_object
from tests.checks import refusal, unusable
from tests.samples import A, B, MAIN, ODD_VALUES, RING, TWICE
from tests.unitsamples import bound_units

USE = ("twice", ("word",), "word")
OPT = ((), ("word",))


def named(title, gives="word"):
    return (title, (), gives, 2, ((("back",),),))


class BundlingTest(unittest.TestCase):
    def test_units(self):
        self.assertEqual(bundle((compile_unit(TWICE, ()), compile_unit(MAIN, ()))), ((), (B, A)))
        self.assertEqual(bundle((((USE,), (B,)), ((), (A,)))), ((), (B, A)))

    def test_few_objects(self):
        self.assertEqual(bundle(()), ((), ()))
        self.assertEqual(bundle((((USE,), (B,)),)), ((USE,), (B,)))
        self.assertEqual(bundle((((), ()), ((USE,), ()))), ((USE,), ()))

    def test_uses_once_and_ascending(self):
        one = (("f", (), OPT), ("h", (), "word"))
        other = (("a", (), "word"), ("h", (), "word"), ("m", ("word",), "word"))
        self.assertEqual(bundle(((one, ()), (other, (named("z"),)), (one, (named("b"),)))), (
            (other[0], one[0], one[1], other[2]), (named("b"), named("z"))))

    def test_twice(self):
        self.assertEqual(refusal(bundle, (((), (A,)), ((), (A,)))), ("Twice", {"title": "twice"}))
        first = ((), (named("b"), named("d")))
        other = ((), (named("b", OPT), named("c"), named("d")))
        self.assertEqual(refusal(bundle, (first, other)), ("Twice", {"title": "b"}))
        self.assertEqual(refusal(bundle, (((), (named("z"),)), first, ((), (named("z"), )), ((), (named("d"),)))),
                         ("Twice", {"title": "d"}))

    def test_twice_comes_ahead_of_unlike(self):
        objects = (((("a", (), OPT),), (named("z"),)), ((), (named("a"), named("z"))))
        self.assertEqual(refusal(bundle, objects), ("Twice", {"title": "z"}))

    def test_unlike(self):
        for one, other in (((("a", (), OPT),), (("a", (), "word"),)), ((("a", ("word",), OPT),), (("a", (), OPT),))):
            self.assertEqual(refusal(bundle, ((one, ()), (other, ()))), ("Unlike", {"title": "a"}))
        self.assertEqual(refusal(bundle, (((("a", (), OPT),), ()), ((), (named("a"),)))), ("Unlike", {"title": "a"}))
        self.assertEqual(refusal(bundle, (((), (named("a"),)), ((("a", (), (("word",),)),), ()))), ("Unlike", {"title": "a"}))

    def test_the_least_unlike(self):
        objects = (((("c", (), OPT), ("d", (), OPT)), ()), ((("b", (), OPT), ("d", (), "word")), ()),
                   ((("c", (), "word"),), (named("e"),)), ((("e", (), OPT),), ()))
        for order in permutations(objects):
            self.assertEqual(refusal(bundle, order), ("Unlike", {"title": "c"}))

    def test_equal_by_words_is_not_enough(self):
        self.assertEqual(refusal(bundle, (((("f", ("word",), "word"),), ()), ((("f", ((("word",),),), "word"),), ()))),
                         ("Unlike", {"title": "f"}))

    def test_any_order_and_grouping(self):
        source = random.Random(3)
        for units in bound_units(30, seed=43):
            objects = [compile_unit(unit, ("fold", "drop")) for unit in units]
            whole = bundle(tuple(objects))
            self.assertIs(is_object(whole), True)
            for _ in range(4):
                parts = list(objects)
                source.shuffle(parts)
                while len(parts) > 1:
                    many = source.randrange(1, len(parts) + 1)
                    parts = parts[many:] + [bundle(tuple(parts[:many]))]
                self.assertEqual(parts[0], whole)

    def test_refusals(self):
        for thing in [thing for thing in ODD_VALUES if thing != ()] + [
                [((), ())], (((), (B,)),), (((), ()), None), ((), ()), (((), (A,)), ((), (B, A)), 0)]:
            self.assertEqual(refusal(bundle, thing), unusable("objects"))

    def test_by_name(self):
        self.assertEqual(bundle(objects=(((), (RING,)),)), ((), (RING,)))


if __name__ == "__main__":
    unittest.main()
