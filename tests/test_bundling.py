import random
import unittest
from itertools import permutations

from linkneed.bundling import bundle
from linkneed.compiling import compile_unit
from linkneed.errors import LinkError
from linkneed.rowkinds import is_object
from tests.checks import refusal, unusable
from tests.samples import A, B, MAIN, ODD_VALUES, RING, TWICE
from tests.unitsamples import bound_units

USE = ("twice", ("word",), "word")
OPT = ((), ("word",))


def named(title, gives="word"):
    return (title, (), gives, 2, ((("back",),),))


class BundlingTest(unittest.TestCase):
    def test_units(self):
        self.assertEqual(bundle((compile_unit(TWICE, ()), compile_unit(MAIN, ()))), ((), (B, A)))
        self.assertEqual(bundle((((USE,), (B,)), ((), (A,)))), ((), (B, A)))

    def test_few_objects(self):
        self.assertEqual(bundle(()), ((), ()))
        self.assertEqual(bundle((((USE,), (B,)),)), ((USE,), (B,)))
        self.assertEqual(bundle((((), ()), ((USE,), ()))), ((USE,), ()))

    def test_uses_once_and_ascending(self):
        one = (("f", (), OPT), ("h", (), "word"))
        other = (("a", (), "word"), ("h", (), "word"), ("m", ("word",), "word"))
        self.assertEqual(bundle(((one, ()), (other, (named("z"),)), (one, (named("b"),)))), (
            (other[0], one[0], one[1], other[2]), (named("b"), named("z"))))

    def test_twice(self):
        self.assertEqual(refusal(bundle, (((), (A,)), ((), (A,)))), ("Twice", {"title": "twice"}))
        first = ((), (named("b"), named("d")))
        other = ((), (named("b", OPT), named("c"), named("d")))
        self.assertEqual(refusal(bundle, (first, other)), ("Twice", {"title": "b"}))
        self.assertEqual(refusal(bundle, (((), (named("z"),)), first, ((), (named("z"), )), ((), (named("d"),)))),
                         ("Twice", {"title": "d"}))

    def test_twice_comes_ahead_of_unlike(self):
        objects = (((("a", (), OPT),), (named("z"),)), ((), (named("a"), named("z"))))
        self.assertEqual(refusal(bundle, objects), ("Twice", {"title": "z"}))

    def test_unlike(self):
        for one, other in (((("a", (), OPT),), (("a", (), "word"),)), ((("a", ("word",), OPT),), (("a", (), OPT),))):
            self.assertEqual(refusal(bundle, ((one, ()), (other, ()))), ("Unlike", {"title": "a"}))
        self.assertEqual(refusal(bundle, (((("a", (), OPT),), ()), ((), (named("a"),)))), ("Unlike", {"title": "a"}))
        self.assertEqual(refusal(bundle, (((), (named("a"),)), ((("a", (), (("word",),)),), ()))), ("Unlike", {"title": "a"}))

    def test_the_least_unlike(self):
        objects = (((("c", (), OPT), ("d", (), OPT)), ()), ((("b", (), OPT), ("d", (), "word")), ()),
                   ((("c", (), "word"),), (named("e"),)), ((("e", (), OPT),), ()))
        for order in permutations(objects):
            self.assertEqual(refusal(bundle, order), ("Unlike", {"title": "c"}))

    def test_equal_by_words_is_not_enough(self):
        self.assertEqual(refusal(bundle, (((("f", ("word",), "word"),), ()), ((("f", ((("word",),),), "word"),), ()))),
                         ("Unlike", {"title": "f"}))

    def test_any_order_and_grouping(self):
        source = random.Random(3)
        for units in bound_units(30, seed=43):
            objects = [compile_unit(unit, ("fold", "drop")) for unit in units]
            whole = bundle(tuple(objects))
            self.assertIs(is_object(whole), True)
            for _ in range(4):
                parts = list(objects)
                source.shuffle(parts)
                while len(parts) > 1:
                    many = source.randrange(1, len(parts) + 1)
                    parts = parts[many:] + [bundle(tuple(parts[:many]))]
                self.assertEqual(parts[0], whole)

    def test_an_error_in_any_order_and_grouping(self):
        uses = [("f", takes, gives) for takes in ((), ("word",)) for gives in ("word", OPT)]
        failing = 0
        for seed in range(200):
            source = random.Random(seed)
            objects = []
            for at in range(source.randrange(2, 5)):
                pieces = [named("f", source.choice(("word", OPT)))] if source.random() < 0.3 else []
                pieces += [named(source.choice(("g", f"h{at}")))] if source.random() < 0.5 else []
                used = [source.choice(uses)] if (not pieces or pieces[0][0] != "f") and source.random() < 0.7 else []
                objects.append((tuple(used), tuple(pieces)))
            told = [self.grouped(source, objects) for _ in range(6)]
            if isinstance(told[0], tuple):
                self.assertEqual(told, [told[0]] * 6)
            else:
                failing += 1
                self.assertTrue(all(isinstance(one, LinkError) for one in told))
        self.assertTrue(30 < failing < 170)

    def grouped(self, source, objects):
        parts = list(objects)
        source.shuffle(parts)
        try:
            while len(parts) > 1:
                many = source.randrange(1, len(parts) + 1)
                parts = parts[many:] + [bundle(tuple(parts[:many]))]
        except LinkError as error:
            return error
        return parts[0]

    def test_refusals(self):
        for thing in [thing for thing in ODD_VALUES if thing != ()] + [
                [((), ())], (((), (B,)),), (((), ()), None), ((), ()), (((), (A,)), ((), (B, A)), 0)]:
            self.assertEqual(refusal(bundle, thing), unusable("objects"))

    def test_by_name(self):
        self.assertEqual(bundle(objects=(((), (RING,)),)), ((), (RING,)))


if __name__ == "__main__":
    unittest.main()
