import random
import unittest
from itertools import product

from linkneed.values import flat_of, is_value, nested_of
from tests.checks import refusal, same_kind, unusable
from tests.samples import ODD_VALUES
from tests.unitsamples import _some_value, flat, nested, width

OPT = ((), ("word",))
PAIR = (("word", "word"),)
NOTHING = ((),)
BIT = ((), ())
DEEP = ((OPT, BIT), ("word", PAIR), ())
STRUCTURES = ("word", OPT, PAIR, NOTHING, BIT, DEEP, ((DEEP, "word"),), ((NOTHING, BIT),), ((NOTHING, OPT, NOTHING), ()))


class ValuesTest(unittest.TestCase):
    def test_examples(self):
        self.assertEqual([is_value(OPT, (1, 9)), is_value(OPT, (0, 9))], [True, False])
        self.assertEqual([nested_of(OPT, (1, 9)), flat_of(OPT, (0, ()))], [(1, (9,)), (0, 0)])
        self.assertEqual(nested_of((("word", OPT),), (5, 0, 0)), (0, (5, (0, ()))))

    def test_words(self):
        for word in (0, 1, 65535):
            self.assertIs(is_value("word", (word,)), True)
            self.assertTrue(same_kind(nested_of("word", (word,)), word))
            self.assertTrue(same_kind(flat_of("word", word), (word,)))
        for words in ((), (1, 2), (65536,), (-1,), (True,), ("1",), [1], 1, None):
            self.assertIs(is_value("word", words), False)

    def test_nothing(self):
        self.assertEqual([is_value(NOTHING, ()), is_value(NOTHING, (0,))], [True, False])
        self.assertEqual([nested_of(NOTHING, ()), flat_of(NOTHING, (0, ()))], [(0, ()), ()])

    def test_cases(self):
        self.assertEqual([is_value(DEEP, words) for words in ((0, 1, 9, 1), (0, 0, 9, 1), (0, 1, 9, 2), (1, 7, 8, 9), (2, 0, 0, 0),
                                                             (2, 0, 0, 1), (3, 0, 0, 0), (65535, 0, 0, 0), (0, 2, 0, 0))],
                         [True, False, False, True, True, False, False, False, False])
        self.assertEqual(nested_of(DEEP, (0, 1, 9, 1)), (0, ((1, (9,)), (1, ()))))
        self.assertEqual(nested_of(DEEP, (1, 7, 8, 9)), (1, (7, (0, (8, 9)))))
        self.assertEqual(flat_of(DEEP, (2, ())), (2, 0, 0, 0))

    def test_all_small_words(self):
        for structure in STRUCTURES:
            found = 0
            for words in product(range(4), repeat=min(width(structure), 5)):
                # Cases have fewer than four numbers here, so that a value is what comes back from its nested form.
                try:
                    expected = flat(structure, nested(structure, words)) == words
                except IndexError:
                    expected = False
                self.assertIs(is_value(structure, words), expected)
                if expected:
                    found += 1
                    self.assertTrue(same_kind(nested_of(structure, words), nested(structure, words)))
                    self.assertTrue(same_kind(flat_of(structure, nested(structure, words)), words))
                else:
                    self.assertEqual(refusal(nested_of, structure, words), unusable("words"))
            self.assertGreater(found, 0)

    def test_random_values(self):
        source = random.Random(4)
        for _ in range(300):
            structure = source.choice(STRUCTURES)
            words = _some_value(source, structure)
            self.assertIs(is_value(structure, words), True)
            self.assertEqual(flat_of(structure, nested_of(structure, words)), words)

    def test_other_words(self):
        for thing in ODD_VALUES + ((1, 2, 3), (1,), (1, True), (1, 65536), (1, -1), [1, 9], ((1, 9),), (True, 9)):
            self.assertIs(is_value(OPT, thing), False)
            self.assertEqual(refusal(nested_of, OPT, thing), unusable("words"))

    def test_other_nested_forms(self):
        for thing in [thing for thing in ODD_VALUES if thing != 0 or thing is False] + [65536, (0, ()), (5,)]:
            self.assertEqual(refusal(flat_of, "word", thing), unusable("value"))
        for thing in ODD_VALUES + ((0, (1,)), (1, ()), (1, (1, 2)), (2, ()), (-1, ()), (False, ()), (True, (1,)), (1, [1]), [1, (1,)],
                                   (1, (True,)), (1, (65536,)), (1, ((0, ()),)), (0, (), 0), (0,), (0, None), ("0", ())):
            self.assertEqual(refusal(flat_of, OPT, thing), unusable("value"))
        self.assertEqual(refusal(flat_of, DEEP, (0, ((1, (9,)), (2, ())))), unusable("value"))

    def test_by_name(self):
        self.assertIs(is_value(words=(1, 9), structure=OPT), True)
        self.assertEqual(nested_of(words=(1, 9), structure=OPT), (1, (9,)))
        self.assertEqual(flat_of(value=(1, (9,)), structure=OPT), (1, 9))


if __name__ == "__main__":
    unittest.main()
