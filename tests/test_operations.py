import unittest

from linkneed.operations import operated
from tests.checks import refusal, same_kind, unusable
from tests.samples import ODD_VALUES, OPERATIONS

EDGES = (0, 1, 2, 7, 255, 256, 257, 32768, 65534, 65535)


class OperationsTest(unittest.TestCase):
    def test_example(self):
        self.assertEqual(
            [operated("sub", 1, 2), operated("div", 7, 2), operated("rem", 7, 0), operated("less", 1, 2)],
            [65535, 3, None, 1])

    def test_all_edges(self):
        for one in EDGES:
            for other in EDGES:
                self.assertEqual(operated("add", one, other), (one + other) % 65536)
                self.assertEqual(operated("sub", one, other), (one - other) % 65536)
                self.assertEqual(operated("mul", one, other), one * other % 65536)
                self.assertEqual(operated("div", one, other), one // other if other else None)
                self.assertEqual(operated("rem", one, other), one % other if other else None)
                self.assertTrue(same_kind(operated("less", one, other), 1 if one < other else 0))
                self.assertTrue(same_kind(operated("same", one, other), 1 if one == other else 0))

    def test_known_words(self):
        self.assertEqual(operated("add", 65535, 1), 0)
        self.assertEqual(operated("mul", 65535, 65535), 1)
        self.assertEqual(operated("rem", 65535, 10), 5)

    def test_refusals_in_order(self):
        for thing in ODD_VALUES + ("copy", "tell", "ADD", 3):
            self.assertEqual(refusal(operated, thing, None, None), unusable("operation"))
        for thing in (True, False, -1, 65536, None, "1", (1,)):
            for operation in OPERATIONS:
                self.assertEqual(refusal(operated, operation, thing, None), unusable("one"))
                self.assertEqual(refusal(operated, operation, 0, thing), unusable("other"))

    def test_by_name(self):
        self.assertEqual(operated(other=2, one=9, operation="rem"), 1)


if __name__ == "__main__":
    unittest.main()
