import random
import unittest
from itertools import product

from linkneed.transferring import closed_rings, is_transfers, moved_by, transfer_rows, unlike_pairs
from tests.checks import refusal, same_kind, unusable
from tests.linkoracles import all_transferred, fewest_rows
from tests.samples import ODD_VALUES

PAIRS = ((0, 1), (1, 0), (2, 0), (3, 3))


def all_transfers(many):
    """All transfers among so many registers."""
    for sources in product([None] + list(range(many)), repeat=many):
        yield tuple((to, source) for to, source in enumerate(sources) if source is not None)


class KindTest(unittest.TestCase):
    def test_transfers(self):
        for thing in ((), ((0, 0),), ((0, 1),), PAIRS, ((2, 9), (7, 9), (30, 0))):
            self.assertIs(is_transfers(thing), True)

    def test_others(self):
        for thing in ODD_VALUES + (((0, 1), (0, 2)), ((1, 0), (0, 1)), ((0, 1), (0, 1)), ((0,),), ((0, 1, 2),), [(0, 1)],
                                   ([0, 1],), ((0, -1),), ((True, 0),), ((0, False),), ((0, None),), (("0", 1),), (0, 1)):
            self.assertIs(is_transfers(thing), thing == ())


class RowsTest(unittest.TestCase):
    def test_example(self):
        self.assertEqual(transfer_rows(PAIRS), (("move", 2, 0), ("swap", 0, 1)))
        self.assertEqual([unlike_pairs(PAIRS), closed_rings(PAIRS)], [3, 1])
        self.assertEqual(moved_by(transfer_rows(PAIRS), (7, 8, 9)), (8, 7, 7))

    def test_moves_come_by_the_least_free_register(self):
        self.assertEqual(transfer_rows(((0, 1), (1, 2), (3, 2))), (("move", 0, 1), ("move", 1, 2), ("move", 3, 2)))
        self.assertEqual(transfer_rows(((1, 0), (2, 1), (3, 3))), (("move", 2, 1), ("move", 1, 0)))

    def test_a_longer_ring(self):
        self.assertEqual(transfer_rows(((0, 1), (1, 2), (2, 0))), (("swap", 0, 1), ("swap", 1, 2)))
        self.assertEqual(transfer_rows(((0, 2), (1, 0), (2, 1))), (("swap", 0, 2), ("swap", 1, 2)))
        self.assertEqual(transfer_rows(((4, 6), (6, 4), (7, 9), (9, 7))), (("swap", 4, 6), ("swap", 7, 9)))

    def test_nothing_to_move(self):
        for pairs in ((), ((0, 0),), ((3, 3), (5, 5))):
            self.assertTrue(same_kind([transfer_rows(pairs), unlike_pairs(pairs), closed_rings(pairs)], [(), 0, 0]))

    def test_rings_that_others_copy_from(self):
        pairs = ((0, 1), (1, 0), (2, 0), (3, 2), (4, 5), (5, 6), (6, 4))
        self.assertEqual(closed_rings(pairs), 2)
        self.assertEqual(transfer_rows(pairs),
                         (("move", 3, 2), ("move", 2, 0), ("swap", 0, 1), ("swap", 4, 5), ("swap", 5, 6)))

    def test_all_small_transfers(self):
        for pairs in all_transfers(4):
            rows = transfer_rows(pairs)
            self.assertEqual(moved_by(rows, (5, 6, 7, 8)), all_transferred(pairs, (5, 6, 7, 8)))
            self.assertEqual(len(rows), unlike_pairs(pairs) - closed_rings(pairs))

    def test_no_fewer_rows_will_do(self):
        for pairs in all_transfers(3):
            self.assertEqual(len(transfer_rows(pairs)), fewest_rows(pairs, 3))
        source = random.Random(5)
        for _ in range(25):
            pairs = tuple((to, source.randrange(4)) for to in range(4))
            self.assertEqual(len(transfer_rows(pairs)), fewest_rows(pairs, 4))

    def test_rows_by_the_letter(self):
        for seed in range(300):
            source = random.Random(seed)
            tos = sorted(source.sample(range(12), source.randrange(12)))
            pairs = tuple((to, source.randrange(12)) for to in tos)
            self.assertEqual(transfer_rows(pairs), self.told(pairs))

    def told(self, pairs):
        pending = [pair for pair in pairs if pair[0] != pair[1]]
        rows = []
        while pending:
            free = [pair for pair in pending if pair[0] not in [one[1] for one in pending]]
            if free:
                pair = min(free)
                rows.append(("move",) + pair)
                pending.remove(pair)
                continue
            pair = min(pending)
            rows.append(("swap",) + pair)
            pending.remove(pair)
            pending = [(to, pair[1] if source == pair[0] else source) for to, source in pending]
            pending = [one for one in pending if one[0] != one[1]]
        return tuple(rows)

    def test_forty_pairs(self):
        pairs = tuple((to, (to + 1) % 40) for to in range(40))
        self.assertEqual([unlike_pairs(pairs), closed_rings(pairs), len(transfer_rows(pairs))], [40, 1, 39])
        words = tuple(range(100, 140))
        self.assertEqual(moved_by(transfer_rows(pairs), words), words[1:] + words[:1])

    def test_refusals(self):
        for function in (transfer_rows, unlike_pairs, closed_rings):
            for thing in [thing for thing in ODD_VALUES if thing != ()] + [((0, 1), (0, 2)), ((1, 0), (0, 1)), [(0, 1)]]:
                self.assertEqual(refusal(function, thing), unusable("pairs"))

    def test_by_name(self):
        for function in (transfer_rows, unlike_pairs, closed_rings):
            self.assertEqual(function(pairs=PAIRS), function(PAIRS))
        self.assertIs(is_transfers(thing=PAIRS), True)


class MovedTest(unittest.TestCase):
    def test_rows(self):
        self.assertEqual(moved_by((), ()), ())
        self.assertEqual(moved_by((("move", 0, 0), ("swap", 1, 1)), (3, 4)), (3, 4))
        self.assertEqual(moved_by((("move", 0, 1), ("swap", 0, 2), ("move", 1, 0)), (1, 2, 3)), (3, 3, 2))

    def test_refusals(self):
        for rows in [thing for thing in ODD_VALUES if thing != ()] + [
                [("move", 0, 1)], (["move", 0, 1],), (("move", 0),), (("move", 0, 1, 2),), (("add", 0, 1),), (("move", 0, 2),),
                (("swap", 2, 0),), (("swap", True, 0),), (("move", 0, -1),), (("move", "0", 1),), (("move", 0, 1), None)]:
            self.assertEqual(refusal(moved_by, rows, (8, 9)), unusable("rows"))
        self.assertEqual(refusal(moved_by, (("move", 0, 0),), ()), unusable("rows"))

    def test_by_name(self):
        self.assertEqual(moved_by(words=(1, 2), rows=(("swap", 0, 1),)), (2, 1))


if __name__ == "__main__":
    unittest.main()
