import random
import unittest

from linkneed.bundling import bundle
from linkneed.changes import changes_between
from linkneed.compiling import compile_unit
from linkneed.linking import link
from tests import linkoracles
from tests.checks import refusal, unusable
from tests.samples import A, ALONE, B, MAIN, ODD_VALUES, RING, TWICE
from tests.test_linking import sheets_of_pieces

FIRST = ((), (B, A))


def missing(title):
    return ("Missing", {"title": title})


def piece(title, own, calls, row=("beat",)):
    """A piece that takes and gives a word, with calls (title, held)."""
    rows = tuple(("call", name, number, tuple(range(held)), (0,), 1) for number, (name, held) in enumerate(calls))
    return (title, ("word",), "word", own, ((row,) + rows + (("back",),),))


def whole(*pieces):
    return ((), tuple(sorted(pieces, key=lambda one: one[0])))


def told(one, other):
    """The changes by the words of the document."""
    facts = []
    for some in (one, other):
        sheets = sheets_of_pieces(some[1])
        bases = dict(linkoracles.bases(sheets))
        pieces = {part[0]: part for part in some[1] if part[0] in bases}
        calls = {sheet[0]: [name for name, _ in sheet[2]] for sheet in sheets}
        rings = {(title, name) for title in bases for name in calls[title]
                 if name == title or title in linkoracles.reached(sheets, name)}
        facts.append((pieces, bases, calls, rings))
    (pieces, bases, calls, rings), (other_pieces, other_bases, _, other_rings) = facts
    found = []
    for title in sorted(set(pieces) | set(other_pieces)):
        if title not in other_pieces:
            found.append((title, "gone"))
        elif title not in pieces:
            found.append((title, "new"))
        elif pieces[title] != other_pieces[title]:
            found.append((title, "piece"))
        elif bases[title] != other_bases[title]:
            found.append((title, "base"))
        elif any(bases[name] != other_bases[name] for name in calls[title]):
            found.append((title, "callee"))
        elif any(((title, name) in rings) != ((title, name) in other_rings) for name in calls[title]):
            found.append((title, "ring"))
    return tuple(found)


class ChangesTest(unittest.TestCase):
    def test_examples(self):
        first = bundle((compile_unit(TWICE, ()), compile_unit(MAIN, ())))
        self.assertEqual(first, FIRST)
        self.assertEqual(changes_between(first, first), ())
        alone = compile_unit(ALONE, ())
        self.assertEqual(changes_between(first, alone), (("main", "piece"), ("twice", "gone")))
        self.assertEqual(changes_between(alone, first), (("main", "piece"), ("twice", "new")))

    def test_what_is_not_laid_does_not_count(self):
        self.assertEqual(changes_between(FIRST, whole(A, B, piece("spare", 4, [("main", 2)]))), ())
        self.assertEqual(changes_between(whole(A, B, piece("spare", 4, ())), whole(A, B, piece("spare", 5, ()))), ())

    def test_base(self):
        one = whole(piece("main", 4, [("f", 1)]), piece("f", 3, [("g", 1)]), piece("g", 2, ()))
        other = whole(piece("main", 4, [("f", 2)]), piece("f", 3, [("g", 1)]), piece("g", 2, ()))
        self.assertEqual(changes_between(one, other), (("f", "base"), ("g", "base"), ("main", "piece")))

    def test_callee(self):
        one = whole(piece("main", 6, [("f", 2), ("g", 0)]), piece("f", 3, [("h", 0)]), piece("g", 6, [("h", 1)]), piece("h", 1, ()))
        other = whole(piece("main", 6, [("f", 2), ("g", 0)]), piece("f", 3, [("h", 0)]), piece("g", 6, [("h", 4)]), piece("h", 1, ()))
        self.assertEqual(changes_between(one, other), (("f", "callee"), ("g", "piece"), ("h", "base")))

    def test_ring(self):
        one = whole(piece("main", 2, [("f", 0)]), piece("f", 2, [("g", 0)]), piece("g", 2, ()))
        other = whole(piece("main", 2, [("f", 0)]), piece("f", 2, [("g", 0)]), piece("g", 2, [("f", 0)]))
        self.assertEqual(changes_between(one, other), (("f", "ring"), ("g", "piece")))
        self.assertEqual(changes_between(other, one), (("f", "ring"), ("g", "piece")))

    def test_equal_rows_without_a_word(self):
        seen = {}
        for seed in range(150):
            source = random.Random(seed)
            one = self.random_object(source)
            other = self.changed(one, source)
            found = changes_between(one, other)
            self.assertEqual(found, told(one, other))
            self.assertEqual(changes_between(other, one), told(other, one))
            for _, word in found:
                seen[word] = True
            self.check_rows(one, other, dict(found))
        self.assertEqual(sorted(seen), ["base", "callee", "gone", "new", "piece", "ring"])

    def check_rows(self, one, other, words):
        if all(linkoracles.need(sheets_of_pieces(some[1])) <= 16 for some in (one, other)):
            rows = {title: (base, rows) for title, base, rows in link(one, 16)[3]}
            for title, base, laid_rows in link(other, 16)[3]:
                if title in rows and title not in words:
                    self.assertEqual(rows[title], (base, laid_rows))

    def random_object(self, source):
        titles = ["main"] + [f"f{number}" for number in range(source.randrange(1, 5))]
        return whole(*[self.random_piece(source, title, titles) for title in titles])

    def random_piece(self, source, title, titles):
        calls = [(source.choice(titles), source.randrange(3)) for _ in range(source.randrange(3))]
        return piece(title, source.randrange(3, 5), calls)

    def changed(self, one, source):
        pieces = {part[0]: part for part in one[1]}
        title = source.choice(sorted(pieces))
        pieces[title] = self.random_piece(source, title, sorted(pieces))
        return whole(*pieces.values())

    def test_missing(self):
        lacking = ((("u", (), "word"), ("z", (), "word")), (B, A))
        other = ((("t", (), "word"),), (B, A))
        self.assertEqual(refusal(changes_between, lacking, other), missing("u"))
        self.assertEqual(refusal(changes_between, FIRST, other), missing("t"))
        self.assertEqual(refusal(changes_between, ((), (A,)), other), missing("main"))
        self.assertEqual(refusal(changes_between, FIRST, ((), ())), missing("main"))

    def test_a_need_above_any_size(self):
        wide = ("main", (), "word", 40, ((("back",),),))
        self.assertEqual(changes_between(((), (wide,)), ((), (RING,))), (("main", "piece"),))

    def test_refusals(self):
        for thing in ODD_VALUES + (((), (B,)), [(), ()], ((), (A, B))):
            self.assertEqual(refusal(changes_between, thing, thing), unusable("one"))
            self.assertEqual(refusal(changes_between, ((), ()), thing), unusable("other"))

    def test_by_name(self):
        self.assertEqual(changes_between(other=FIRST, one=((), (RING,))), (("main", "piece"), ("twice", "new")))


if __name__ == "__main__":
    unittest.main()
