import random
import unittest

from linkneed.unitforms import is_unit
from linkneed.unitreadings import read_unit
from linkneed.unittexts import unit_text
from tests import textoracle
from tests.checks import refusal, same_kind, unusable
from tests.samples import CASES, DOWN, MAIN, ODD_VALUES, PAIRS, TWICE
from tests.test_unittexts import TEXT, WHOLE
from tests.unitsamples import bound_units


def invalid(line):
    return ("InvalidText", {"line": line})


def in_function(*lines):
    return "\n".join(("unit a", "function f gives word") + lines)


class ReadingTest(unittest.TestCase):
    def test_example(self):
        self.assertEqual(refusal(read_unit, "unit a\nshape s\nend"), invalid(2))

    def test_texts(self):
        self.assertEqual(read_unit(TEXT), WHOLE)
        for unit in (TWICE, MAIN, CASES, DOWN, PAIRS, WHOLE, ("a", (), (), ())):
            self.assertTrue(same_kind(read_unit(unit_text(unit)), unit))

    def test_random_units(self):
        for units in bound_units(80, seed=71):
            for unit in units:
                self.assertTrue(same_kind(read_unit(unit_text(unit)), unit))

    def test_each_beginning_of_a_text(self):
        lines = TEXT.split("\n")
        whole = {1, 5, 8, 9, 10, 12, len(lines)}
        for many in range(1, len(lines) + 1):
            text = "\n".join(lines[:many])
            if many in whole:
                self.assertEqual(unit_text(read_unit(text)), text)
            else:
                self.assertEqual(refusal(read_unit, text), invalid(many))

    def test_empty_lines(self):
        self.assertEqual(refusal(read_unit, ""), invalid(0))
        self.assertEqual(refusal(read_unit, "\n"), invalid(0))
        self.assertEqual(refusal(read_unit, "unit a\n"), invalid(1))
        self.assertEqual(refusal(read_unit, "\nunit a"), invalid(0))
        self.assertEqual(refusal(read_unit, "unit a\n\nuse f gives word"), invalid(1))

    def test_first_lines(self):
        for line in ("unit", "unit a b", "unit unit", "unit A", "unit  a", " unit a", "unit a ", "Unit a", "use a gives word", "end",
                     "unit 1a", "unit abcdefghijklm", "unit\ta"):
            self.assertEqual(refusal(read_unit, line), invalid(0))
        self.assertEqual(refusal(read_unit, "unit a\nunit b"), invalid(1))

    def test_the_order_of_parts(self):
        shape, use, function = "shape s\ncase c\nend", "use u gives word", "function f gives word\nend"
        self.assertEqual(read_unit("\n".join(("unit a", shape, shape, use, use, function, function)))[0], "a")
        for ahead, behind, line in ((use, shape, 2), (function, shape, 3), (function, use, 3)):
            self.assertEqual(refusal(read_unit, "\n".join(("unit a", ahead, behind))), invalid(line))

    def test_outer_lines(self):
        for line in ("end", "take x word", "case c", "shape", "shape s t", "shape word", "shape end", "use u", "use u gives", "use u word",
                     "use u gives word word", "use u gives gives", "use gives gives word", "use u gives s gives word", "function f",
                     "function f gives", "function f gives word word", "function f word gives word", "function gives gives word",
                     "function word gives word", "use word gives word", "use u word  gives word", "functio", "tell 1", "use"):
            self.assertEqual(refusal(read_unit, "unit a\n" + line), invalid(1))
        self.assertEqual(read_unit("unit a\nuse u word s word gives t"), ("a", (), (("u", ("word", "s", "word"), "t"),), ()))

    def test_shapes(self):
        for line in ("end", "case", "case word", "case c gives", "case c  s", "case C", "take x word", "shape t", "else"):
            self.assertEqual(refusal(read_unit, "unit a\nshape s\n" + line), invalid(2))
        self.assertEqual(refusal(read_unit, "unit a\nshape s\ncase c"), invalid(3))
        self.assertEqual(refusal(read_unit, "unit a\nshape s\ncase c\nelse"), invalid(3))
        self.assertEqual(read_unit("unit a\nshape s\ncase c word s\nend")[1], (("s", (("c", ("word", "s")),)),))

    def test_functions(self):
        self.assertEqual(refusal(read_unit, in_function("take x word", "tell x", "take y word")), invalid(4))
        self.assertEqual(refusal(read_unit, in_function("loop 1", "end", "take y word", "end")), invalid(4))
        self.assertEqual(refusal(read_unit, in_function("loop 1", "take y word")), invalid(3))
        for line in ("take x", "take x word word", "take word word", "take x gives", "take", "take x  word", "case", "else", "use u gives word"):
            self.assertEqual(refusal(read_unit, in_function(line)), invalid(2))
        self.assertEqual(refusal(read_unit, in_function("end", "end")), invalid(3))

    def test_bodies(self):
        self.assertEqual(refusal(read_unit, in_function("if 1", "end")), invalid(3))
        self.assertEqual(refusal(read_unit, in_function("if 1", "else", "else")), invalid(4))
        self.assertEqual(refusal(read_unit, in_function("if 1", "loop 1", "else")), invalid(4))
        self.assertEqual(refusal(read_unit, in_function("loop 1", "else")), invalid(3))
        self.assertEqual(refusal(read_unit, in_function("loop 1", "case")), invalid(3))
        self.assertEqual(refusal(read_unit, in_function("when 1", "end")), invalid(3))
        self.assertEqual(refusal(read_unit, in_function("when 1", "tell 1")), invalid(3))
        self.assertEqual(refusal(read_unit, in_function("when 1", "case x", "loop 1", "case")), invalid(5))
        self.assertEqual(refusal(read_unit, in_function("when 1", "case word")), invalid(3))
        self.assertEqual(refusal(read_unit, in_function("when 1", "case x ")), invalid(3))
        self.assertEqual(refusal(read_unit, in_function("when 1", "case", "end")), invalid(5))
        self.assertEqual(read_unit(in_function("when 1", "case x", "tell x", "case", "case y y", "end", "end"))[3][0][3], ((
            "when", ("number", 1), ((("x",), (("tell", ("name", "x")),)), ((), ()), (("y", "y"), ()))),))
        self.assertEqual(read_unit(in_function("if x", "give x", "else", "end", "end"))[3][0][3], (
            ("if", ("name", "x"), (("give", ("name", "x")),), ()),))

    def test_statements(self):
        for line in ("let", "let x", "let x ", "let 1 1", "let word 1", "let x 1 1", "set x", "set (add 1 1) 1", "tell", "tell ", "tell 1 1",
                     "give", "if", "loop", "when", "lett x 1", "tell  1", " tell 1", "tell 1 ", "else", "tell x)", "TELL 1"):
            self.assertEqual(refusal(read_unit, in_function(line, "end")), invalid(2))

    def test_expressions(self):
        for text in ("01", "00", "65536", "-1", "+1", "1x", "x_", "word", "add", "abcdefghijklm", "9" * 5000, "", "()", "(x)", "(1)",
                     "(add 1)", "(add 1 1 1)", "(add 1 1", "(add 1 1))", "add 1 1", "( add 1 1)", "(add 1 1 )", "(add  1 1)", "(call)",
                     "(call 1)", "(call f", "(call (call f))", "(call word)", "(call f 1 word)", "(case s)", "(case s 1)", "(case 1 c)",
                     "(case s (call f))", "(case s c 01)", "(number 1)", "(name x)", "(let x 1)", "(add 1 1) ", "(add 1 (sub 1 1)",
                     "((add 1 1))", "(add (1) 1)", "(add 1 1)(add 1 1)", "(add 1 1)x", "x(", "(", ")", "(add 1 1)1", "(sub\t1 1)", "x y",
                     "call)", "case)", "call f)", "x (call f", "1 (add 1 1"):
            self.assertEqual(refusal(read_unit, in_function("tell " + text, "end")), invalid(2))
        for text, expression in (
                ("0", ("number", 0)), ("65535", ("number", 65535)), ("x", ("name", "x")), ("(call f)", ("call", "f", ())),
                ("(case s c)", ("case", "s", "c", ())), ("(call f (call g) 7)", ("call", "f", (("call", "g", ()), ("number", 7)))),
                ("(less (case s c x (rem 1 2)) y)", ("less", ("case", "s", "c", (("name", "x"), ("rem", ("number", 1), (
                    "number", 2)))), ("name", "y")))):
            self.assertEqual(read_unit(in_function("tell " + text, "end"))[3][0][3], (("tell", expression),))

    def test_thirty_deep(self):
        text = "1"
        for _ in range(30):
            text = "(sub 1 " + text + ")"
        lines = ["loop 1"] * 30 + ["tell " + text] + ["end"] * 30
        self.assertEqual(unit_text(read_unit(in_function(*lines, "end"))), in_function(*lines, "end"))
        self.assertEqual(refusal(read_unit, in_function(*lines)), invalid(2 + len(lines)))
        self.assertEqual(refusal(read_unit, in_function("tell " + text + ")", "end")), invalid(2))

    def test_changed_texts(self):
        texts = [TEXT] + [unit_text(unit) for units in bound_units(30, seed=72) for unit in units]
        whole = 0
        for seed in range(1500):
            source = random.Random(seed)
            text = self.changed(source, source.choice(texts))
            unit, line = textoracle.read(text)
            if line is None:
                whole += 1
                self.assertTrue(same_kind(read_unit(text), unit))
                self.assertTrue(is_unit(unit))
                self.assertEqual(unit_text(unit), text)
            else:
                self.assertEqual(refusal(read_unit, text), invalid(line))
        self.assertGreater(whole, 50)

    def changed(self, source, text):
        lines = text.split("\n")
        at = source.randrange(len(lines))
        pick = source.randrange(7)
        if pick == 0:
            del lines[at]
        elif pick == 1:
            lines.insert(at, source.choice(lines))
        elif pick == 2:
            lines = lines[:at + 1]
        elif pick == 3:
            lines[at], other = source.choice(lines), lines[at]
            lines[source.randrange(len(lines))] = other
        elif pick == 4:
            words = lines[at].split(" ")
            words[source.randrange(len(words))] = source.choice(("x", "word", "0", "(add", "1)", "end", "gives", ""))
            lines[at] = " ".join(words)
        elif pick == 5:
            place = source.randrange(len(lines[at]) + 1)
            lines[at] = lines[at][:place] + source.choice("()x 0\n") + lines[at][place:]
        else:
            lines.insert(at, source.choice(("end", "else", "case", "case x", "take x word", "tell 1", "loop 1", "when x", "if x")))
        return "\n".join(lines)

    def test_no_strings(self):
        for thing in ODD_VALUES:
            if not isinstance(thing, str):
                self.assertEqual(refusal(read_unit, thing), unusable("text"))
        self.assertEqual(refusal(read_unit, ["unit a"]), unusable("text"))

    def test_by_name(self):
        self.assertEqual(read_unit(text="unit a"), ("a", (), (), ()))


if __name__ == "__main__":
    unittest.main()
