"""Each example of the document: examples.txt has them as they stand there."""

import os
import unittest

from linkneed import errors

EXAMPLES = os.path.join(os.path.dirname(os.path.abspath(__file__)), "examples.txt")


def examples():
    """Triples (number of the line, what is done, what is told of it; None for nothing)."""
    with open(EXAMPLES, encoding="utf-8") as file:
        lines = file.read().split("\n")
    found = []
    for number, line in enumerate(lines, 1):
        if line.startswith(">>> "):
            found.append([number, line[4:], None])
        elif line:
            found[-1][2] = line
    return found


def told_error(text):
    return eval(text.removeprefix("raises "), vars(errors))


class ExamplesTest(unittest.TestCase):
    def test_examples(self):
        names = {}
        answers = 0
        for number, code, told in examples():
            with self.subTest(line=number, code=code):
                if told is None:
                    try:
                        self.assertIsNone(eval(code, names))
                    except SyntaxError:
                        exec(code, names)
                    continue
                answers += 1
                if not told.startswith("raises "):
                    self.assertEqual(repr(eval(code, names)), repr(eval(told)))
                    continue
                with self.assertRaises(errors.NeedError) as caught:
                    eval(code, names)
                expected = told_error(told)
                self.assertIs(type(caught.exception), type(expected))
                self.assertEqual(vars(caught.exception), vars(expected))
        self.assertGreater(answers, 70)


if __name__ == "__main__":
    unittest.main()
