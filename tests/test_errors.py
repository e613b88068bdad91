import unittest

from linkneed import errors

FAMILIES = {
    "PaperError": {"InvalidPaper": ("word", "at")},
    "UnitError": {"NotUsable": ("word", "at"), "Unfit": ("word", "path")},
    "LinkError": {"Missing": ("title",), "Twice": ("title",), "Unlike": ("title",), "Beyond": ("need",)},
    "LiveError": {"InvalidEvent": ("event", "reason"), "NothingToUndo": ("steps",)},
    "TextError": {"InvalidText": ("line",)},
}


class ErrorsTest(unittest.TestCase):
    def test_families(self):
        self.assertEqual(errors.NeedError.__bases__, (ValueError,))
        for family, members in FAMILIES.items():
            base = getattr(errors, family)
            self.assertEqual(base.__bases__, (errors.NeedError,))
            for name in members:
                self.assertEqual(getattr(errors, name).__bases__, (base,))

    def test_fields_are_kept_as_they_are(self):
        for members in FAMILIES.values():
            for name, fields in members.items():
                given = [[number, object()] for number in range(len(fields))]
                by_position = getattr(errors, name)(*given)
                by_name = getattr(errors, name)(**dict(zip(fields, given)))
                for error in (by_position, by_name):
                    self.assertEqual(tuple(vars(error)), fields)
                    for field, value in zip(fields, given):
                        self.assertIs(getattr(error, field), value)

    def test_just_these_fields(self):
        for members in FAMILIES.values():
            for name, fields in members.items():
                made = getattr(errors, name)
                self.assertRaises(TypeError, made, *fields[1:])
                self.assertRaises(TypeError, made, *fields, "more")

    def test_caught_by_family(self):
        with self.assertRaises(errors.NeedError):
            raise errors.Missing("main")
        with self.assertRaises(errors.LinkError):
            raise errors.Beyond(3)


if __name__ == "__main__":
    unittest.main()
