import unittest

from restdraw import errors

PLAIN = ["NoText", "NoRim", "NoCorners", "NoBase", "NoOrder", "NoWoods", "NoWeights", "NoFace"]
VALUED = {
    "NotFlat": ("faces", 4),
    "NotTied": ("breaks", [(0,), (0, 1)]),
    "NotCornered": ("face", (0, 1, 2, 3)),
    "Doubled": ("tie", (0, 1)),
    "NoTie": ("tie", (3, 1)),
    "Parted": ("tie", (0, 2)),
    "Alike": ("places", (1, 2)),
    "Folded": ("place", 3),
}
ORDER = [
    "NoText", "NotFlat", "NotTied", "NotCornered", "NoRim", "NoCorners", "NoBase", "NoOrder",
    "NoWoods", "NoWeights", "NoFace", "Doubled", "NoTie", "Parted", "Alike", "Folded",
]


class TestErrors(unittest.TestCase):
    def made(self, name):
        kind = getattr(errors, name)
        return kind("words") if name in PLAIN else kind(VALUED[name][1])

    def test_these_sixteen_in_this_order(self):
        found = [
            name for name, thing in vars(errors).items()
            if isinstance(thing, type) and issubclass(thing, errors.DrawError) and name != "DrawError"
        ]
        self.assertEqual(found, ORDER)

    def test_draw_error(self):
        self.assertEqual(errors.DrawError.__bases__, (ValueError,))

    def test_each_straight_under_draw_error(self):
        for name in ORDER:
            self.assertEqual(getattr(errors, name).__bases__, (errors.DrawError,), name)
            self.assertIsInstance(self.made(name), errors.DrawError)
            self.assertIsInstance(self.made(name), ValueError)

    def test_none_under_another(self):
        for name in ORDER:
            for other in ORDER:
                self.assertEqual(isinstance(self.made(name), getattr(errors, other)), name == other)

    def test_made_of_a_text(self):
        for name in PLAIN:
            self.assertEqual(str(self.made(name)), "words")

    def test_bearing_values(self):
        for name, (field, value) in VALUED.items():
            self.assertEqual(getattr(self.made(name), field), value)
            self.assertIsInstance(str(self.made(name)), str)

    def test_raised_and_taken(self):
        for name in ORDER:
            with self.assertRaises(getattr(errors, name)):
                raise self.made(name)

    def test_breaks_stay_whatever_is_done_to_the_list(self):
        handed = [(0,)]
        error = errors.NotTied(handed)
        handed.append((1,))
        self.assertEqual(error.breaks, [(0,)])
        error.breaks.clear()
        self.assertEqual(handed, [(0,), (1,)])

    def test_values_of_any_size(self):
        great = 10 ** 9000
        self.assertEqual(errors.NoTie((great, -great)).tie, (great, -great))
        self.assertIsInstance(str(errors.NoTie((great, -great))), str)


if __name__ == "__main__":
    unittest.main()
