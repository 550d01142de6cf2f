import unittest

from xorturns import bounds


class BoundsTest(unittest.TestCase):

    def test_values(self):
        wanted = {"MAX_WIDTH": 6, "MAX_SIGNS": 40, "MAX_PATTERNS": 6, "MAX_EDITS": 60, "BATCH": 20}
        for name, worth in wanted.items():
            with self.subTest(name):
                self.assertIs(type(getattr(bounds, name)), int)
                self.assertEqual(getattr(bounds, name), worth)


if __name__ == "__main__":
    unittest.main()
