import unittest

from likelybook import limits


class Limits(unittest.TestCase):
    def test_each_constant(self):
        wanted = {"MOST_CASES": 6, "MOST_SAYINGS": 12, "MOST_TIMES": 9, "MOST_TOTAL": 30, "MOST_OPEN": 5}
        for name, value in wanted.items():
            with self.subTest(name):
                self.assertIs(type(getattr(limits, name)), int)
                self.assertEqual(getattr(limits, name), value)


if __name__ == "__main__":
    unittest.main()
