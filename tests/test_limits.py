import unittest

from bikestands import limits


class Limits(unittest.TestCase):
    def test_each_limit(self):
        self.assertEqual(limits.MOST_SLOTS, 8)
        self.assertEqual(limits.MOST_STANDS, 5)
        self.assertEqual(limits.MOST_SIZE, 40)
        self.assertEqual(limits.MOST_ROADS, 12)
        self.assertEqual(limits.MOST_TIME, 3)
        self.assertEqual(limits.MOST_FACTS, 12)
        self.assertEqual(limits.MOST_NUMBER, 9999)
        self.assertEqual(limits.MOST_READINGS, 6)
        self.assertEqual(limits.MOST_CHANGES, 5)

    def test_limits_are_integers_and_there_are_no_others(self):
        told = {name: value for name, value in vars(limits).items() if not name.startswith("_")}
        self.assertEqual(len(told), 9)
        for name, value in told.items():
            with self.subTest(name=name):
                self.assertIs(value.__class__, int)


if __name__ == "__main__":
    unittest.main()
