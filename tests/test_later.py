import unittest

from lines import GREATEST, circle, last, later, row, second, shows, told


class Later(unittest.TestCase):
    def test_behind_no_second(self):
        self.assertEqual(told(later(0)), [[0, 0]])
        self.assertEqual(last(row("1100"), later(0)), [1, 1, 1, 0, 0])
        self.assertEqual(last(circle("0101"), later(0)), [2, 0, 1, 0, 1])

    def test_behind_one(self):
        self.assertEqual(last(row("1100"), later(1)), [2, 1, 0, 1, 0])
        self.assertEqual(last(row("10"), later(1)), [0, 0, 1])
        self.assertEqual(last(circle("001"), later(1)), [1, 1, 0, 0])

    def test_behind_some(self):
        self.assertEqual(last(row("1100"), later(2)), [1, 0, 1, 0, 1])
        self.assertEqual(last(row("1100"), later(3)), [0, 0, 0, 1, 1])
        self.assertEqual(last(circle("10000"), later(7)), [1, 0, 0, 1, 0, 0])

    def test_behind_a_thousand(self):
        self.assertEqual(told(later(1000)), [[0, 0]])
        self.assertEqual(last(row("1" * 6 + "0" * 6), later(1000)), [0] + [0] * 6 + [1] * 6)
        # A single one goes round a ring of 3 in 3 seconds and round one of 7 in 7; 1000 is 1 more than 999, 6 than 994.
        self.assertEqual(last(circle("100"), later(1000)), [1, 0, 1, 0])
        self.assertEqual(last(circle("1000000"), later(1000)), [1, 0, 0, 0, 0, 0, 0, 1])
        self.assertEqual(last(circle("1000000"), later(999)), [1, 0, 0, 0, 0, 0, 1, 0])

    def test_as_many_seconds_one_behind_another(self):
        for lined_up in (row("110" * 4), circle("110" * 4), circle("11010"), row("1100100")):
            calls = [lined_up] + [second()] * 36
            self.assertEqual(last(*calls, shows())[2:], last(lined_up, later(36))[1:])

    def test_nothing_passes(self):
        for s in (0, 1, 2, 1000, 1001, GREATEST):
            self.assertEqual(told(row("1100"), later(s), shows(), second())[2:],
                             [[0, 4, 1, 1, 0, 0], [1, 1, 0, 1, 0]])
            self.assertEqual(told(circle("001"), later(s), shows(), second())[2:],
                             [[1, 3, 0, 0, 1], [1, 1, 0, 0]])

    def test_too_many(self):
        for s in (1001, 1002, 2000, GREATEST):
            self.assertEqual(told(later(s), shows()), [[-1], [0, 1, 0]])
            self.assertEqual(last(row("10"), later(s)), [-1])
            self.assertEqual(last(circle("101"), later(s)), [-1])


if __name__ == "__main__":
    unittest.main()
