import unittest

from lines import circle, last, row, second, shows, told


class Seconds(unittest.TestCase):
    def test_in_a_row(self):
        self.assertEqual(last(row("10"), second()), [1, 0, 1])
        self.assertEqual(last(row("1100"), second()), [1, 1, 0, 1, 0])
        self.assertEqual(last(row("1010"), second()), [2, 0, 1, 0, 1])
        self.assertEqual(last(row("110100"), second()), [2, 1, 0, 1, 0, 1, 0])

    def test_all_at_once(self):
        # Going through the row from left to right, 100 would end as 001 if the turns were one behind another.
        self.assertEqual(last(row("100"), second()), [1, 0, 1, 0])
        self.assertEqual(last(row("110"), second()), [1, 1, 0, 1])
        self.assertEqual(last(circle("1000"), second()), [1, 0, 1, 0, 0])
        self.assertEqual(last(circle("0111"), second()), [1, 1, 1, 1, 0])

    def test_in_a_ring(self):
        self.assertEqual(last(circle("100"), second()), [1, 0, 1, 0])
        self.assertEqual(last(circle("1010"), second()), [2, 0, 1, 0, 1])
        self.assertEqual(last(circle("110010"), second()), [2, 1, 0, 1, 0, 0, 1])

    def test_the_last_one_and_place_0_in_a_ring(self):
        self.assertEqual(last(circle("001"), second()), [1, 1, 0, 0])
        self.assertEqual(last(circle("011"), second()), [1, 1, 1, 0])
        self.assertEqual(last(circle("0101"), second()), [2, 1, 0, 1, 0])
        self.assertEqual(last(circle("000000000001"), second()), [1, 1] + [0] * 11)

    def test_the_last_one_and_place_0_in_a_row(self):
        self.assertEqual(last(row("001"), second()), [0, 0, 0, 1])
        self.assertEqual(last(row("0101"), second()), [1, 0, 0, 1, 1])

    def test_at_rest(self):
        self.assertEqual(told(second(), second()), [[0, 0], [0, 0]])
        self.assertEqual(last(row("1"), second()), [0, 1])
        self.assertEqual(last(row("000111"), second()), [0, 0, 0, 0, 1, 1, 1])
        self.assertEqual(last(circle("000"), second()), [0, 0, 0, 0])
        self.assertEqual(last(circle("1111"), second()), [0, 1, 1, 1, 1])

    def test_several_in_a_row(self):
        self.assertEqual(told(row("1100"), second(), second(), second(), second(), shows()),
                         [[1], [1, 1, 0, 1, 0], [2, 0, 1, 0, 1], [1, 0, 0, 1, 1], [0, 0, 0, 1, 1],
                          [0, 4, 0, 0, 1, 1]])

    def test_several_in_a_ring(self):
        self.assertEqual(told(circle("100"), second(), second(), second(), second(), shows()),
                         [[1], [1, 0, 1, 0], [1, 0, 0, 1], [1, 1, 0, 0], [1, 0, 1, 0], [1, 3, 0, 1, 0]])


if __name__ == "__main__":
    unittest.main()
