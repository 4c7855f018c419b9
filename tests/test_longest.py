import unittest

from lines import GREATEST, circle, last, longest, rests, row, second, shows, told


class Longest(unittest.TestCase):
    def test_one(self):
        # Neither of the two rows of one needs a second.
        self.assertEqual(told(longest(1)), [[0, 2, 0]])

    def test_two_and_three(self):
        self.assertEqual(told(longest(2)), [[1, 1, 1, 0]])
        # 100 and 110 need two seconds each.
        self.assertEqual(told(longest(3)), [[2, 2, 1, 0, 0]])

    def test_four_to_ten(self):
        # One that faces right and has to pass all the others needs n - 1 seconds; so do several that stand together.
        for n in range(4, 11):
            self.assertEqual(told(longest(n)), [[n - 1, n - 1, 1] + [0] * (n - 1)], n)

    def test_the_first_needs_so_many(self):
        for n in range(1, 11):
            seconds, count, *first = last(longest(n))
            self.assertEqual(last([0, 0, n] + first, rests())[0], seconds)

    def test_refused(self):
        for n in (0, 11, 12, 13, GREATEST):
            self.assertEqual(told(longest(n), shows()), [[-1], [0, 1, 0]], n)
            self.assertEqual(told(circle("0110"), longest(n), shows())[1:], [[-1], [1, 4, 0, 1, 1, 0]], n)

    def test_who_stands_stays(self):
        for lined_up in (row("1100"), row("1"), circle("110"), circle("01" * 6)):
            shown = last(lined_up, shows())
            for n in (0, 1, 4, 10, 11, GREATEST):
                self.assertEqual(told(lined_up, longest(n), shows())[2], shown)
                self.assertEqual(last(lined_up, longest(n), second()), last(lined_up, second()))

    def test_who_stands_doesnt_matter(self):
        for lined_up in (row("1100"), circle("110"), circle("01" * 6)):
            self.assertEqual(told(lined_up, longest(3), longest(11))[1:], [[2, 2, 1, 0, 0], [-1]])


if __name__ == "__main__":
    unittest.main()
