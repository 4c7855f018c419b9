import unittest

from lines import before, circle, last, row, second, shows, told, turn


def faces(text):
    return [int(sign) for sign in text]


class Before(unittest.TestCase):
    def test_the_beginning(self):
        self.assertEqual(told(before(), shows()), [[1, 0], [0, 1, 0]])

    def test_rows_of_one(self):
        self.assertEqual(last(row("0"), before()), [1, 0])
        self.assertEqual(last(row("1"), before()), [1, 1])
        self.assertEqual(told(turn(0), before()), [[0], [1, 1]])

    def test_rows_of_two(self):
        self.assertEqual(last(row("00"), before()), [1, 0, 0])
        self.assertEqual(last(row("11"), before()), [1, 1, 1])
        # Both 01, which is at rest, and 10 face so then.
        self.assertEqual(last(row("01"), before()), [2, 0, 1])
        self.assertEqual(last(row("10"), before()), [0])

    def test_none(self):
        for text in ("10", "100", "110", "1100", "1001", "100110", "1" * 6 + "0" * 6, "1" + "0" * 11):
            self.assertEqual(last(row(text), before()), [0], text)
        for text in ("1100", "0011", "11000", "11100", "111000", "1" * 6 + "0" * 6, "0" * 6 + "1" * 6):
            self.assertEqual(last(circle(text), before()), [0], text)

    def test_one(self):
        for text, earlier in [("000", "000"), ("111", "111"), ("101", "110"), ("010", "100"), ("1010", "1100"),
                              ("11010", "11100"), ("0" * 12, "0" * 12), ("1" * 12, "1" * 12)]:
            self.assertEqual(last(row(text), before()), [1] + faces(earlier), text)
        for text, earlier in [("000", "000"), ("111", "111"), ("100", "001"), ("010", "100"), ("001", "010"),
                              ("110", "011"), ("011", "101"), ("101", "110"), ("0" * 12, "0" * 12),
                              ("1" * 12, "1" * 12), ("1" + "0" * 11, "0" * 11 + "1")]:
            self.assertEqual(last(circle(text), before()), [1] + faces(earlier), text)

    def test_many_in_rows(self):
        # Those in the middle have just turned, or stood so already: 0101 or 0011.
        self.assertEqual(last(row("0011"), before()), [2] + faces("0011"))
        # 0110, 1001 and 1010; not 0101 itself, in which the two in the middle face one another.
        self.assertEqual(last(row("0101"), before()), [3] + faces("0110"))
        # 01110 and 10110.
        self.assertEqual(last(row("01101"), before()), [2] + faces("01110"))
        # 10001101, 10010011 and 10010101.
        self.assertEqual(last(row("01001011"), before()), [3] + faces("10001101"))

    def test_many_in_rings(self):
        # 0011, 0101 and 1100.
        self.assertEqual(last(circle("1010"), before()), [3] + faces("0011"))
        self.assertEqual(last(circle("0101"), before()), [3] + faces("0110"))

    def test_many_of_twelve(self):
        self.assertEqual(last(row("0" * 6 + "1" * 6), before()), [2] + faces("0" * 6 + "1" * 6))
        # Of two pairs beside one another at least one has just turned: so many choices of pairs there are.
        self.assertEqual(last(row("10" * 6), before()), [5] + faces("1100" * 3))
        self.assertEqual(last(row("01" * 6), before()), [21] + faces("0110" * 3))
        self.assertEqual(last(circle("01" * 6), before()), [18] + faces("0110" * 3))
        self.assertEqual(last(circle("10" * 6), before()), [18] + faces("0011" * 3))

    def test_rings_are_no_rows(self):
        self.assertEqual(last(row("100"), before()), [0])
        self.assertEqual(last(circle("100"), before()), [1, 0, 0, 1])
        self.assertEqual(last(row("001"), before()), [2, 0, 0, 1])
        self.assertEqual(last(circle("001"), before()), [1, 0, 1, 0])

    def test_nothing_passes(self):
        for lined_up in (row("0011"), row("1100"), row("10" * 6), circle("0011"), circle("0101"), circle("01" * 6)):
            shown = last(lined_up, shows())
            self.assertEqual(told(lined_up, shows(), before(), shows(), before(), shows())[1::2], [shown] * 3)
            self.assertEqual(last(lined_up, before(), second()), last(lined_up, second()))

    def test_the_one_that_is_answered_faces_so_behind_a_second(self):
        for lined_up in (row("00101"), row("0" * 6 + "1" * 6), row("01" * 6)):
            shown = last(lined_up, shows())
            earlier = last(lined_up, before())[1:]
            self.assertEqual(last([0, shown[0], len(earlier)] + earlier, second(), shows()), shown)


if __name__ == "__main__":
    unittest.main()
