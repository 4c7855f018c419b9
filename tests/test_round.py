import unittest

from lines import circle, comes_round, last, later, row, second, shows, told, turn


class Rounds(unittest.TestCase):
    def test_rows_at_rest(self):
        self.assertEqual(told(comes_round()), [[0, 1, 0]])
        for text in ("0", "1", "01", "11", "000111", "0" * 12, "1" * 12):
            self.assertEqual(last(row(text), comes_round()), [0, 1, 0], text)

    def test_rings_at_rest(self):
        for count in range(3, 13):
            self.assertEqual(last(circle("0" * count), comes_round()), [0, 1, 0])
            self.assertEqual(last(circle("1" * count), comes_round()), [0, 1, 0])

    def test_rows_not_at_rest(self):
        for text, beginning in [("10", 1), ("100", 2), ("1100", 3), ("1010", 2), ("110100", 4),
                                ("1" * 6 + "0" * 6, 11), ("10" * 6, 6), ("0" * 10 + "10", 1)]:
            self.assertEqual(last(row(text), comes_round()), [beginning, 1, 0], text)

    def test_rings_of_three(self):
        for text in ("100", "010", "001", "110", "101", "011"):
            self.assertEqual(last(circle(text), comes_round()), [0, 3, 3], text)

    def test_rings_that_begin_at_once(self):
        for text, length, turned in [("10", 2, 2), ("100", 3, 3), ("110", 3, 3), ("1000", 4, 4), ("10100", 5, 10)]:
            for times in (1, 2):
                if len(text * times) > 2:
                    self.assertEqual(last(circle(text * times), comes_round()), [0, length, turned * times], text)

    def test_rings_of_twelve(self):
        for text, want in [("10" * 6, [0, 2, 12]), ("01" * 6, [0, 2, 12]), ("100" * 4, [0, 3, 12]),
                           ("1000" * 3, [0, 4, 12]), ("100000" * 2, [0, 6, 12]), ("1" + "0" * 11, [0, 12, 12]),
                           ("1" * 11 + "0", [0, 12, 12]), ("101000000000", [0, 12, 24]),
                           ("1" * 6 + "0" * 6, [5, 2, 12]), ("0" * 6 + "1" * 6, [5, 2, 12]),
                           ("110000" * 2, [1, 6, 24]), ("1100" * 3, [1, 2, 12])]:
            self.assertEqual(last(circle(text), comes_round()), want, text)

    def test_rings_that_begin_later(self):
        # 1100 goes to 1010, which goes to and fro between that and 0101.
        self.assertEqual(last(circle("1100"), comes_round()), [1, 2, 4])
        self.assertEqual(last(circle("0011"), comes_round()), [1, 2, 4])
        # 11000 goes to 10100, which goes round in five.
        self.assertEqual(last(circle("11000"), comes_round()), [1, 5, 10])
        self.assertEqual(last(circle("11100"), comes_round()), [1, 5, 10])
        self.assertEqual(last(circle("111000"), comes_round()), [2, 2, 6])

    def test_they_face_so_again(self):
        for text in ("110", "1100", "11000", "1110010", "111000", "1" * 6 + "0" * 6, "110010001"):
            beginning, length, turned = last(circle(text), comes_round())
            at = told(circle(text), *[later(s) for s in range(beginning + length + 1)])[1:]
            self.assertEqual(at[beginning], at[beginning + length])
            faced = [tuple(faces) for faces in at[:-1]]
            self.assertEqual(len(set(faced)), beginning + length)
            self.assertEqual(turned, sum(faces[0] for faces in at[beginning:-1]))

    def test_nothing_passes(self):
        for lined_up in (row("1100"), row("01"), circle("1100"), circle("111"), circle("1" * 6 + "0" * 6)):
            shown = last(lined_up, shows())
            self.assertEqual(told(lined_up, shows(), comes_round(), shows(), comes_round(), shows())[1::2], [shown] * 3)
            self.assertEqual(last(lined_up, comes_round(), second()), last(lined_up, second()))

    def test_behind_other_calls(self):
        self.assertEqual(told(circle("1100"), comes_round(), second(), comes_round(), turn(0), comes_round())[1::2],
                         [[1, 2, 4], [0, 2, 4], [0, 4, 4]])


if __name__ == "__main__":
    unittest.main()
