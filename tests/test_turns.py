import unittest

from lines import circle, last, row, second, shows, told, turn, turns


class TurnsTillRest(unittest.TestCase):
    def test_the_beginning(self):
        self.assertEqual(told(turns(), shows()), [[0, 0], [0, 1, 0]])
        self.assertEqual(told(turn(0), turns()), [[0], [0, 0]])

    def test_at_rest_already(self):
        for text in ("0", "1", "00", "01", "11", "0011", "0" * 12, "1" * 12):
            self.assertEqual(last(row(text), turns()), [0] + [0] * len(text), text)

    def test_rows(self):
        for text, times in [("10", [1, 1]), ("100", [1, 2, 1]), ("110", [1, 2, 1]), ("101", [1, 1, 0]),
                            ("010", [0, 1, 1]), ("1010", [1, 2, 2, 1]), ("1100", [1, 3, 3, 1]),
                            ("10100", [1, 2, 3, 3, 1]), ("00100", [0, 0, 1, 2, 1])]:
            self.assertEqual(last(row(text), turns()), [sum(times)] + times, text)

    def test_rows_of_twelve(self):
        self.assertEqual(last(row("1" + "0" * 11), turns()), [22, 1] + [2] * 10 + [1])
        self.assertEqual(last(row("1" * 6 + "0" * 6), turns()), [72, 1, 3, 5, 7, 9, 11, 11, 9, 7, 5, 3, 1])

    def test_a_row_that_takes_longest(self):
        for count in range(2, 13):
            self.assertEqual(last(row("1" + "0" * (count - 1)), turns()),
                             [2 * (count - 1), 1] + [2] * (count - 2) + [1])

    def test_rings_of_one_kind(self):
        for count in range(3, 13):
            self.assertEqual(last(circle("0" * count), turns()), [0] + [0] * count)
            self.assertEqual(last(circle("1" * count), turns()), [0] + [0] * count)

    def test_rings_of_both_kinds(self):
        for text in ("100", "010", "001", "110", "011", "0011", "1100", "01" * 6, "0" * 11 + "1", "1" * 11 + "0"):
            self.assertEqual(last(circle(text), turns()), [-6], text)

    def test_nothing_passes(self):
        for lined_up in (row("1100"), row("01"), row("10" * 6), circle("110"), circle("111"), circle("01" * 6)):
            shown = last(lined_up, shows())
            self.assertEqual(told(lined_up, shows(), turns(), shows(), turns(), shows())[1::2], [shown] * 3)
            self.assertEqual(last(lined_up, turns(), second()), last(lined_up, second()))

    def test_turns_that_have_been_are_not_counted(self):
        self.assertEqual(told(row("1100"), second(), turns(), second(), turns(), second(), turns())[2::2],
                         [[6, 1, 2, 2, 1], [2, 0, 1, 1, 0], [0, 0, 0, 0, 0]])
        self.assertEqual(told(row("000"), turn(0), turns(), turns())[2:], [[4, 1, 2, 1]] * 2)


if __name__ == "__main__":
    unittest.main()
