import unittest

from lines import circle, last, later, rests, row, second, shows, told, turn


class Rests(unittest.TestCase):
    def test_the_beginning(self):
        self.assertEqual(told(rests(), shows()), [[0, 0], [0, 1, 0]])
        self.assertEqual(told(turn(0), rests()), [[0], [0, 1]])

    def test_at_rest_already(self):
        for text in ("0", "1", "00", "01", "11", "0011", "0" * 12, "1" * 12, "0" * 5 + "1" * 7):
            self.assertEqual(last(row(text), rests()), [0] + [int(sign) for sign in text], text)

    def test_rows(self):
        for text, seconds in [("10", 1), ("100", 2), ("110", 2), ("101", 1), ("010", 1), ("1100", 3), ("1010", 2),
                              ("0110", 2), ("110100", 4), ("10101010", 4), ("1001", 2)]:
            faces = [int(sign) for sign in sorted(text)]
            self.assertEqual(last(row(text), rests()), [seconds] + faces, text)

    def test_rows_that_take_longest(self):
        for count in range(1, 13):
            for rights in range(1, count):
                text = "1" * rights + "0" * (count - rights)
                self.assertEqual(last(row(text), rests()), [count - 1] + [0] * (count - rights) + [1] * rights, text)

    def test_rings_of_one_kind(self):
        for count in range(3, 13):
            self.assertEqual(last(circle("0" * count), rests()), [0] + [0] * count)
            self.assertEqual(last(circle("1" * count), rests()), [0] + [1] * count)

    def test_rings_of_both_kinds(self):
        for count in range(3, 13):
            for place in range(count):
                for one, others in (("1", "0"), ("0", "1")):
                    text = others * place + one + others * (count - place - 1)
                    self.assertEqual(told(circle(text), rests()), [[1], [-6]], text)
        # As a row these would be at rest, or come to rest.
        for text in ("001", "011", "0101", "1100", "01" * 6, "0" * 6 + "1" * 6):
            self.assertEqual(last(circle(text), rests()), [-6], text)

    def test_nothing_passes(self):
        for lined_up in (row("1100"), row("01"), row("10" * 6), circle("110"), circle("111"), circle("01" * 6)):
            shown = last(lined_up, shows())
            self.assertEqual(told(lined_up, shows(), rests(), shows(), rests(), shows())[1::2], [shown] * 3)
            self.assertEqual(last(lined_up, rests(), second()), last(lined_up, second()))

    def test_a_ring_may_come_to_rest_by_a_turn(self):
        self.assertEqual(told(circle("100"), rests(), turn(0), rests(), turn(2), rests()),
                         [[1], [-6], [0], [0, 0, 0, 0], [1], [-6]])

    def test_as_second_by_second(self):
        self.assertEqual(told(row("1100"), rests(), second(), rests(), second(), rests(), second(), rests(), second(),
                              rests())[1::2],
                         [[seconds, 0, 0, 1, 1] for seconds in (3, 2, 1, 0, 0)])
        self.assertEqual(last(row("110100"), later(4)), [0, 0, 0, 0, 1, 1, 1])
        self.assertEqual(last(row("110100"), later(3))[0], 1)


if __name__ == "__main__":
    unittest.main()
