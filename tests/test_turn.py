import unittest

from lines import GREATEST, circle, last, row, second, shows, told, turn


class Turns(unittest.TestCase):
    def test_the_first(self):
        self.assertEqual(told(row("000"), turn(0), shows()), [[0], [1], [0, 3, 1, 0, 0]])
        self.assertEqual(told(row("100"), turn(0), shows()), [[1], [0], [0, 3, 0, 0, 0]])
        self.assertEqual(told(circle("101"), turn(0), shows()), [[1], [1], [1, 3, 0, 0, 1]])

    def test_the_last(self):
        self.assertEqual(told(row("111"), turn(2), shows()), [[0], [1], [0, 3, 1, 1, 0]])
        self.assertEqual(told(row("000"), turn(2), shows()), [[0], [0], [0, 3, 0, 0, 1]])
        self.assertEqual(told(circle("000"), turn(2), shows()), [[0], [1], [1, 3, 0, 0, 1]])
        self.assertEqual(told(row("0" * 12), turn(11), shows()), [[0], [0], [0, 12] + [0] * 11 + [1]])

    def test_a_middle_one(self):
        self.assertEqual(told(row("000"), turn(1), shows()), [[0], [1], [0, 3, 0, 1, 0]])
        self.assertEqual(told(row("1010"), turn(2), shows()), [[2], [1], [0, 4, 1, 0, 0, 0]])
        self.assertEqual(told(circle("01010"), turn(3), shows()), [[2], [1], [1, 5, 0, 1, 0, 0, 0]])

    def test_that_one_alone(self):
        for place in range(12):
            faces = [0, 1] * 6
            faces[place] = 1 - faces[place]
            self.assertEqual(last(row("01" * 6), turn(place), shows()), [0, 12] + faces)
            self.assertEqual(last(circle("01" * 6), turn(place), shows()), [1, 12] + faces)

    def test_twice_is_as_it_was(self):
        self.assertEqual(told(row("0110"), turn(1), turn(1), shows()), [[1], [1], [1], [0, 4, 0, 1, 1, 0]])

    def test_the_one_of_the_beginning(self):
        self.assertEqual(told(turn(0), shows(), turn(0), shows()), [[0], [0, 1, 1], [0], [0, 1, 0]])

    def test_no_second_passes(self):
        self.assertEqual(told(row("1000"), turn(3), second()), [[1], [1], [1, 0, 1, 0, 1]])

    def test_no_such_place(self):
        for lined_up, count in ((row("1"), 1), (row("101"), 3), (circle("101"), 3),
                                (row("10" * 6), 12), (circle("10" * 6), 12)):
            shown = last(lined_up, shows())
            for place in (count, count + 1, 2 * count, GREATEST):
                self.assertEqual(told(lined_up, turn(place), shows())[1:], [[-2], shown], (lined_up, place))

    def test_no_such_place_at_the_beginning(self):
        self.assertEqual(told(turn(1), turn(GREATEST), shows()), [[-2], [-2], [0, 1, 0]])


if __name__ == "__main__":
    unittest.main()
