import unittest

from lines import circle, last, later, row, second, shows, stand, told, turn


class Shows(unittest.TestCase):
    def test_the_beginning(self):
        self.assertEqual(told(shows()), [[0, 1, 0]])

    def test_behind_stand(self):
        self.assertEqual(last(row("1"), shows()), [0, 1, 1])
        self.assertEqual(last(row("1001"), shows()), [0, 4, 1, 0, 0, 1])
        self.assertEqual(last(circle("011"), shows()), [1, 3, 0, 1, 1])
        self.assertEqual(last(circle("110" * 4), shows()), [1, 12] + [1, 1, 0] * 4)

    def test_behind_second(self):
        self.assertEqual(last(row("1001"), second(), shows()), [0, 4, 0, 1, 0, 1])
        self.assertEqual(last(circle("0011"), second(), shows()), [1, 4, 1, 0, 1, 0])
        self.assertEqual(last(second(), shows()), [0, 1, 0])

    def test_behind_turn(self):
        self.assertEqual(last(turn(0), shows()), [0, 1, 1])
        self.assertEqual(last(circle("0011"), turn(3), shows()), [1, 4, 0, 0, 1, 0])

    def test_behind_refusals(self):
        self.assertEqual(last(circle("0011"), turn(4), stand(3, [1]), later(1001), shows()), [1, 4, 0, 0, 1, 1])

    def test_shows_changes_nothing(self):
        self.assertEqual(told(row("10"), shows(), shows(), second()), [[1], [0, 2, 1, 0], [0, 2, 1, 0], [1, 0, 1]])


if __name__ == "__main__":
    unittest.main()
