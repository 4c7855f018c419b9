import unittest

from lines import GREATEST, circle, last, row, second, shows, stand, told
from turnabout.recruits import answers


class Stands(unittest.TestCase):
    def test_rows(self):
        for text, count in [("0", 0), ("1", 0), ("00", 0), ("01", 0), ("11", 0), ("10", 1),
                            ("100", 1), ("110", 1), ("011", 0), ("1010", 2), ("0101", 1), ("110010", 2)]:
            self.assertEqual(last(row(text)), [count], text)

    def test_rows_of_one(self):
        self.assertEqual(told(row("0"), shows()), [[0], [0, 1, 0]])
        self.assertEqual(told(row("1"), shows()), [[0], [0, 1, 1]])

    def test_row_of_two_may_stand(self):
        self.assertEqual(told(row("10"), shows()), [[1], [0, 2, 1, 0]])

    def test_row_of_twelve(self):
        self.assertEqual(told(row("101010101010"), shows()), [[6], [0, 12] + [1, 0] * 6])

    def test_a_row_has_no_pair_of_last_and_first(self):
        self.assertEqual(last(row("001")), [0])
        self.assertEqual(last(row("000000000001")), [0])

    def test_rings(self):
        for text, count in [("000", 0), ("111", 0), ("100", 1), ("010", 1), ("001", 1),
                            ("110", 1), ("011", 1), ("101", 1), ("0101", 2), ("1010", 2), ("0011", 1)]:
            self.assertEqual(last(circle(text)), [count], text)

    def test_ring_of_twelve(self):
        self.assertEqual(told(circle("010101010101"), shows()), [[6], [1, 12] + [0, 1] * 6])

    def test_the_newer_takes_the_place_of_the_older(self):
        self.assertEqual(told(circle("1010"), row("011"), shows(), circle("001"), shows()),
                         [[2], [0], [0, 3, 0, 1, 1], [1], [1, 3, 0, 0, 1]])

    def test_a_refusal_is_one_number(self):
        self.assertEqual(answers(stand(2, [0])), [1, -1])


class Refusals(unittest.TestCase):
    def refused(self, ring, faces):
        call = stand(ring, faces)
        self.assertEqual(told(call, shows()), [[-1], [0, 1, 0]], (ring, faces))
        for before in (row("10110"), circle("0101"), circle("110100101101")):
            shown = last(before, shows())
            self.assertEqual(told(before, call, shows()), [told(before)[0], [-1], shown], (ring, faces))
        # Nor does what comes later see anything of what was refused.
        self.assertEqual(told(circle("011"), call, second()), [[1], [-1], [1, 1, 1, 0]], (ring, faces))

    def test_ring_is_neither(self):
        for ring in (2, 3, GREATEST):
            self.refused(ring, [0, 1, 0])
            self.refused(ring, [1])

    def test_no_one(self):
        self.refused(0, [])
        self.refused(1, [])

    def test_too_many(self):
        for count in (13, 14, 15, 16):
            self.refused(0, [1] * count)
            self.refused(1, [0] * count)

    def test_too_few_in_a_ring(self):
        for faces in ([0], [1], [0, 0], [0, 1], [1, 0], [1, 1]):
            self.refused(1, faces)

    def test_one_who_faces_neither(self):
        for wrong in (2, 3, GREATEST):
            for ring in (0, 1):
                for place in range(4):
                    faces = [1, 0, 1, 0]
                    faces[place] = wrong
                    self.refused(ring, faces)
            for place in (0, 11):
                faces = [0] * 12
                faces[place] = wrong
                self.refused(0, faces)
                self.refused(1, faces)
            self.refused(0, [wrong])

    def test_several_grounds_at_once(self):
        self.refused(GREATEST, [])
        self.refused(2, [GREATEST] * 16)
        self.refused(1, [2])
        self.refused(0, [2] * 13)


if __name__ == "__main__":
    unittest.main()
