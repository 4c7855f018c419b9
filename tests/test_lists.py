"""Whole lists of calls, held against a second way of reckoning: over texts, by replacing 10 by 01."""

import builtins
import contextlib
import io
import itertools
import random
import unittest

from lines import GREATEST, joined, later, second, shows, stand, told, turn
from turnabout.recruits import answers


def pairs_of(ring, text):
    return (text + text[0] if ring else text).count("10")


def behind(ring, text):
    if ring and text[-1] == "1" and text[0] == "0":
        # Seen from the last one on, no pair lies across the text's ends.
        moved = (text[-1] + text[:-1]).replace("10", "01")
        return moved[1:] + moved[0]
    return text.replace("10", "01")


def numbers(text):
    return [int(sign) for sign in text]


class Reckoned:
    def __init__(self):
        self.ring = 0
        self.text = "0"

    def stand(self, ring, faces):
        right = ring < 2 and len(faces) in range(3 if ring else 1, 13) and set(faces) <= {0, 1}
        if not right:
            return [-1]
        self.ring = ring
        self.text = "".join(str(face) for face in faces)
        return [pairs_of(ring, self.text)]

    def second(self):
        turned = pairs_of(self.ring, self.text)
        self.text = behind(self.ring, self.text)
        return [turned] + numbers(self.text)

    def turn(self, place):
        if place >= len(self.text):
            return [-2]
        other = "1" if self.text[place] == "0" else "0"
        self.text = self.text[:place] + other + self.text[place + 1:]
        return [pairs_of(self.ring, self.text)]

    def shows(self):
        return [self.ring, len(self.text)] + numbers(self.text)

    def later(self, s):
        if s > 1000:
            return [-1]
        text = self.text
        for _ in range(s):
            text = behind(self.ring, text)
        return [pairs_of(self.ring, text)] + numbers(text)


def some_call(source):
    """A call by name, with what it is handed."""
    name = source.choice(["stand", "second", "second", "turn", "turn", "shows", "later"])
    if name == "stand":
        ring = source.choice([0, 0, 0, 1, 1, 1, 2, GREATEST])
        faces = [source.randrange(2) for _ in range(source.randrange(17))]
        if faces and source.randrange(6) == 0:
            faces[source.randrange(len(faces))] = source.choice([2, GREATEST])
        return name, (ring, faces)
    if name == "turn":
        return name, (source.choice([0, 1, 2, 5, 11, 12, GREATEST]),)
    if name == "later":
        return name, (source.choice([0, 1, 2, 13, 999, 1000, 1001, GREATEST]),)
    return name, ()


WRITTEN = {"stand": stand, "second": second, "turn": turn, "shows": shows, "later": later}


class Lists(unittest.TestCase):
    def test_every_row_and_ring(self):
        for count in range(1, 13):
            for ring in (0, 1) if count > 2 else (0,):
                for signs in itertools.product("01", repeat=count):
                    text = "".join(signs)
                    faces = numbers(text)
                    then = behind(ring, text)
                    want = [[pairs_of(ring, text)], [ring, count] + faces,
                            [pairs_of(ring, then)] + numbers(then), [pairs_of(ring, text)] + numbers(then)]
                    self.assertEqual(told(stand(ring, faces), shows(), later(1), second()), want)

    def test_many_lists(self):
        source = random.Random(20261116)
        for length in list(range(1, 41)) * 5:
            reckoned = Reckoned()
            calls, want = [], []
            for _ in range(length):
                name, handed = some_call(source)
                calls.append(WRITTEN[name](*handed))
                want.append(getattr(reckoned, name)(*handed))
            self.assertEqual(told(*calls), want, calls)

    def test_how_answers_stand(self):
        self.assertEqual(answers([3]), [3, 0, 1, 0])
        self.assertEqual(answers([0, 0, 3, 1, 1, 0, 1, 2, 3, 2, 0, 3, 4, 0, 4, 1001]),
                         [1, 1, 4, 1, 1, 0, 1, 1, -2, 1, 0, 5, 0, 3, 0, 0, 1, 4, 0, 0, 0, 1, 1, -1])

    def test_forty_of_the_longest(self):
        call = stand(0, [2] * 16)
        self.assertEqual(answers(call * 40), [1, -1] * 40)
        calls = [stand(1, [0, 1] * 6)] + [later(1000)] * 39
        self.assertEqual(told(*calls), [[6]] + [[6] + [0, 1] * 6] * 39)

    def test_numbers_within_faces_are_no_calls(self):
        self.assertEqual(told(stand(0, [3, 3, 3]), shows()), [[-1], [0, 1, 0]])
        self.assertEqual(told(stand(2, [0, 0, 1, 1]), shows()), [[-1], [0, 1, 0]])
        self.assertEqual(told(turn(3), later(1), shows()), [[-2], [0, 0], [0, 1, 0]])


class HandedIn(unittest.TestCase):
    LINE = joined([stand(1, [1, 0, 0, 1, 1]), second(), turn(0), turn(5), shows(), later(9), stand(0, [2]),
                   stand(0, [1, 0]), turn(1), second(), shows()])

    def test_it_is_not_changed(self):
        calls = list(self.LINE)
        answers(calls)
        self.assertEqual(calls, self.LINE)

    def test_it_is_not_changed_for_a_while(self):
        def refuse(*rest):
            raise AssertionError("what is handed in was changed")
        changes = ["append", "clear", "extend", "insert", "pop", "remove", "reverse", "sort",
                   "__setitem__", "__delitem__", "__iadd__", "__imul__"]
        watched = type("Watched", (list,), {name: refuse for name in changes})
        self.assertEqual(answers(watched(self.LINE)), answers(list(self.LINE)))

    def test_nothing_is_kept(self):
        first = answers(self.LINE)
        self.assertEqual(answers(self.LINE), first)
        self.assertEqual(answers([3]), [3, 0, 1, 0])
        answers(turn(0))
        self.assertEqual(answers([3]), [3, 0, 1, 0])

    def test_what_is_given_back_is_the_callers_own(self):
        first = answers(self.LINE)
        kept = list(first)
        first.clear()
        self.assertEqual(answers(self.LINE), kept)

    def test_kinds(self):
        given = answers(self.LINE)
        self.assertIs(type(given), list)
        self.assertEqual({type(number) for number in given}, {int})

    def test_nothing_is_printed_read_or_imported(self):
        def refuse(*rest, **named):
            raise AssertionError("nothing is to be read or imported")
        out, err = io.StringIO(), io.StringIO()
        replaced = {"open": refuse, "input": refuse, "__import__": refuse}
        kept = {name: getattr(builtins, name) for name in replaced}
        with contextlib.redirect_stdout(out), contextlib.redirect_stderr(err):
            for name in replaced:
                setattr(builtins, name, replaced[name])
            try:
                answers(self.LINE)
            finally:
                for name in kept:
                    setattr(builtins, name, kept[name])
        self.assertEqual((out.getvalue(), err.getvalue()), ("", ""))


if __name__ == "__main__":
    unittest.main()
