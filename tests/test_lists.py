"""Whole lists of calls, held against a second way of reckoning.

A second is reckoned over texts, by replacing 10 by 01. What takes many seconds is reckoned, where that goes, without
letting them pass: by who passes whom in a row, and by how many pairs a ring has at last.
"""

import builtins
import contextlib
import inspect
import io
import itertools
import random
import sys
import unittest

from lines import (GREATEST, before, comes_round, joined, last, later, longest, rests, second, shows, stand, told, turn,
                   turns)
from turnabout.recruits import answers


def pairs_of(ring, text):
    return (text + text[0] if ring else text).count("10")


def behind(ring, text):
    if ring and text[-1] == "1" and text[0] == "0":
        # Seen from the last one on, no pair lies across the text's ends.
        moved = (text[-1] + text[:-1]).replace("10", "01")
        return moved[1:] + moved[0]
    return text.replace("10", "01")


def numbers(text):
    return [int(sign) for sign in text]


def texts(count):
    return ["".join(signs) for signs in itertools.product("01", repeat=count)]


def kinds():
    """Each ring (1 or 0) with each number of recruits that it may have."""
    return [(ring, count) for ring in (0, 1) for count in range(3 if ring else 1, 13)]


def rest_of(text):
    """A row at rest has all who face left ahead of all who face right."""
    return "".join(sorted(text))


def rest_seconds(text):
    """Each 0 has to pass the 1s ahead of it, and comes to its end at least a second behind the 0 ahead of it."""
    seconds = ones = 0
    for sign in text:
        if sign == "1":
            ones += 1
        elif ones:
            seconds = max(seconds + 1, ones)
    return seconds


def turnings(text):
    """Each turns once for each 1 that goes over to the right, on either side of their place."""
    rest = rest_of(text)
    crossed = [text[:end].count("1") - rest[:end].count("1") for end in range(len(text) + 1)]
    return [crossed[place] + crossed[place + 1] for place in range(len(text))]


def round_of(ring, text):
    if not ring:
        return [rest_seconds(text), 1, 0]
    fewer = min(text.count("0"), text.count("1"))
    beginning = 0
    # From the second on at which so many pairs turn, all that happens is that the ring is moved on by a place.
    while pairs_of(ring, text) < fewer:
        text = behind(ring, text)
        beginning += 1
    length = (text + text).index(text, 1)
    return [beginning, length, length * fewer]


EARLIER = {}
for kind in kinds():
    for earlier in texts(kind[1]):
        EARLIER.setdefault((kind[0], behind(kind[0], earlier)), []).append(earlier)


def before_of(ring, text):
    found = EARLIER.get((ring, text), [])
    return [len(found)] + (numbers(min(found)) if found else [])


def longest_of(n):
    needed = {text: rest_seconds(text) for text in texts(n)}
    greatest = max(needed.values())
    found = [text for text in needed if needed[text] == greatest]
    return [greatest, len(found)] + numbers(min(found))


class Reckoned:
    def __init__(self):
        self.ring = 0
        self.text = "0"

    def stand(self, ring, faces):
        right = ring < 2 and len(faces) in range(3 if ring else 1, 13) and set(faces) <= {0, 1}
        if not right:
            return [-1]
        self.ring = ring
        self.text = "".join(str(face) for face in faces)
        return [pairs_of(ring, self.text)]

    def second(self):
        turned = pairs_of(self.ring, self.text)
        self.text = behind(self.ring, self.text)
        return [turned] + numbers(self.text)

    def turn(self, place):
        if place >= len(self.text):
            return [-2]
        other = "1" if self.text[place] == "0" else "0"
        self.text = self.text[:place] + other + self.text[place + 1:]
        return [pairs_of(self.ring, self.text)]

    def shows(self):
        return [self.ring, len(self.text)] + numbers(self.text)

    def later(self, s):
        if s > 1000:
            return [-1]
        text = self.text
        for _ in range(s):
            text = behind(self.ring, text)
        return [pairs_of(self.ring, text)] + numbers(text)

    def rests(self):
        if self.ring and len(set(self.text)) > 1:
            return [-6]
        return [rest_seconds(self.text)] + numbers(rest_of(self.text)) if not self.ring else [0] + numbers(self.text)

    def turns(self):
        if self.ring and len(set(self.text)) > 1:
            return [-6]
        times = turnings(self.text)
        return [sum(times)] + times

    def comes_round(self):
        return round_of(self.ring, self.text)

    def before(self):
        return before_of(self.ring, self.text)

    def longest(self, n):
        return longest_of(n) if n in range(1, 11) else [-1]


LIGHT = ["stand", "second", "second", "turn", "turn", "shows", "later", "rests", "turns", "comes_round"]
HEAVY = ["before", "longest"]


def some_call(source, names):
    """A call by name, with what it is handed."""
    name = source.choice(names)
    if name == "stand":
        ring = source.choice([0, 0, 0, 1, 1, 1, 2, GREATEST])
        faces = [source.randrange(2) for _ in range(source.randrange(17))]
        if faces and source.randrange(6) == 0:
            faces[source.randrange(len(faces))] = source.choice([2, GREATEST])
        return name, (ring, faces)
    if name == "turn":
        return name, (source.choice([0, 1, 2, 5, 11, 12, GREATEST]),)
    if name == "later":
        return name, (source.choice([0, 1, 2, 13, 999, 1000, 1001, GREATEST]),)
    if name == "longest":
        return name, (source.choice([0, 1, 2, 3, 4, 5, 6, 7, 8, 9, 10, 11, GREATEST]),)
    return name, ()


def some_calls(source, length):
    """So many calls in any order, of which at most 4 are before or longest."""
    heavy = source.sample(range(length), min(length, source.randrange(5)))
    return [some_call(source, HEAVY if at in heavy else LIGHT) for at in range(length)]


WRITTEN = {"stand": stand, "second": second, "turn": turn, "shows": shows, "later": later, "rests": rests,
           "turns": turns, "comes_round": comes_round, "before": before, "longest": longest}


class Lists(unittest.TestCase):
    def test_every_row_and_ring(self):
        for ring, count in kinds():
            for text in texts(count):
                faces = numbers(text)
                then = behind(ring, text)
                want = [[pairs_of(ring, text)], [ring, count] + faces,
                        [pairs_of(ring, then)] + numbers(then), [pairs_of(ring, text)] + numbers(then)]
                self.assertEqual(told(stand(ring, faces), shows(), later(1), second()), want)

    def test_rests_turns_and_round_of_every_row_and_ring(self):
        for ring, count in kinds():
            for text in texts(count):
                reckoned = Reckoned()
                faces = numbers(text)
                want = [reckoned.stand(ring, faces), reckoned.rests(), reckoned.turns(), reckoned.comes_round(),
                        reckoned.shows()]
                self.assertEqual(told(stand(ring, faces), rests(), turns(), comes_round(), shows()), want)

    def test_before_of_every_row_and_ring_up_to_eight(self):
        for ring, count in kinds():
            if count > 8:
                continue
            for text in texts(count):
                self.assertEqual(last(stand(ring, numbers(text)), before()), before_of(ring, text), (ring, text))

    def test_before_of_some_larger_rows_and_rings(self):
        source = random.Random(20261117)
        for ring, count in kinds():
            if count < 9:
                continue
            for text in source.sample(texts(count), 12) + ["0" * count, "1" * count, behind(ring, "10" * 6)[:count]]:
                self.assertEqual(last(stand(ring, numbers(text)), before()), before_of(ring, text), (ring, text))

    def test_longest_of_each(self):
        for n in range(1, 11):
            self.assertEqual(last(longest(n)), longest_of(n), n)

    def test_what_the_document_says_of_all(self):
        for ring, count in kinds():
            for text in texts(count):
                if ring:
                    beginning, length, turned = last(stand(1, numbers(text)), comes_round())
                    self.assertEqual(turned, length * min(text.count("0"), text.count("1")), text)
                else:
                    self.assertLessEqual(last(stand(0, numbers(text)), rests())[0], count - 1, text)

    def test_many_lists(self):
        source = random.Random(20261116)
        for length in list(range(1, 41)) * 5:
            reckoned = Reckoned()
            calls, want = [], []
            for name, handed in some_calls(source, length):
                calls.append(WRITTEN[name](*handed))
                want.append(getattr(reckoned, name)(*handed))
            self.assertEqual(told(*calls), want, calls)

    def test_how_answers_stand(self):
        self.assertEqual(answers([3]), [3, 0, 1, 0])
        self.assertEqual(answers([0, 0, 3, 1, 1, 0, 1, 2, 3, 2, 0, 3, 4, 0, 4, 1001]),
                         [1, 1, 4, 1, 1, 0, 1, 1, -2, 1, 0, 5, 0, 3, 0, 0, 1, 4, 0, 0, 0, 1, 1, -1])
        self.assertEqual(answers([5, 6, 7, 8, 9, 1]), [2, 0, 0, 2, 0, 0, 3, 0, 1, 0, 2, 1, 0, 3, 0, 2, 0])
        self.assertEqual(answers([0, 0, 3, 1, 0, 0, 5, 6, 7, 8, 9, 2, 9, 11]),
                         [1, 1, 4, 2, 0, 0, 1, 4, 4, 1, 2, 1, 3, 2, 1, 0, 1, 0, 4, 1, 1, 1, 0, 1, -1])
        self.assertEqual(answers([0, 1, 3, 1, 0, 0, 5, 6, 7, 8, 9, 0, 3]),
                         [1, 1, 1, -6, 1, -6, 3, 0, 3, 3, 4, 1, 0, 0, 1, 1, -1, 5, 1, 3, 1, 0, 0])

    def test_all_ten_in_one_list(self):
        self.assertEqual(told(stand(0, [1, 1, 0, 0]), rests(), longest(3), turns(), second(), before(), turn(0),
                              comes_round(), later(2), shows()),
                         [[1], [3, 0, 0, 1, 1], [2, 2, 1, 0, 0], [8, 1, 3, 3, 1], [1, 1, 0, 1, 0], [1, 1, 1, 0, 0],
                          [1], [1, 1, 0], [0, 0, 0, 0, 1], [0, 4, 0, 0, 1, 0]])

    def test_forty_of_the_longest(self):
        call = stand(0, [2] * 16)
        self.assertEqual(answers(call * 40), [1, -1] * 40)
        calls = [stand(1, [0, 1] * 6)] + [later(1000)] * 39
        self.assertEqual(told(*calls), [[6]] + [[6] + [0, 1] * 6] * 39)
        calls = [stand(0, [1] * 6 + [0] * 6)] + [rests(), turns(), comes_round()] * 11 + [longest(10), before()] * 2
        self.assertEqual(told(*calls, turns(), shows()),
                         [[1]] + [[11] + [0] * 6 + [1] * 6, [72] + [1, 3, 5, 7, 9, 11, 11, 9, 7, 5, 3, 1],
                                  [11, 1, 0]] * 11 + [[9, 9, 1] + [0] * 9, [0]] * 2
                         + [[72] + [1, 3, 5, 7, 9, 11, 11, 9, 7, 5, 3, 1], [0, 12] + [1] * 6 + [0] * 6])

    def test_few_calls_within_one_another(self):
        line = joined([stand(0, [1] * 6 + [0] * 6)] + [later(1000), rests(), turns(), comes_round()] * 8
                      + [before(), longest(10)] * 2)
        want = answers(line)
        allowed = sys.getrecursionlimit()
        sys.setrecursionlimit(len(inspect.stack()) + 20)
        try:
            given = answers(line)
        finally:
            sys.setrecursionlimit(allowed)
        self.assertEqual(given, want)

    def test_numbers_within_faces_are_no_calls(self):
        self.assertEqual(told(stand(0, [3, 3, 3]), shows()), [[-1], [0, 1, 0]])
        self.assertEqual(told(stand(2, [0, 0, 1, 1]), shows()), [[-1], [0, 1, 0]])
        self.assertEqual(told(turn(3), later(1), shows()), [[-2], [0, 0], [0, 1, 0]])
        self.assertEqual(told(longest(11), stand(0, [9, 8]), shows()), [[-1], [-1], [0, 1, 0]])
        self.assertEqual(told(longest(2), shows()), [[1, 1, 1, 0], [0, 1, 0]])


class HandedIn(unittest.TestCase):
    LINE = joined([stand(1, [1, 0, 0, 1, 1]), second(), turn(0), turn(5), shows(), later(9), rests(), turns(),
                   comes_round(), before(), longest(3), stand(0, [2]), stand(0, [1, 0]), rests(), turns(),
                   comes_round(), before(), longest(11), turn(1), second(), shows()])

    def test_it_is_not_changed(self):
        calls = list(self.LINE)
        answers(calls)
        self.assertEqual(calls, self.LINE)

    def test_it_is_not_changed_for_a_while(self):
        def refuse(*rest):
            raise AssertionError("what is handed in was changed")
        changes = ["append", "clear", "extend", "insert", "pop", "remove", "reverse", "sort",
                   "__setitem__", "__delitem__", "__iadd__", "__imul__"]
        watched = type("Watched", (list,), {name: refuse for name in changes})
        self.assertEqual(answers(watched(self.LINE)), answers(list(self.LINE)))

    def test_nothing_is_kept(self):
        first = answers(self.LINE)
        self.assertEqual(answers(self.LINE), first)
        self.assertEqual(answers([3]), [3, 0, 1, 0])
        answers(turn(0))
        self.assertEqual(answers([3]), [3, 0, 1, 0])

    def test_what_is_given_back_is_the_callers_own(self):
        first = answers(self.LINE)
        kept = list(first)
        first.clear()
        self.assertEqual(answers(self.LINE), kept)

    def test_kinds(self):
        given = answers(self.LINE)
        self.assertIs(type(given), list)
        self.assertEqual({type(number) for number in given}, {int})

    def test_nothing_is_printed_read_or_imported(self):
        def refuse(*rest, **named):
            raise AssertionError("nothing is to be read or imported")
        out, err = io.StringIO(), io.StringIO()
        replaced = {"open": refuse, "input": refuse, "__import__": refuse}
        kept = {name: getattr(builtins, name) for name in replaced}
        with contextlib.redirect_stdout(out), contextlib.redirect_stderr(err):
            for name in replaced:
                setattr(builtins, name, replaced[name])
            try:
                answers(self.LINE)
            finally:
                for name in kept:
                    setattr(builtins, name, kept[name])
        self.assertEqual((out.getvalue(), err.getvalue()), ("", ""))


if __name__ == "__main__":
    unittest.main()
