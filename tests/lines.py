"""How the tests write a line of calls and read its answers."""

from turnabout.recruits import answers

GREATEST = 4294967295


def stand(ring, faces):
    return [0, ring, len(faces)] + list(faces)


def row(text):
    return stand(0, [int(sign) for sign in text])


def circle(text):
    return stand(1, [int(sign) for sign in text])


def second():
    return [1]


def turn(place):
    return [2, place]


def shows():
    return [3]


def later(s):
    return [4, s]


def rests():
    return [5]


def turns():
    return [6]


def comes_round():
    return [7]


def before():
    return [8]


def longest(n):
    return [9, n]


def joined(calls):
    numbers = []
    for call in calls:
        numbers.extend(call)
    return numbers


def told(*calls):
    """The answers of a line, one list for each call."""
    given = answers(joined(calls))
    parted = []
    start = 0
    while start < len(given):
        end = start + 1 + given[start]
        if given[start] < 1 or end > len(given):
            raise AssertionError(f"not counted as told: {given}")
        parted.append(given[start + 1:end])
        start = end
    if len(parted) != len(calls):
        raise AssertionError(f"{len(calls)} calls, {len(parted)} answers")
    return parted


def last(*calls):
    """What the last call of a line answers."""
    return told(*calls)[-1]
