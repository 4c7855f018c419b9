"""Recruits in a row or a ring, and the calls on them, handed in as one list of whole numbers."""

STAND = 0
SECOND = 1
TURN = 2
SHOWS = 3
LATER = 4

MOST_RECRUITS = 12
FEWEST_IN_ROW = 1
FEWEST_IN_RING = 3
MOST_SECONDS = 1000

CANNOT_STAND = -1
NO_SUCH_PLACE = -2
TOO_MUCH_LATER = -1


def right_neighbour(faces, place):
    """The place to the right, which for the last one is place 0."""
    return (place + 1) % len(faces)


def pairs(ring, faces):
    """The place of the left one of each two who face one another."""
    # In a row the last one has no one to the right, so no pair begins there.
    lefts = len(faces) if ring == 1 else len(faces) - 1
    return [left for left in range(lefts) if faces[left] == 1 and faces[right_neighbour(faces, left)] == 0]


def behind_a_second(ring, faces):
    """How each faces when a second has passed, as a new list."""
    behind = list(faces)
    # Each looks one way only and so is in one pair at most: the order of the pairs doesn't matter.
    for left in pairs(ring, faces):
        behind[left] = 0
        behind[right_neighbour(faces, left)] = 1
    return behind


def behind_seconds(ring, faces, seconds):
    """How each faces when so many seconds have passed, as a new list."""
    behind = list(faces)
    for passed in range(seconds):
        behind = behind_a_second(ring, behind)
    return behind


def may_stand(ring, faces):
    """Whether these are a row or a ring as the document has them."""
    if ring not in (0, 1):
        return False
    fewest = FEWEST_IN_RING if ring == 1 else FEWEST_IN_ROW
    if len(faces) < fewest or len(faces) > MOST_RECRUITS:
        return False
    return all([face in (0, 1) for face in faces])


class Recruits:
    """The recruits that a line's calls are about; each method answers one call as a list of numbers."""

    def __init__(self):
        self.ring = 0
        self.faces = [0]

    def stand(self, ring, faces):
        if not may_stand(ring, faces):
            return [CANNOT_STAND]
        self.ring = ring
        self.faces = list(faces)
        return [len(pairs(self.ring, self.faces))]

    def second(self):
        turned = len(pairs(self.ring, self.faces))
        self.faces = behind_a_second(self.ring, self.faces)
        return [turned] + self.faces

    def turn(self, place):
        if place >= len(self.faces):
            return [NO_SUCH_PLACE]
        self.faces[place] = 1 - self.faces[place]
        return [len(pairs(self.ring, self.faces))]

    def shows(self):
        return [self.ring, len(self.faces)] + self.faces

    def later(self, seconds):
        if seconds > MOST_SECONDS:
            return [TOO_MUCH_LATER]
        faces = behind_seconds(self.ring, self.faces, seconds)
        return [len(pairs(self.ring, faces))] + faces


def call_length(calls, start):
    """How many numbers the call has that begins there, its own number among them."""
    if calls[start] == STAND:
        return 3 + calls[start + 2]
    if calls[start] in (TURN, LATER):
        return 2
    return 1


def answer(recruits, call):
    """What one call answers, as a list of numbers."""
    if call[0] == STAND:
        return recruits.stand(call[1], call[3:])
    if call[0] == SECOND:
        return recruits.second()
    if call[0] == TURN:
        return recruits.turn(call[1])
    if call[0] == SHOWS:
        return recruits.shows()
    if call[0] == LATER:
        return recruits.later(call[1])
    raise NotImplementedError("this call is not written yet")


def answers(calls):
    """For each call in order: how many numbers it answers, then these."""
    recruits = Recruits()
    given = []
    start = 0
    while start < len(calls):
        end = start + call_length(calls, start)
        told = answer(recruits, calls[start:end])
        given.append(len(told))
        given.extend(told)
        start = end
    return given
