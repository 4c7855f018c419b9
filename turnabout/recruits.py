"""Recruits in a row or a ring, and the calls on them, handed in as one list of whole numbers."""

STAND = 0
SECOND = 1
TURN = 2
SHOWS = 3
LATER = 4
RESTS = 5
TURNS = 6
ROUND = 7
BEFORE = 8
LONGEST = 9

MOST_RECRUITS = 12
FEWEST_IN_ROW = 1
FEWEST_IN_RING = 3
MOST_SECONDS = 1000
FEWEST_IN_LONGEST = 1
MOST_IN_LONGEST = 10

CANNOT_STAND = -1
NO_SUCH_PLACE = -2
TOO_MUCH_LATER = -1
NEVER_AT_REST = -6
NO_LONGEST = -1


def right_neighbour(faces, place):
    """The place to the right, which for the last one is place 0."""
    return (place + 1) % len(faces)


def pairs(ring, faces):
    """The place of the left one of each two who face one another."""
    # In a row the last one has no one to the right, so no pair begins there.
    lefts = len(faces) if ring == 1 else len(faces) - 1
    return [left for left in range(lefts) if faces[left] == 1 and faces[right_neighbour(faces, left)] == 0]


def behind_a_second(ring, faces):
    """How each faces when a second has passed, as a new list."""
    behind = list(faces)
    # Each looks one way only and so is in one pair at most: the order of the pairs doesn't matter.
    for left in pairs(ring, faces):
        behind[left] = 0
        behind[right_neighbour(faces, left)] = 1
    return behind


def behind_seconds(ring, faces, seconds):
    """How each faces when so many seconds have passed, as a new list."""
    behind = list(faces)
    for passed in range(seconds):
        behind = behind_a_second(ring, behind)
    return behind


def at_rest(ring, faces):
    """Whether none face one another."""
    return len(pairs(ring, faces)) == 0


def never_at_rest(ring, faces):
    """Whether no second will ever bring rest."""
    # A second leaves as many facing right as there were, and a ring with both kinds always has a pair.
    return ring == 1 and not at_rest(ring, faces)


def till_rest(ring, faces):
    """How each faces now, and behind each second till it's at rest; only for those who come to rest."""
    course = [list(faces)]
    while not at_rest(ring, course[-1]):
        course.append(behind_a_second(ring, course[-1]))
    return course


def seconds_till_rest(row):
    """Behind how many seconds a row is at rest."""
    return len(till_rest(0, row)) - 1


def turned_times(course, place):
    """How often the one at this place turned about in the course of these seconds."""
    return sum([abs(course[passed + 1][place] - course[passed][place]) for passed in range(len(course) - 1)])


def till_known(ring, faces):
    """How each faces now, and behind each second for as long as they don't face as they did earlier."""
    course = []
    then = list(faces)
    while then not in course:
        course.append(then)
        then = behind_a_second(ring, then)
    return course


def rows_of(count):
    """Every row of so many, in order."""
    rows = [[]]
    for added in range(count):
        # Whoever is added stands at place 0, so those with 0 there come first and the order within stays.
        rows = [[0] + row for row in rows] + [[1] + row for row in rows]
    return rows


def may_stand(ring, faces):
    """Whether these are a row or a ring as the document has them."""
    if ring not in (0, 1):
        return False
    fewest = FEWEST_IN_RING if ring == 1 else FEWEST_IN_ROW
    if len(faces) < fewest or len(faces) > MOST_RECRUITS:
        return False
    return all([face in (0, 1) for face in faces])


class Recruits:
    """The recruits that a line's calls are about; each method answers one call as a list of numbers."""

    def __init__(self):
        self.ring = 0
        self.faces = [0]

    def stand(self, ring, faces):
        if not may_stand(ring, faces):
            return [CANNOT_STAND]
        self.ring = ring
        self.faces = list(faces)
        return [len(pairs(self.ring, self.faces))]

    def second(self):
        turned = len(pairs(self.ring, self.faces))
        self.faces = behind_a_second(self.ring, self.faces)
        return [turned] + self.faces

    def turn(self, place):
        if place >= len(self.faces):
            return [NO_SUCH_PLACE]
        self.faces[place] = 1 - self.faces[place]
        return [len(pairs(self.ring, self.faces))]

    def shows(self):
        return [self.ring, len(self.faces)] + self.faces

    def later(self, seconds):
        if seconds > MOST_SECONDS:
            return [TOO_MUCH_LATER]
        faces = behind_seconds(self.ring, self.faces, seconds)
        return [len(pairs(self.ring, faces))] + faces

    def rests(self):
        if never_at_rest(self.ring, self.faces):
            return [NEVER_AT_REST]
        course = till_rest(self.ring, self.faces)
        return [len(course) - 1] + course[-1]

    def turns(self):
        if never_at_rest(self.ring, self.faces):
            return [NEVER_AT_REST]
        course = till_rest(self.ring, self.faces)
        times = [turned_times(course, place) for place in range(len(self.faces))]
        return [sum(times)] + times

    def comes_round(self):
        course = till_known(self.ring, self.faces)
        beginning = course.index(behind_a_second(self.ring, course[-1]))
        turned = [len(pairs(self.ring, faces)) for faces in course[beginning:]]
        return [beginning, len(turned), sum(turned)]

    def before(self):
        earlier = [row for row in rows_of(len(self.faces)) if behind_a_second(self.ring, row) == self.faces]
        first = earlier[0] if len(earlier) > 0 else []
        return [len(earlier)] + first

    def longest(self, count):
        if count < FEWEST_IN_LONGEST or count > MOST_IN_LONGEST:
            return [NO_LONGEST]
        rows = rows_of(count)
        needed = [seconds_till_rest(row) for row in rows]
        greatest = max(needed)
        return [greatest, needed.count(greatest)] + rows[needed.index(greatest)]


def call_length(calls, start):
    """How many numbers the call has that begins there, its own number among them."""
    if calls[start] == STAND:
        return 3 + calls[start + 2]
    if calls[start] in (TURN, LATER, LONGEST):
        return 2
    return 1


def answer(recruits, call):
    """What one call answers, as a list of numbers."""
    if call[0] == STAND:
        return recruits.stand(call[1], call[3:])
    if call[0] == SECOND:
        return recruits.second()
    if call[0] == TURN:
        return recruits.turn(call[1])
    if call[0] == SHOWS:
        return recruits.shows()
    if call[0] == LATER:
        return recruits.later(call[1])
    if call[0] == RESTS:
        return recruits.rests()
    if call[0] == TURNS:
        return recruits.turns()
    if call[0] == ROUND:
        return recruits.comes_round()
    if call[0] == BEFORE:
        return recruits.before()
    return recruits.longest(call[1])


def answers(calls):
    """For each call in order: how many numbers it answers, then these."""
    recruits = Recruits()
    given = []
    start = 0
    while start < len(calls):
        end = start + call_length(calls, start)
        told = answer(recruits, calls[start:end])
        given.append(len(told))
        given.extend(told)
        start = end
    return given
