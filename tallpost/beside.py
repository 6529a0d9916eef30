"""The calls on one picture, and what they answer.

Each call has a function here that takes the picture and the call's whole numbers and
gives back the numbers answered; CALLS tells which function, and how many it takes.
"""

from tallpost.picture import Picture, lowest

NOT_STARTED = -11
OUT_OF_RANGE = -22
NOT_READY = -16
NOT_STANDING = -33
BEYOND_ALL = -6

START = 0


def are_within(numbers, least, most):
    """Whether every number is from least to most."""
    for number in numbers:
        if number < least or number > most:
            return False
    return True


def are_seen(numbers):
    """Whether every number is one that a point's number may be."""
    return are_within(numbers, 0, 100)


def is_height(number):
    """Whether a post may be that high."""
    return are_within([number], 1, 1000)


def point_at(u, v):
    """The point u, v by three numbers."""
    return (u, v, 1)


def tell_place(point):
    """The answer that tells a point as two fractions, if it isn't beyond all."""
    if point[2] == 0:
        return [BEYOND_ALL]
    return [0] + list(lowest(point[0], point[2])) + list(lowest(point[1], point[2]))


def answer_start(picture, numbers):
    """answers() has made the picture new: there is nothing left to do."""
    return [0]


def answer_horizon(picture, numbers):
    """Take a, b, c as the horizon."""
    if not are_within(numbers[:2], -1000, 1000) or not are_within(numbers[2:], -100000, 100000):
        return [OUT_OF_RANGE]
    if numbers[0] == 0 and numbers[1] == 0:
        return [OUT_OF_RANGE]
    picture.horizon = tuple(numbers)
    return [0]


def answer_up(picture, numbers):
    """Take a, b, c as the point to which all that's upright goes."""
    if not are_within(numbers[:2], -1000, 1000) or not are_within(numbers[2:], -1, 1):
        return [OUT_OF_RANGE]
    if tuple(numbers) == (0, 0, 0):
        return [OUT_OF_RANGE]
    picture.up = tuple(numbers)
    return [0]


def answer_post(picture, numbers):
    """Take a post with its foot at u, v, its head at s, t, and n high."""
    if not are_seen(numbers[:4]) or not is_height(numbers[4]):
        return [OUT_OF_RANGE]
    picture.post_foot = point_at(numbers[0], numbers[1])
    picture.post_head = point_at(numbers[2], numbers[3])
    picture.post_height = numbers[4]
    return [0]


def answer_ready(picture, numbers):
    """Tell whether it's ready."""
    return [1 if picture.is_ready() else 0]


def answer_height(picture, numbers):
    """Tell how high something is with its foot at u, v and its head at s, t."""
    if not are_seen(numbers):
        return [OUT_OF_RANGE]
    if not picture.is_ready():
        return [NOT_READY]
    foot = point_at(numbers[0], numbers[1])
    head = point_at(numbers[2], numbers[3])
    if not picture.is_standing(foot, head):
        return [NOT_STANDING]
    return [0] + list(picture.measure(foot, head))


def answer_eye(picture, numbers):
    """Tell how high the eye is."""
    if not picture.is_ready():
        return [NOT_READY]
    return [0] + list(picture.eye_height())


def answer_head(picture, numbers):
    """Tell where the head is seen of something on u, v that's p by q high."""
    if not are_seen(numbers[:2]) or not are_within(numbers[2:3], -1000, 1000):
        return [OUT_OF_RANGE]
    if not are_within(numbers[3:], 1, 1000):
        return [OUT_OF_RANGE]
    if not picture.is_ready():
        return [NOT_READY]
    foot = point_at(numbers[0], numbers[1])
    if not picture.can_bear(foot):
        return [NOT_STANDING]
    return tell_place(picture.place_head(foot, numbers[2], numbers[3]))


CALLS = {
    0: (0, answer_start),
    1: (3, answer_horizon),
    2: (3, answer_up),
    3: (5, answer_post),
    4: (0, answer_ready),
    5: (4, answer_height),
    6: (0, answer_eye),
    7: (4, answer_head),
}


def answers(calls):
    """For each call, in order, how many numbers are answered, then these."""
    told = []
    picture = None
    place = 0
    while place < len(calls):
        row = CALLS[calls[place]]
        behind = place + 1 + row[0]
        if calls[place] == START:
            picture = Picture()
        answer = [NOT_STARTED]
        if picture is not None:
            answer = row[1](picture, calls[place + 1:behind])
        told.append(len(answer))
        told.extend(answer)
        place = behind
    return told
