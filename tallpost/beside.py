"""The calls on one picture, and what they answer.

Each call has a function here that takes the picture and the call's whole numbers and
gives back the numbers answered; CALLS tells which function, and how many it takes.
"""

from tallpost.picture import Picture, excess, is_same, lowest

NOT_STARTED = -11
OUT_OF_RANGE = -22
SAME_POINT = -17
NOT_READY = -16
NOT_STANDING = -33
BEYOND_ALL = -6

START = 0


def are_within(numbers, least, most):
    """Whether every number is from least to most."""
    for number in numbers:
        if number < least or number > most:
            return False
    return True


def are_seen(numbers):
    """Whether every number is one that a point's number may be."""
    return are_within(numbers, 0, 100)


def is_height(number):
    """Whether a post may be that high."""
    return are_within([number], 1, 1000)


def points_of(numbers):
    """The points that are told by two numbers each, as three numbers each."""
    return [(numbers[place], numbers[place + 1], 1) for place in range(0, len(numbers), 2)]


def one_if(truth):
    """The number that answers whether something is so."""
    return 1 if truth else 0


def one_or_two(balance):
    """The number that answers to which of two something falls: 1 above 0, 2 below, 0 to neither."""
    if balance == 0:
        return 0
    return 1 if balance > 0 else 2


def tell_place(point):
    """The answer that tells a point as two fractions, if it isn't beyond all."""
    if point[2] == 0:
        return [BEYOND_ALL]
    return [0] + list(lowest(point[0], point[2])) + list(lowest(point[1], point[2]))


def answer_start(picture, numbers):
    """answers() has made the picture new: there is nothing left to do."""
    return [0]


def answer_horizon(picture, numbers):
    """Take a, b, c as the horizon."""
    if not are_within(numbers[:2], -1000, 1000) or not are_within(numbers[2:], -100000, 100000):
        return [OUT_OF_RANGE]
    if numbers[0] == 0 and numbers[1] == 0:
        return [OUT_OF_RANGE]
    picture.horizon = tuple(numbers)
    return [0]


def answer_up(picture, numbers):
    """Take a, b, c as the point to which all that's upright goes."""
    if not are_within(numbers[:2], -1000, 1000) or not are_within(numbers[2:], -1, 1):
        return [OUT_OF_RANGE]
    if tuple(numbers) == (0, 0, 0):
        return [OUT_OF_RANGE]
    picture.up = tuple(numbers)
    return [0]


def answer_post(picture, numbers):
    """Take a post with its foot at u, v, its head at s, t, and n high."""
    if not are_seen(numbers[:4]) or not is_height(numbers[4]):
        return [OUT_OF_RANGE]
    points = points_of(numbers[:4])
    picture.post_foot = points[0]
    picture.post_head = points[1]
    picture.post_height = numbers[4]
    return [0]


def answer_ready(picture, numbers):
    """Tell whether it's ready."""
    return [one_if(picture.is_ready())]


def answer_height(picture, numbers):
    """Tell how high something is with its foot at u, v and its head at s, t."""
    if not are_seen(numbers):
        return [OUT_OF_RANGE]
    if not picture.is_ready():
        return [NOT_READY]
    points = points_of(numbers)
    if not picture.is_standing(points[0], points[1]):
        return [NOT_STANDING]
    return [0] + list(picture.measure(points[0], points[1]))


def answer_eye(picture, numbers):
    """Tell how high the eye is."""
    if not picture.is_ready():
        return [NOT_READY]
    return [0] + list(picture.eye_height())


def answer_head(picture, numbers):
    """Tell where the head is seen of something on u, v that's p by q high."""
    if not are_seen(numbers[:2]) or not are_within(numbers[2:3], -1000, 1000):
        return [OUT_OF_RANGE]
    if not are_within(numbers[3:], 1, 1000):
        return [OUT_OF_RANGE]
    if not picture.is_ready():
        return [NOT_READY]
    foot = points_of(numbers[:2])[0]
    if not picture.can_bear(foot):
        return [NOT_STANDING]
    return tell_place(picture.place_head(foot, numbers[2], numbers[3]))


def answer_taller(picture, numbers):
    """Tell which of two is higher: the one on u, v with its head at s, t, or that on a, b with d, e."""
    if not are_seen(numbers):
        return [OUT_OF_RANGE]
    if not picture.is_ready():
        return [NOT_READY]
    points = points_of(numbers)
    if not picture.is_standing(points[0], points[1]) or not picture.is_standing(points[2], points[3]):
        return [NOT_STANDING]
    first = picture.measure(points[0], points[1])
    second = picture.measure(points[2], points[3])
    return [one_or_two(excess(first, second))]


def answer_side(picture, numbers):
    """Tell on which side of the horizon u, v is."""
    if not are_seen(numbers):
        return [OUT_OF_RANGE]
    if not picture.is_ready():
        return [NOT_READY]
    return [one_or_two(picture.side(points_of(numbers)[0]))]


def answer_like(picture, numbers):
    """Tell where the head would be seen of something on a, b that's as high as that on u, v with its head at s, t."""
    if not are_seen(numbers):
        return [OUT_OF_RANGE]
    if not picture.is_ready():
        return [NOT_READY]
    points = points_of(numbers)
    if not picture.is_standing(points[0], points[1]) or not picture.can_bear(points[2]):
        return [NOT_STANDING]
    height = picture.measure(points[0], points[1])
    return tell_place(picture.place_head(points[2], height[0], height[1]))


def answer_rule(picture, numbers):
    """Tell how high the post would be, were something on u, v with its head at s, t n high."""
    if not are_seen(numbers[:4]) or not is_height(numbers[4]):
        return [OUT_OF_RANGE]
    if not picture.is_ready():
        return [NOT_READY]
    points = points_of(numbers[:4])
    if not picture.is_standing(points[0], points[1]) or is_same(points[0], points[1]):
        return [NOT_STANDING]
    return [0] + list(picture.post_height_by(points[0], points[1], numbers[4]))


def answer_stands(picture, numbers):
    """Tell whether something stands with its foot at u, v and its head at s, t."""
    if not are_seen(numbers):
        return [OUT_OF_RANGE]
    if not picture.is_ready():
        return [NOT_READY]
    points = points_of(numbers)
    return [one_if(picture.is_standing(points[0], points[1]))]


def answer_meet(picture, numbers):
    """Tell where the line through u, v and s, t meets the horizon."""
    if not are_seen(numbers):
        return [OUT_OF_RANGE]
    points = points_of(numbers)
    if is_same(points[0], points[1]):
        return [SAME_POINT]
    # Up and post have no part in this, so it needn't be ready.
    if picture.horizon is None:
        return [NOT_READY]
    return tell_place(picture.meet(points[0], points[1]))


def answer_state(picture, numbers):
    """Tell whether it's ready, and which of horizon, up and post are told."""
    told = [picture.horizon is not None, picture.up is not None, picture.post_foot is not None]
    return [one_if(picture.is_ready())] + [one_if(truth) for truth in told]


CALLS = {
    0: (0, answer_start),
    1: (3, answer_horizon),
    2: (3, answer_up),
    3: (5, answer_post),
    4: (0, answer_ready),
    5: (4, answer_height),
    6: (0, answer_eye),
    7: (4, answer_head),
    8: (8, answer_taller),
    9: (2, answer_side),
    10: (6, answer_like),
    11: (5, answer_rule),
    12: (4, answer_stands),
    13: (4, answer_meet),
    14: (0, answer_state),
}


def answers(calls):
    """For each call, in order, how many numbers are answered, then these."""
    told = []
    picture = None
    place = 0
    while place < len(calls):
        row = CALLS[calls[place]]
        behind = place + 1 + row[0]
        if calls[place] == START:
            picture = Picture()
        answer = [NOT_STARTED]
        if picture is not None:
            answer = row[1](picture, calls[place + 1:behind])
        told.append(len(answer))
        told.extend(answer)
        place = behind
    return told
