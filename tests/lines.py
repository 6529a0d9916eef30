"""What the tests share: calls by name, lines of calls, and three pictures."""

from tallpost.beside import answers

NUMBERS = {
    "start": 0, "horizon": 1, "up": 2, "post": 3, "ready": 4, "height": 5, "eye": 6, "head": 7,
    "taller": 8, "side": 9, "like": 10, "rule": 11, "stands": 12, "meet": 13, "state": 14,
}

LEAST = -(2 ** 31)
MOST = 2 ** 31 - 1

START = ("start",)
READY = ("ready",)
EYE = ("eye",)
STATE = ("state",)

# The horizon is the row v = 10, and all that's upright goes straight up the picture.
# The post's rise is 50 - 30 = 20 and its foot makes 50 - 10 = 40: a rise of r on a
# foot that makes m is 2 * r / 20 * 40 / m = 4 r / m high, and the eye is 4 high.
LEVEL_HORIZON = ("horizon", 0, 1, -10)
LEVEL_UP = ("up", 0, 1, 0)
LEVEL_POST = ("post", 20, 50, 20, 30, 2)
LEVEL = [START, LEVEL_HORIZON, LEVEL_UP, LEVEL_POST]

# The same horizon, but up is the point 50, 190. The post's rise is
# (80 - 25) / (190 - 25) = 1/3 and its foot makes 70: a rise of r on a foot that
# makes m is 3 * 3 r * 70 / m = 630 r / m high, and the eye is 630 / 180 = 7/2 high.
TILTED_UP = ("up", 50, 190, 1)
TILTED_POST = ("post", 50, 80, 50, 25, 3)
TILTED = [START, LEVEL_HORIZON, TILTED_UP, TILTED_POST]

# Here up is seen, at 50, 100. The post's rise is (70 - 40) / (100 - 40) = 1/2 and its
# foot makes 60: a rise of r on a foot that makes m is 120 r / m high, the eye 4/3.
NEAR_UP = ("up", 50, 100, 1)
NEAR_POST = ("post", 50, 70, 50, 40, 1)
NEAR = [START, LEVEL_HORIZON, NEAR_UP, NEAR_POST]

# Lines behind which it isn't ready.
UNREADY = [
    [START],
    [START, LEVEL_HORIZON, LEVEL_UP],
    [START, LEVEL_HORIZON, LEVEL_POST],
    [START, LEVEL_UP, LEVEL_POST],
    [START, LEVEL_HORIZON, LEVEL_UP, ("post", 20, 50, 20, 50, 2)],
    [START, LEVEL_HORIZON, LEVEL_UP, ("post", 20, 50, 21, 30, 2)],
    [START, LEVEL_HORIZON, ("up", 50, 25, 1), TILTED_POST],
    [START, LEVEL_HORIZON, TILTED_UP],
]

# One of each call that asks, with what each answers behind LEVEL.
ASKED = {
    READY: [1],
    ("height", 60, 90, 60, 50): [0, 2, 1],
    EYE: [0, 4, 1],
    ("head", 60, 90, 2, 1): [0, 60, 1, 50, 1],
    ("taller", 60, 90, 60, 60, 20, 50, 20, 30): [2],
    ("side", 30, 9): [2],
    ("like", 20, 50, 20, 30, 60, 90): [0, 60, 1, 50, 1],
    ("rule", 60, 90, 60, 60, 3): [0, 4, 1],
    ("stands", 60, 90, 60, 50): [1],
    ("meet", 20, 50, 30, 30): [0, 40, 1, 10, 1],
    STATE: [1, 1, 1, 1],
}


def flat(calls):
    """The list of whole numbers for calls that are told by name."""
    numbers = []
    for call in calls:
        numbers.append(NUMBERS[call[0]])
        numbers.extend(call[1:])
    return numbers


def parted(told):
    """What answers() gives back, as one list a call."""
    parts = []
    place = 0
    while place < len(told):
        behind = place + 1 + told[place]
        if told[place] < 1 or behind > len(told):
            raise ValueError("the counts don't fit: " + repr(told))
        parts.append(told[place + 1:behind])
        place = behind
    return parts


def ask(calls):
    """One list of answered numbers for each call."""
    parts = parted(answers(flat(calls)))
    if len(parts) != len(calls):
        raise ValueError("not one answer a call: " + repr(parts))
    return parts


def last(calls):
    """What the last call answers."""
    return ask(calls)[-1]


def behind(line, calls):
    """What the calls answer that stand behind that line."""
    return ask(line + calls)[len(line):]


def put(call, place, number):
    """The call with its number at that place (0 the first) replaced."""
    return call[:place + 1] + (number,) + call[place + 2:]
