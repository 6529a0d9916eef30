"""A picture with its horizon, up and post, and the heights that these tell.

A point or a line is a tuple of three whole numbers, which counts up to a factor.
A fraction is a tuple of two whole numbers, above and below. While it is worked with,
its two may have something in common and either sign; lowest() makes what is answered.
"""


def greatest_shared(first, second):
    """The greatest whole number that goes into both."""
    shared = abs(first)
    rest = abs(second)
    while rest != 0:
        left = shared % rest
        shared = rest
        rest = left
    return shared


def lowest(above, below):
    """The fraction with nothing in common, and 1 or more below."""
    shared = greatest_shared(above, below)
    if below < 0:
        shared = -shared
    return (above // shared, below // shared)


def excess(first, second):
    """Above 0 if the first fraction is the greater, below 0 if the second is, 0 if they're alike."""
    # Both are as lowest() makes them: what's below is above 0 and turns no sign.
    return first[0] * second[1] - second[0] * first[1]


def makes(line, point):
    """What a point makes with a line: 0 if it is on it."""
    return line[0] * point[0] + line[1] * point[1] + line[2] * point[2]


def cross(first, second):
    """The line through two points, or the point on two lines; three times 0 if the two are one."""
    return (
        first[1] * second[2] - first[2] * second[1],
        first[2] * second[0] - first[0] * second[2],
        first[0] * second[1] - first[1] * second[0],
    )


def is_same(first, second):
    """Whether two points are one, up to a factor."""
    return cross(first, second) == (0, 0, 0)


class Picture:
    """What is told of a picture; None stands for what isn't told yet."""

    def __init__(self):
        self.horizon = None
        self.up = None
        self.post_foot = None
        self.post_head = None
        self.post_height = None

    def is_ready(self):
        """Whether heights can be told."""
        if self.horizon is None or self.up is None or self.post_foot is None:
            return False
        if makes(self.horizon, self.up) == 0:
            return False
        if is_same(self.post_foot, self.post_head):
            return False
        return self.is_standing(self.post_foot, self.post_head)

    def can_bear(self, foot):
        """Whether there is a floor under that foot, and a way up from it."""
        return makes(self.horizon, foot) != 0 and not is_same(foot, self.up)

    def is_standing(self, foot, head):
        """Whether something stands with that foot and that head."""
        if not self.can_bear(foot) or is_same(head, self.up):
            return False
        return makes(cross(foot, head), self.up) == 0

    def rise(self, foot, head):
        """The rise of something that stands, as a fraction."""
        # The head's third number is 1, so the factor between the head and
        # foot - rise * up is 1 - rise * up[2]. Put in for the other two numbers,
        # this leaves foot[k] - head[k] = rise * (up[k] - up[2] * head[k]), and as
        # the head isn't up, one of these two has something else than 0 below.
        across = self.up[0] - self.up[2] * head[0]
        if across != 0:
            return (foot[0] - head[0], across)
        return (foot[1] - head[1], self.up[1] - self.up[2] * head[1])

    def scale(self):
        """How high a rise of 1 is on a foot that makes 1 with the horizon, as a fraction."""
        post_rise = self.rise(self.post_foot, self.post_head)
        post_makes = makes(self.horizon, self.post_foot)
        return (self.post_height * post_makes * post_rise[1], post_rise[0])

    def measure(self, foot, head):
        """The height of something that stands."""
        own_rise = self.rise(foot, head)
        by_post = self.scale()
        return lowest(own_rise[0] * by_post[0], own_rise[1] * by_post[1] * makes(self.horizon, foot))

    def eye_height(self):
        """How high the eye is."""
        by_post = self.scale()
        return lowest(by_post[0], by_post[1] * makes(self.horizon, self.up))

    def post_height_by(self, foot, head, height):
        """How high the post would be, were something that stands, and isn't 0 high, that high."""
        own_height = self.measure(foot, head)
        return lowest(height * self.post_height * own_height[1], own_height[0])

    def side(self, point):
        """0 if a point is on the horizon, above 0 on the side of the post's foot, below 0 on the other."""
        # Both have 1 for their third number, so what they make may be compared by sign.
        return makes(self.horizon, point) * makes(self.horizon, self.post_foot)

    def meet(self, first, second):
        """The point in which the line through two points meets the horizon; its third number is 0 if none is seen."""
        return cross(cross(first, second), self.horizon)

    def place_head(self, foot, above, below):
        """The head, a point, of something on that foot that is above by below high."""
        by_post = self.scale()
        rise_above = above * makes(self.horizon, foot) * by_post[1]
        rise_below = below * by_post[0]
        # A point counts up to a factor: times rise_below it stays in whole numbers.
        return (
            rise_below * foot[0] - rise_above * self.up[0],
            rise_below * foot[1] - rise_above * self.up[1],
            rise_below * foot[2] - rise_above * self.up[2],
        )
