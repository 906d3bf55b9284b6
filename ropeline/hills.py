"""The calls on a line: begins, best, check, tallest, rope.

A place is a pair: a point on which the rope lies, and how high it lies there.
"""

BEGINS = 0
BEST = 1
CHECK = 2
TALLEST = 3

NOT_AS_TOLD = -1
TOO_LOW = -6
NO_RIGHT_PLAN = -6
LIFTS = -7

FEWEST_POINTS = 2
MOST_POINTS = 8
MOST_CLEAR = 4
MOST_TALL = 4
MOST_COST = 100
MOST_GROUND = 9


class Line:
    """The points of a line, and what is told of its supports."""

    def __init__(self):
        self.clearance = 0
        self.tall = 1
        self.each = 0
        self.unit = 0
        self.ground = [0, 0]


class Reader:
    """Goes along the numbers that are handed in, and only reads them."""

    def __init__(self, numbers):
        self.numbers = numbers
        self.at = 0

    def more(self):
        return self.at < len(self.numbers)

    def number(self):
        value = self.numbers[self.at]
        self.at = self.at + 1
        return value

    def row(self):
        size = self.number()
        taken = self.numbers[self.at:self.at + size]
        self.at = self.at + size
        return taken


def last_point(line):
    return len(line.ground) - 1


def station(line, point):
    return (point, line.ground[point] + line.clearance)


def places_of(line, plan):
    """The places of a plan, or of the beginning of one.

    A beginning has no last station: its rope is known up to its last support only.
    """
    places = [station(line, 0)]
    for point, height in enumerate(plan, start=1):
        if height > 0:
            places.append((point, line.ground[point] + height))
    if len(plan) + 1 == last_point(line):
        places.append(station(line, last_point(line)))
    return places


def height_between(before, behind, point):
    """How high the straight line between two places is: what's above, what's below.

    The fraction is left whole-numbered, so that comparing it is exact.
    """
    below = behind[0] - before[0]
    above = before[1] * (behind[0] - point) + behind[1] * (point - before[0])
    return (above, below)


def is_too_low(line, before, behind, point):
    height = height_between(before, behind, point)
    return height[0] < (line.ground[point] + line.clearance) * height[1]


def first_too_low(line, places):
    """The first point at which the rope over these places is too low, or None."""
    for k in range(1, len(places)):
        before = places[k - 1]
        behind = places[k]
        for point in range(before[0], behind[0] + 1):
            if is_too_low(line, before, behind, point):
                return point
    return None


def first_lifting(places):
    """The first point whose support lifts, or None."""
    for k in range(1, len(places) - 1):
        point = places[k][0]
        height = height_between(places[k - 1], places[k + 1], point)
        if height[0] > places[k][1] * height[1]:
            return point
    return None


def is_right(line, plan):
    """Whether a plan is right; of a beginning, as far as its rope is known."""
    places = places_of(line, plan)
    return first_too_low(line, places) is None and first_lifting(places) is None


def grown(line, plans, tall):
    """Each beginning with each height for its next point, the earlier ahead.

    What is wrong up to a beginning's last support stays wrong whatever follows,
    so such beginnings are dropped at once: all plans would be too many to go through.
    """
    longer = []
    for plan in plans:
        for height in range(tall + 1):
            candidate = plan + [height]
            if is_right(line, candidate):
                longer.append(candidate)
    return longer


def right_plans(line, tall):
    """All right plans with supports at most this tall, the earlier ahead."""
    plans = [[]]
    for point in range(1, last_point(line)):
        plans = grown(line, plans, tall)
    return plans


def cost_and_supports(line, plan):
    """The pair by which plans are measured: the lesser pair is the better plan."""
    supports = [height for height in plan if height > 0]
    return (line.each * len(supports) + line.unit * sum(supports), len(supports))


def least_tall(line, most):
    for tall in range(most + 1):
        if len(right_plans(line, tall)) > 0:
            return tall
    return NO_RIGHT_PLAN


def lowest_terms(above, below):
    divisor = above
    rest = below
    while rest > 0:
        remainder = divisor % rest
        divisor = rest
        rest = remainder
    return [above // divisor, below // divisor]


def rope_height(places, point):
    """How high the rope is at a point, as height_between tells it."""
    k = 1
    while places[k][0] < point:
        k = k + 1
    return height_between(places[k - 1], places[k], point)


def fits_line(line, plan):
    if len(plan) + 1 != last_point(line):
        return False
    return all([height <= line.tall for height in plan])


def ground_as_told(ground):
    if len(ground) < FEWEST_POINTS or len(ground) > MOST_POINTS:
        return False
    return all([height <= MOST_GROUND for height in ground])


def answer_begins(line, reader):
    clearance = reader.number()
    tall = reader.number()
    each = reader.number()
    unit = reader.number()
    ground = reader.row()
    if clearance > MOST_CLEAR or tall > MOST_TALL or each > MOST_COST or unit > MOST_COST:
        return [NOT_AS_TOLD]
    if not ground_as_told(ground):
        return [NOT_AS_TOLD]
    line.clearance = clearance
    line.tall = tall
    line.each = each
    line.unit = unit
    line.ground = ground
    return [0]


def answer_best(line):
    plans = right_plans(line, line.tall)
    if len(plans) == 0:
        return [NO_RIGHT_PLAN]
    measures = [cost_and_supports(line, plan) for plan in plans]
    least = min(measures)
    # The plans stand in order, so the first with the least measure is the earliest.
    return [least[0], least[1], measures.count(least)] + plans[measures.index(least)]


def answer_check(line, reader):
    plan = reader.row()
    if not fits_line(line, plan):
        return [NOT_AS_TOLD]
    places = places_of(line, plan)
    low = first_too_low(line, places)
    if low is not None:
        return [TOO_LOW, low]
    lifting = first_lifting(places)
    if lifting is not None:
        return [LIFTS, lifting]
    measure = cost_and_supports(line, plan)
    return [measure[0], measure[1]]


def answer_tallest(line):
    return [least_tall(line, MOST_TALL)]


def answer_rope(line, reader):
    point = reader.number()
    plan = reader.row()
    if not fits_line(line, plan) or point > last_point(line):
        return [NOT_AS_TOLD]
    height = rope_height(places_of(line, plan), point)
    return lowest_terms(height[0], height[1])


def answer_call(line, reader):
    call = reader.number()
    if call == BEGINS:
        return answer_begins(line, reader)
    if call == BEST:
        return answer_best(line)
    if call == CHECK:
        return answer_check(line, reader)
    if call == TALLEST:
        return answer_tallest(line)
    return answer_rope(line, reader)


def answers(calls):
    """What each call of the list answers, each with how many numbers ahead of it."""
    line = Line()
    reader = Reader(calls)
    answered = []
    while reader.more():
        answer = answer_call(line, reader)
        answered.append(len(answer))
        answered.extend(answer)
    return answered
