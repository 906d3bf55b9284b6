"""Calls as they are handed in, answers taken apart, and the document's words once more, slowly."""

import itertools
from fractions import Fraction

from ropeline.hills import answers

BIGGEST = 4294967295
BEST = [1]
TALLEST = [3]


def begins(clear, tall, each, unit, ground):
    return [0, clear, tall, each, unit, len(ground)] + list(ground)


def check(*plan):
    return [2, len(plan)] + list(plan)


def rope(point, *plan):
    return [4, point, len(plan)] + list(plan)


def apart(numbers):
    parts = []
    at = 0
    while at < len(numbers):
        size = numbers[at]
        part = numbers[at + 1:at + 1 + size]
        if size < 1 or len(part) != size:
            raise ValueError(numbers)
        parts.append(part)
        at += 1 + size
    return parts


def ask(*calls):
    """The answer of each call, all handed in as one list."""
    return apart(answers([number for call in calls for number in call]))


class Words:
    """A line told by the document's words, with fractions and every plan gone through."""

    def __init__(self, clear, tall, each, unit, ground):
        self.clear, self.tall, self.each, self.unit, self.ground = clear, tall, each, unit, ground
        self.last = len(ground) - 1

    def top(self, plan, point):
        """How high the rope lies on something here, or None."""
        if point in (0, self.last):
            return self.ground[point] + self.clear
        return self.ground[point] + plan[point - 1] if plan[point - 1] else None

    def straight(self, plan, before, behind, point):
        low, high = self.top(plan, before), self.top(plan, behind)
        return low + Fraction((high - low) * (point - before), behind - before)

    def around(self, plan, point):
        before = max(p for p in range(point) if self.top(plan, p) is not None)
        behind = min(p for p in range(point + 1, self.last + 1) if self.top(plan, p) is not None)
        return self.straight(plan, before, behind, point)

    def height(self, plan, point):
        top = self.top(plan, point)
        return Fraction(top) if top is not None else self.around(plan, point)

    def cost(self, plan):
        return sum(self.each + self.unit * h for h in plan if h), sum(1 for h in plan if h)

    def check(self, plan):
        for point in range(self.last + 1):
            if self.height(plan, point) - self.ground[point] < self.clear:
                return [-6, point]
        for point in range(1, self.last):
            if plan[point - 1] and self.around(plan, point) > self.top(plan, point):
                return [-7, point]
        return list(self.cost(plan))

    def right(self, tall):
        plans = itertools.product(range(tall + 1), repeat=self.last - 1)
        return [plan for plan in plans if self.check(plan)[0] >= 0]

    def best(self):
        plans = self.right(self.tall)
        if not plans:
            return [-6]
        least = min(self.cost(plan) for plan in plans)
        good = [plan for plan in plans if self.cost(plan) == least]
        return [least[0], least[1], len(good)] + list(min(good))

    def tallest(self):
        for tall in range(5):
            if self.right(tall):
                return [tall]
        return [-6]

    def rope(self, plan, point):
        height = self.height(plan, point)
        return [height.numerator, height.denominator]
