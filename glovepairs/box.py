"""The box of single gloves, and what the calls on it answer.

Each call answers a list of whole numbers. A refusal is a number below 0,
and nothing is changed ahead of one, so that all is as it was behind it.
"""

LARGEST = 1000
MOST_ON_A_SIDE = 5


class Box:
    """The sizes of the left and of the right ones, and how much a pair may differ."""

    def __init__(self):
        self.lefts = []
        self.rights = []
        self.differ = 0

    def begins(self, differ):
        if differ > LARGEST:
            return [-1]
        self.lefts = []
        self.rights = []
        self.differ = differ
        return [0]

    def left(self, size):
        return put_in(self.lefts, size)

    def right(self, size):
        return put_in(self.rights, size)

    def check(self, plan):
        if not self.is_plan(plan):
            return [-1]
        far = self.first_too_far(plan)
        if far is not None:
            return [-6, far]
        again = self.first_told_again(plan)
        if again is not None:
            return [-7, again]
        return self.measured(plan)

    def best(self):
        plans = self.plans(self.differ)
        most = max([self.pairs_of(plan) for plan in plans])
        fullest = [plan for plan in plans if self.pairs_of(plan) == most]
        least = min([self.off(plan) for plan in fullest])
        as_good = [plan for plan in fullest if self.off(plan) == least]
        # The earlier plans come first, so the first of those as good is the earliest.
        return [most, least, len(as_good)] + as_good[0]

    def plain(self):
        plan = self.from_the_smallest_on()
        return self.measured(plan) + plan

    def needs(self, pairs):
        if pairs > len(self.lefts) or pairs > len(self.rights):
            return [-6]
        # No two sizes differ by more than the largest one: here any two may be a pair.
        plans = self.plans(LARGEST)
        enough = [plan for plan in plans if self.pairs_of(plan) >= pairs]
        return [min([self.widest(plan) for plan in enough])]

    def is_plan(self, plan):
        """Whether there is a number for each left one, and each a right one or none."""
        if len(plan) != len(self.lefts):
            return False
        # The number of right ones itself is allowed: it means none.
        return max(plan, default=0) <= len(self.rights)

    def paired(self, plan):
        """Each left one that has a right one, in order, with that right one."""
        none = len(self.rights)
        return [(left, right) for left, right in enumerate(plan) if right != none]

    def gap(self, left, right):
        return abs(self.lefts[left] - self.rights[right])

    def gaps(self, plan):
        """How much each pair of the plan differs."""
        return [self.gap(left, right) for left, right in self.paired(plan)]

    def pairs_of(self, plan):
        return len(self.paired(plan))

    def off(self, plan):
        return sum(self.gaps(plan))

    def widest(self, plan):
        """How much a pair has to be allowed to differ for this plan."""
        return max(self.gaps(plan), default=0)

    def measured(self, plan):
        return [self.pairs_of(plan), self.off(plan)]

    def first_too_far(self, plan):
        """The first left one that differs too much from its right one, or None."""
        for left, right in self.paired(plan):
            if self.gap(left, right) > self.differ:
                return left
        return None

    def first_told_again(self, plan):
        """The first left one whose right one is that of one before it, or None."""
        told = []
        for left, right in self.paired(plan):
            if right in told:
                return left
            told.append(right)
        return None

    def plans(self, differ):
        """Each plan that can be where a pair may differ so much, the earlier ones first."""
        begun = [[]]
        for left in range(len(self.lefts)):
            longer = []
            for plan in begun:
                longer.extend([plan + [right] for right in self.choices(left, plan, differ)])
            begun = longer
        return begun

    def choices(self, left, plan, differ):
        """What this left one may have behind a plan for those before it, lower numbers first."""
        none = len(self.rights)
        free = [right for right in range(none) if right not in plan]
        return [right for right in free if self.gap(left, right) <= differ] + [none]

    def from_the_smallest_on(self):
        lefts = by_size(self.lefts)
        rights = by_size(self.rights)
        plan = [len(rights)] * len(lefts)
        at_left = 0
        at_right = 0
        while at_left < len(lefts) and at_right < len(rights):
            left = lefts[at_left]
            right = rights[at_right]
            if self.gap(left, right) <= self.differ:
                plan[left] = right
                at_left += 1
                at_right += 1
            # Two of one size may always be a pair, so here one is the lesser.
            elif self.lefts[left] < self.rights[right]:
                at_left += 1
            else:
                at_right += 1
        return plan


def put_in(side, size):
    """Put a glove to the others of its side; its number among them."""
    if size > LARGEST:
        return [-1]
    if len(side) == MOST_ON_A_SIDE:
        return [-5]
    side.append(size)
    return [len(side) - 1]


def by_size(side):
    """The numbers of a side's gloves from the smallest on, of one size by number."""
    return sorted(range(len(side)), key=lambda number: side[number])


def answer_one(box, call, given):
    """What the box answers to one call with the numbers given."""
    if call == 0:
        return box.begins(given[0])
    if call == 1:
        return box.left(given[0])
    if call == 2:
        return box.right(given[0])
    if call == 3:
        return box.check(given)
    if call == 4:
        return box.best()
    if call == 5:
        return box.plain()
    return box.needs(given[0])


def answers(calls):
    """The answers to a line of calls on a new box, each with its count ahead of it."""
    box = Box()
    answered = []
    at = 0
    while at < len(calls):
        start = at + 2
        end = start + calls[at + 1]
        answer = answer_one(box, calls[at], calls[start:end])
        answered.append(len(answer))
        answered.extend(answer)
        # The one number behind those given counts the call's lists: no call has any.
        at = end + 1
    return answered
