"""The box of single gloves, and what the calls on it answer.

Each call answers a list of whole numbers. A refusal is a number below 0,
and nothing is changed ahead of one, so that all is as it was behind it.
"""

LARGEST = 1000
MOST_ON_A_SIDE = 5


class Box:
    """The sizes of the left and of the right ones, and how much a pair may differ."""

    def __init__(self):
        self.lefts = []
        self.rights = []
        self.differ = 0

    def begins(self, differ):
        if differ > LARGEST:
            return [-1]
        self.lefts = []
        self.rights = []
        self.differ = differ
        return [0]

    def left(self, size):
        return put_in(self.lefts, size)

    def right(self, size):
        return put_in(self.rights, size)

    def check(self, plan):
        if not self.is_plan(plan):
            return [-1]
        far = self.first_too_far(plan)
        if far is not None:
            return [-6, far]
        again = self.first_told_again(plan)
        if again is not None:
            return [-7, again]
        gaps = [self.gap(left, right) for left, right in self.paired(plan)]
        return [len(gaps), sum(gaps)]

    def is_plan(self, plan):
        """Whether there is a number for each left one, and each a right one or none."""
        if len(plan) != len(self.lefts):
            return False
        # The number of right ones itself is allowed: it means none.
        return max(plan, default=0) <= len(self.rights)

    def paired(self, plan):
        """Each left one that has a right one, in order, with that right one."""
        none = len(self.rights)
        return [(left, right) for left, right in enumerate(plan) if right != none]

    def gap(self, left, right):
        return abs(self.lefts[left] - self.rights[right])

    def first_too_far(self, plan):
        """The first left one that differs too much from its right one, or None."""
        for left, right in self.paired(plan):
            if self.gap(left, right) > self.differ:
                return left
        return None

    def first_told_again(self, plan):
        """The first left one whose right one is that of one before it, or None."""
        told = []
        for left, right in self.paired(plan):
            if right in told:
                return left
            told.append(right)
        return None


def put_in(side, size):
    """Put a glove to the others of its side; its number among them."""
    if size > LARGEST:
        return [-1]
    if len(side) == MOST_ON_A_SIDE:
        return [-5]
    side.append(size)
    return [len(side) - 1]


def answer_one(box, call, given):
    """What the box answers to one call with the numbers given."""
    if call == 0:
        return box.begins(given[0])
    if call == 1:
        return box.left(given[0])
    if call == 2:
        return box.right(given[0])
    if call == 3:
        return box.check(given)
    # Failing is better than a made-up answer to a call that isn't written.
    raise KeyError(call)


def answers(calls):
    """The answers to a line of calls on a new box, each with its count ahead of it."""
    box = Box()
    answered = []
    at = 0
    while at < len(calls):
        start = at + 2
        end = start + calls[at + 1]
        answer = answer_one(box, calls[at], calls[start:end])
        answered.append(len(answer))
        answered.extend(answer)
        # The one number behind those given counts the call's lists: no call has any.
        at = end + 1
    return answered
