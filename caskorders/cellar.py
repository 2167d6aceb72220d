"""Calls about one cellar: which kinds of casks there are, and which plans fill an order."""

BEGINS = 0
KIND = 1
CHECK = 2
FULL = 3

LARGEST_SIZE = 60
MOST_OF_A_KIND = 6
MOST_KINDS = 4
LARGEST_ORDER = 1500


def is_order(order):
    """Whether an order may be of so much."""
    return 1 <= order <= LARGEST_ORDER


def plans_of(stock):
    """Every plan that takes no more of each kind than there are, the earliest first."""
    plans = [[]]
    for many in stock:
        longer = []
        for plan in plans:
            for taken in range(many + 1):
                longer.append(plan + [taken])
        plans = longer
    return plans


class Cellar:
    """The kinds of casks by number: the size of each, and how many there are of it."""

    def __init__(self):
        self.sizes = []
        self.stock = []

    def begins(self):
        """Go back to no kinds."""
        self.sizes = []
        self.stock = []
        return [0]

    def kind(self, size, many):
        """Put in one more kind: its number, or a refusal."""
        if not 1 <= size <= LARGEST_SIZE or many > MOST_OF_A_KIND:
            return [-1]
        if len(self.sizes) == MOST_KINDS:
            return [-5]
        self.sizes.append(size)
        self.stock.append(many)
        return [len(self.sizes) - 1]

    def check(self, order, plan):
        """The room that the plan leaves and the casks it takes, or a refusal."""
        if not is_order(order) or not self.can_take(plan):
            return [-1]
        held = self.held_by(plan)
        if held < order:
            return [-6, order - held]
        return [held - order, sum(plan)]

    def full(self, order):
        """The least room, the fewest casks for it, how many such plans, the earliest; or a refusal."""
        if not is_order(order):
            return [-1]
        rows = self.filling_rows(order)
        if not rows:
            return [-6]
        # Lists are compared number by number: room, then casks, then the earlier plan.
        best = min(rows)
        alike = [row for row in rows if row[:2] == best[:2]]
        return best[:2] + [len(alike)] + best[2:]

    def filling_rows(self, order):
        """A row for each plan that fills the order: the room left, the casks taken, the plan."""
        rows = []
        for plan in plans_of(self.stock):
            room = self.held_by(plan) - order
            if room >= 0:
                rows.append([room, sum(plan)] + plan)
        return rows

    def can_take(self, plan):
        """Whether the plan has a number for each kind, none above what there is."""
        if len(plan) != len(self.stock):
            return False
        return all([taken <= many for taken, many in zip(plan, self.stock)])

    def held_by(self, plan):
        """How much all casks of the plan hold together."""
        return sum([taken * size for taken, size in zip(plan, self.sizes)])


def answer_to(cellar, call, numbers):
    """What the cellar answers to one call."""
    if call == BEGINS:
        return cellar.begins()
    if call == KIND:
        return cellar.kind(numbers[0], numbers[1])
    if call == CHECK:
        return cellar.check(numbers[0], numbers[1:])
    if call == FULL:
        return cellar.full(numbers[0])
    raise ValueError("there is no call of this number")


def answers(calls):
    """The answers to a line's calls, one behind another, each with its length before it."""
    cellar = Cellar()
    told = []
    place = 0
    while place < len(calls):
        start = place + 2
        end = start + calls[place + 1]
        answer = answer_to(cellar, calls[place], calls[start:end])
        told.append(len(answer))
        told.extend(answer)
        # Behind a call's numbers stands how many lists it has: no call has any.
        place = end + 1
    return told
