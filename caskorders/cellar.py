"""Calls about one cellar: which kinds of casks there are, and what its plans hold."""

BEGINS = 0
KIND = 1
CHECK = 2
FULL = 3
FEWEST = 4
NEVER = 5
PLAIN = 6

LARGEST_SIZE = 60
MOST_OF_A_KIND = 6
MOST_KINDS = 4
LARGEST_ORDER = 1500


def is_order(order):
    """Whether an order may be of so much."""
    return 1 <= order <= LARGEST_ORDER


def plans_of(stock):
    """Every plan that takes no more of each kind than there are, the earliest first."""
    plans = [[]]
    for many in stock:
        longer = []
        for plan in plans:
            for taken in range(many + 1):
                longer.append(plan + [taken])
        plans = longer
    return plans


def best_of(rows):
    """The least row's first two numbers, how many rows have these two, its plan; or a refusal."""
    if not rows:
        return [-6]
    # Lists are compared number by number: of rows alike in the first two, the earlier plan's is less.
    best = min(rows)
    alike = [row for row in rows if row[:2] == best[:2]]
    return best[:2] + [len(alike)] + best[2:]


class Cellar:
    """The kinds of casks by number: the size of each, and how many there are of it."""

    def __init__(self):
        self.sizes = []
        self.stock = []

    def begins(self):
        """Go back to no kinds."""
        self.sizes = []
        self.stock = []
        return [0]

    def kind(self, size, many):
        """Put in one more kind: its number, or a refusal."""
        if not 1 <= size <= LARGEST_SIZE or many > MOST_OF_A_KIND:
            return [-1]
        if len(self.sizes) == MOST_KINDS:
            return [-5]
        self.sizes.append(size)
        self.stock.append(many)
        return [len(self.sizes) - 1]

    def check(self, order, plan):
        """The room that the plan leaves and the casks it takes, or a refusal."""
        if not is_order(order) or not self.can_take(plan):
            return [-1]
        held = self.held_by(plan)
        if held < order:
            return [-6, order - held]
        return [held - order, sum(plan)]

    def full(self, order):
        """The least room, the fewest casks for it, how many such plans, the earliest; or a refusal."""
        if not is_order(order):
            return [-1]
        return best_of(self.filling_rows(order))

    def fewest(self, order):
        """The fewest casks, the least room for them, how many such plans, the earliest; or a refusal."""
        if not is_order(order):
            return [-1]
        return best_of([[row[1], row[0]] + row[2:] for row in self.filling_rows(order)])

    def never(self, most):
        """How many numbers from 1 to the most no plan holds just, and the greatest; or a refusal."""
        if not is_order(most):
            return [-1]
        held = self.held_by_some_plan()
        missed = [number for number in range(1, most + 1) if number not in held]
        return [len(missed), max(missed, default=0)]

    def plain(self, order):
        """What the largest first leaves of the order, the casks taken, and the plan; or a refusal."""
        if not is_order(order):
            return [-1]
        left = order
        plan = [0] * len(self.sizes)
        for number in self.numbers_largest_first():
            size = self.sizes[number]
            plan[number] = min(self.stock[number], left // size)
            left = left - plan[number] * size
        return [left, sum(plan)] + plan

    def filling_rows(self, order):
        """A row for each plan that fills the order: the room left, the casks taken, the plan."""
        rows = []
        for plan in plans_of(self.stock):
            room = self.held_by(plan) - order
            if room >= 0:
                rows.append([room, sum(plan)] + plan)
        return rows

    def held_by_some_plan(self):
        """Each whole number that some plan holds just, as a key."""
        held = {}
        for plan in plans_of(self.stock):
            held[self.held_by(plan)] = True
        return held

    def numbers_largest_first(self):
        """The kinds' numbers, from the largest size on, of one size the lower number first."""
        return sorted(range(len(self.sizes)), key=lambda number: (-self.sizes[number], number))

    def can_take(self, plan):
        """Whether the plan has a number for each kind, none above what there is."""
        if len(plan) != len(self.stock):
            return False
        return all([taken <= many for taken, many in zip(plan, self.stock)])

    def held_by(self, plan):
        """How much all casks of the plan hold together."""
        return sum([taken * size for taken, size in zip(plan, self.sizes)])


def answer_to(cellar, call, numbers):
    """What the cellar answers to one call."""
    if call == BEGINS:
        return cellar.begins()
    if call == KIND:
        return cellar.kind(numbers[0], numbers[1])
    if call == CHECK:
        return cellar.check(numbers[0], numbers[1:])
    if call == FULL:
        return cellar.full(numbers[0])
    if call == FEWEST:
        return cellar.fewest(numbers[0])
    if call == NEVER:
        return cellar.never(numbers[0])
    if call == PLAIN:
        return cellar.plain(numbers[0])
    raise ValueError("there is no call of this number")


def answers(calls):
    """The answers to a line's calls, one behind another, each with its length before it."""
    cellar = Cellar()
    told = []
    place = 0
    while place < len(calls):
        start = place + 2
        end = start + calls[place + 1]
        answer = answer_to(cellar, calls[place], calls[start:end])
        told.append(len(answer))
        told.extend(answer)
        # Behind a call's numbers stands how many lists it has: no call has any.
        place = end + 1
    return told
