"""Calls as lists of numbers, the answers taken apart again, and a cellar's plans by hand."""

import itertools

from caskorders.cellar import answers

LARGEST = 4294967295
BEGINS = [0, 0, 0]


def kind(size, many):
    return [1, 2, size, many, 0]


def check(order, plan):
    return [2, 1 + len(plan), order] + plan + [0]


def full(order):
    return [3, 1, order, 0]


def fewest(order):
    return [4, 1, order, 0]


def never(most):
    return [5, 1, most, 0]


def plain(order):
    return [6, 1, order, 0]


def kinds(*pairs):
    """One call of kind for each pair of a size and how many."""
    return [kind(size, many) for size, many in pairs]


def line(*calls):
    return [number for call in calls for number in call]


def ask(*calls):
    """The answer to each call, as a list; it fails if they don't use up what was answered."""
    told = answers(line(*calls))
    parts = []
    place = 0
    while place < len(told):
        end = place + 1 + told[place]
        parts.append(told[place + 1:end])
        if end > len(told):
            raise AssertionError(f"cut short: {told}")
        place = end
    if len(parts) != len(calls):
        raise AssertionError(f"{len(calls)} calls, {len(parts)} answers: {told}")
    return parts


def ask_after(calls_before, *calls):
    """The answers to the last calls alone."""
    return ask(*calls_before, *calls)[len(calls_before):]


# Cellars, each a pair of a size and how many for each kind, for tests that go through every order.
SOME_CELLARS = (((25, 2), (16, 2), (9, 2), (4, 2)), ((4, 3), (6, 2), (6, 1)), ((7, 1), (7, 0), (14, 2), (3, 6)),
                ((12, 3), (8, 3)), ((1, 6),), ((5, 2), (20, 1), (10, 2), (20, 2)))


def every_order(pairs):
    """From 1 to one more than all casks hold together."""
    return list(range(1, sum(size * many for size, many in pairs) + 2))


def held_by_hand(pairs, plan):
    return sum(taken * size for taken, (size, many) in zip(plan, pairs, strict=True))


def plans_by_hand(pairs):
    return list(itertools.product(*[range(many + 1) for size, many in pairs]))


def best_by_hand(pairs, order, first, second):
    """The least of the first of all plans that fill the order, of those the least of the second, and so on.

    The first and the second each tell a number of a plan and the room that it leaves.
    """
    plans = [plan for plan in plans_by_hand(pairs) if held_by_hand(pairs, plan) >= order]
    if not plans:
        return [-6]
    told = []
    for number_of in (first, second):
        least = min(number_of(plan, held_by_hand(pairs, plan) - order) for plan in plans)
        plans = [plan for plan in plans if number_of(plan, held_by_hand(pairs, plan) - order) == least]
        told.append(least)
    return [*told, len(plans), *sorted(plans)[0]]


def room_of(plan, room):
    return room


def casks_of(plan, room):
    return sum(plan)
