"""Calls as lists of numbers, and the answers taken apart again."""

from caskorders.cellar import answers

LARGEST = 4294967295
BEGINS = [0, 0, 0]


def kind(size, many):
    return [1, 2, size, many, 0]


def check(order, plan):
    return [2, 1 + len(plan), order] + plan + [0]


def full(order):
    return [3, 1, order, 0]


def kinds(*pairs):
    """One call of kind for each pair of a size and how many."""
    return [kind(size, many) for size, many in pairs]


def line(*calls):
    return [number for call in calls for number in call]


def ask(*calls):
    """The answer to each call, as a list; it fails if they don't use up what was answered."""
    told = answers(line(*calls))
    parts = []
    place = 0
    while place < len(told):
        end = place + 1 + told[place]
        parts.append(told[place + 1:end])
        if end > len(told):
            raise AssertionError(f"cut short: {told}")
        place = end
    if len(parts) != len(calls):
        raise AssertionError(f"{len(calls)} calls, {len(parts)} answers: {told}")
    return parts


def ask_after(calls_before, *calls):
    """The answers to the last calls alone."""
    return ask(*calls_before, *calls)[len(calls_before):]
