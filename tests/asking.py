"""How the tests put calls to the program and read its answers."""

from nightballoons.balloon import answers


def begins(weight, day, night, over, leak):
    return [0, weight, day, night, over, leak]


def load(gas, sand):
    return [1, gas, sand]


def check(*plan):
    return [2, len(plan), *plan]


def nights():
    return [3]


def needs(many):
    return [4, many]


def most():
    return [5]


def ask(*calls):
    """Hand in the calls as one list; give back a list of numbers for each."""
    return split([number for call in calls for number in call])


def split(calls):
    flat = answers(calls)
    answered = []
    at = 0
    while at < len(flat):
        end = at + 1 + flat[at]
        if end > len(flat):
            raise AssertionError(f"an answer is cut off: {flat}")
        answered.append(flat[at + 1:end])
        at = end
    return answered
