"""What the calls answer, found the slow way, for the tests to compare with."""

from itertools import product


def flown(made, gas, sand, plan):
    """What check answers, found the slow way: one measure after another is let off and leaks."""
    weight, day, night, over, leak = made
    if weight + sand > gas * day:
        return [-3]
    for which, thrown in enumerate(plan):
        while gas * day > weight + sand + over:
            gas -= 1
        for _ in range(leak):
            if gas > 0:
                gas -= 1
        if thrown > sand:
            return [-6, which, 1]
        sand -= thrown
        if weight + sand > gas * night:
            return [-6, which, 2]
    return [len(plan), gas, sand]


def least_plan(made, gas, sand):
    """As little as has to be: in each night 0 of sand is tried, then 1, and so on."""
    plan = []
    while True:
        for thrown in range(sand - sum(plan) + 1):
            if flown(made, gas, sand, plan + [thrown])[0] != -6:
                plan.append(thrown)
                break
        else:
            return plan


def longest_of_all_plans(made, gas, sand):
    """For how many nights some plan keeps it up: in each night all that could be thrown is."""
    nights = 0
    states = {(gas, sand)}
    while True:
        behind = set()
        for gas, sand in states:
            for thrown in range(sand + 1):
                answer = flown(made, gas, sand, [thrown])
                if answer[0] == 1:
                    behind.add((answer[1], answer[2]))
        if not behind:
            return nights
        states = behind
        nights += 1


def all_with_which_it_is_lifted(made, gas):
    """All the sand, from 0 on, with which it's lifted; none if it isn't lifted without any."""
    lifted = []
    while flown(made, gas, len(lifted), [])[0] != -3:
        lifted.append(len(lifted))
    return lifted


def small_balloons():
    for made in product((1, 3, 4), (1, 2, 3), (1, 2, 3), (0, 1, 4), (1, 2)):
        if made[2] <= made[1]:
            yield made
