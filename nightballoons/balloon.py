"""The calls on one balloon, and what they answer."""

from nightballoons.flight import NOTHING_WRONG, Balloon

BEGINS = 0
LOAD = 1
CHECK = 2
NIGHTS = 3
NEEDS = 4
MOST = 5

NOT_AS_TOLD = -1
NOT_LIFTED = -3
WOULD_NOT_DO = -6

MOST_WEIGHT = 10000
MOST_LIFT = 100
MOST_OVER = 10000
MOST_LEAK = 200
MOST_GAS = 200
MOST_SAND = 10000
MOST_NIGHTS = 200


class UnknownCall(ValueError):
    """A call's number is none of those above."""


def answers(calls):
    """For each call on one new balloon: how many numbers it answers, then these."""
    balloon = Balloon()
    answered = []
    start = 0
    while start < len(calls):
        end = call_end(calls, start)
        answer = answer_call(balloon, calls[start], calls[start + 1:end])
        answered.append(len(answer))
        answered.extend(answer)
        start = end
    return answered


def call_end(calls, start):
    """Where the call that begins at start has ended."""
    call = calls[start]
    if call == BEGINS:
        return start + 6
    if call == LOAD:
        return start + 3
    if call == CHECK:
        return start + 2 + calls[start + 1]
    if call == NEEDS:
        return start + 2
    if call in (NIGHTS, MOST):
        return start + 1
    raise UnknownCall(f"no call has the number {call}")


def answer_call(balloon, call, numbers):
    """What one call answers; numbers is all that stands behind the call's own number."""
    if call == BEGINS:
        return begins(balloon, numbers[0], numbers[1], numbers[2], numbers[3], numbers[4])
    if call == LOAD:
        return load(balloon, numbers[0], numbers[1])
    if call == CHECK:
        return check(balloon, numbers[1:])
    if call == NIGHTS:
        return nights(balloon)
    if call == NEEDS:
        return needs(balloon, numbers[0])
    return most(balloon)


def begins(balloon, weight, day, night, over, leak):
    """Make the balloon another one, with 1 of gas and no sand."""
    if not (1 <= weight <= MOST_WEIGHT and 1 <= day <= MOST_LIFT and 1 <= night <= day):
        return [NOT_AS_TOLD]
    if not (0 <= over <= MOST_OVER and 1 <= leak <= MOST_LEAK):
        return [NOT_AS_TOLD]
    balloon.weight = weight
    balloon.day = day
    balloon.night = night
    balloon.over = over
    balloon.leak = leak
    balloon.gas = 1
    balloon.sand = 0
    return [0]


def load(balloon, gas, sand):
    """Set the gas and sand at the start; answer the lift that is left over."""
    if not (1 <= gas <= MOST_GAS and 0 <= sand <= MOST_SAND):
        return [NOT_AS_TOLD]
    spare = balloon.lift_to_spare(gas, sand)
    if spare < 0:
        return [WOULD_NOT_DO]
    balloon.gas = gas
    balloon.sand = sand
    return [spare]


def check(balloon, plan):
    """Fly by a plan: the nights, gas and sand left, or the first wrong night and what is wrong."""
    gas = balloon.gas
    sand = balloon.sand
    if balloon.lift_to_spare(gas, sand) < 0:
        return [NOT_LIFTED]
    for night, thrown in enumerate(plan):
        gas = balloon.gas_after_day(gas, sand)
        wrong = balloon.wrong_by_night(gas, sand, thrown)
        if wrong != NOTHING_WRONG:
            return [WOULD_NOT_DO, night, wrong]
        sand = sand - thrown
    return [len(plan), gas, sand]


def nights(balloon):
    """Fly by as little as has to be: for how many nights it stays up, then what is thrown in each."""
    if balloon.lift_to_spare(balloon.gas, balloon.sand) < 0:
        return [NOT_LIFTED]
    thrown = balloon.least_plan(balloon.sand)
    return [len(thrown)] + thrown


def needs(balloon, many):
    """How much sand it takes at the start, at the least, for so many nights."""
    if many > MOST_NIGHTS:
        return [NOT_AS_TOLD]
    most_sand = balloon.most_sand()
    # No plan keeps it up for more nights than as little as has to be, so only that one is asked.
    if most_sand < 0 or balloon.nights_up(most_sand) < many:
        return [WOULD_NOT_DO]
    return [balloon.least_sand(many, most_sand)]


def most(balloon):
    """With how much sand it's lifted at the most, then for how many nights it stays up with so much."""
    most_sand = balloon.most_sand()
    if most_sand < 0:
        return [WOULD_NOT_DO]
    return [most_sand, balloon.nights_up(most_sand)]
