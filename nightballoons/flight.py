"""A balloon, and what becomes of it by day and by night."""

NOTHING_WRONG = 0
TOO_LITTLE_SAND = 1
COMES_DOWN = 2


class Balloon:
    """What a balloon is like, and the gas and sand it has at the start."""

    def __init__(self):
        self.weight = 1
        self.day = 1
        self.night = 1
        self.over = 0
        self.leak = 1
        self.gas = 1
        self.sand = 0

    def lift_to_spare(self, gas, sand):
        """How much more the gas lifts by day than the balloon weighs; below 0 if it isn't lifted."""
        return gas * self.day - (self.weight + sand)

    def gas_after_day(self, gas, sand):
        """The gas left at nightfall: what lifts too much is let off first, then some leaks away."""
        most_kept = (self.weight + sand + self.over) // self.day
        return max(min(gas, most_kept) - self.leak, 0)

    def wrong_by_night(self, gas, sand, thrown):
        """What is wrong in a night that begins with so much gas and sand."""
        if thrown > sand:
            return TOO_LITTLE_SAND
        if self.weight + sand - thrown > gas * self.night:
            return COMES_DOWN
        return NOTHING_WRONG
