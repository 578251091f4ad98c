"""A balloon, and what becomes of it by day and by night."""

NOTHING_WRONG = 0
TOO_LITTLE_SAND = 1
COMES_DOWN = 2


class Balloon:
    """What a balloon is like, and the gas and sand it has at the start."""

    def __init__(self):
        self.weight = 1
        self.day = 1
        self.night = 1
        self.over = 0
        self.leak = 1
        self.gas = 1
        self.sand = 0

    def lift_to_spare(self, gas, sand):
        """How much more the gas lifts by day than the balloon weighs; below 0 if it isn't lifted."""
        return gas * self.day - (self.weight + sand)

    def gas_after_day(self, gas, sand):
        """The gas left at nightfall: what lifts too much is let off first, then some leaks away."""
        most_kept = (self.weight + sand + self.over) // self.day
        return max(min(gas, most_kept) - self.leak, 0)

    def least_to_throw(self, gas, sand):
        """As little sand as it stays up with in a night; more than there is, if none would do."""
        return max(self.weight + sand - gas * self.night, 0)

    def wrong_by_night(self, gas, sand, thrown):
        """What is wrong in a night that begins with so much gas and sand."""
        if thrown > sand:
            return TOO_LITTLE_SAND
        if thrown < self.least_to_throw(gas, sand):
            return COMES_DOWN
        return NOTHING_WRONG

    def least_plan(self, sand):
        """With so much sand at the start: what is thrown in each night, as little as has to be, till it comes down."""
        gas = self.gas
        thrown = []
        # It does come down: some gas leaks away every day, and it weighs something without any sand.
        while True:
            gas = self.gas_after_day(gas, sand)
            least = self.least_to_throw(gas, sand)
            if least > sand:
                return thrown
            thrown.append(least)
            sand = sand - least

    def nights_up(self, sand):
        """With so much sand at the start: for how many nights it stays up by as little as has to be."""
        return len(self.least_plan(sand))

    def most_sand(self):
        """The most sand with which it's lifted; below 0 if it isn't lifted without any."""
        return self.lift_to_spare(self.gas, 0)

    def least_sand(self, many, enough):
        """The least sand with which it stays up for so many nights, where as much as enough will do."""
        # With more sand at the start it has no less gas and no less sand in any night, so it stays up for no
        # fewer nights: all amounts from the least one on will do, and the range may be halved.
        least = 0
        while least < enough:
            middle = (least + enough) // 2
            if self.nights_up(middle) < many:
                least = middle + 1
            else:
                enough = middle
        return least
