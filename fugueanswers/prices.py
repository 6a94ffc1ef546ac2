"""What gaps and parallels cost, and where the beat is."""

# Seven on the beat, seven off it, that of parallels, the beat.
FIRST_PRICES = (0, 10, 0, 6, 0, 0, 10, 0, 3, 0, 2, 0, 0, 3, 8, 16)

HOW_MANY_NUMBERS = 16
OFF_BEAT_FROM = 7
PARALLELS_AT = 14
BEAT_AT = 15

HIGHEST_PRICE = 100
LONGEST_BEAT = 512


class Prices:
    """The prices that meetings are counted with."""

    def __init__(self, numbers):
        self.on_beat = numbers[:OFF_BEAT_FROM]
        self.off_beat = numbers[OFF_BEAT_FROM:PARALLELS_AT]
        self.parallels = numbers[PARALLELS_AT]
        self.beat = numbers[BEAT_AT]

    def gap_price(self, time, gap):
        """What a gap, 0 to 6, costs at that time."""
        if time % self.beat == 0:
            return self.on_beat[gap]
        return self.off_beat[gap]


def are_prices(numbers):
    """Whether the numbers may be all prices and the beat."""
    if len(numbers) != HOW_MANY_NUMBERS:
        return False
    if not 1 <= numbers[BEAT_AT] <= LONGEST_BEAT:
        return False
    return all([0 <= price <= HIGHEST_PRICE for price in numbers[:BEAT_AT]])
