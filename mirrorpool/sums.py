"""The sum of a block at a place: CRC-64 over the place and the block."""

ALL_ONES = 0xFFFFFFFFFFFFFFFF
DIVISOR = 0xC96C5795D7870F42


def divided(c):
    for step in range(8):
        if c % 2 == 1:
            c = (c >> 1) ^ DIVISOR
        else:
            c = c >> 1
    return c


def place_bytes(place):
    return [(place >> (8 * i)) & 255 for i in range(8)]


# What eight steps do to a low byte is worked out once for each byte:
# a line may ask for the sums of more than a thousand blocks.
class Sums:
    def __init__(self):
        self.steps = [divided(low) for low in range(256)]

    def of_block(self, place, block):
        c = ALL_ONES
        for byte in place_bytes(place) + block:
            c = self.steps[(c ^ byte) & 255] ^ (c >> 8)
        return c ^ ALL_ONES
