"""Rows of integers, each kept as one integer, its *strip*, so that a whole row is multiplied, added or divided at once.

Each item has a place of so many bits, those of the first items being the lowest. As an item may be below 0, it is kept
with half of what its place holds added to it: a strip is what the items make in their places, and `base`, which is the
strip of a row of items 0.
"""


class Strips:
    """How rows of so many items are kept, all of them less than 2 ** bits, and greater than the negative of that."""

    def __init__(self, many, bits):
        self.width = bits + 1
        self._half = 1 << bits
        self._mask = (1 << self.width) - 1
        self.base = self._half * (((1 << self.width * many) - 1) // self._mask)

    def packed(self, items):
        """The strip of a row."""
        strip = 0
        for item in reversed(items):
            strip = (strip << self.width) + item
        return strip + self.base

    def column(self, strips, place):
        """The items of some strips at a place."""
        shift, mask, half = self.width * place, self._mask, self._half
        return [(strip >> shift & mask) - half for strip in strips]

    def first_below(self, strip):
        """The first place of a strip with an item below 0, None if there is none."""
        # The highest bit of a place is set just where the item is not below 0.
        below = self.base - (strip & self.base)
        return (below & -below).bit_length() // self.width - 1 if below > 0 else None
