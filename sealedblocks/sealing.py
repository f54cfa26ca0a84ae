"""Blocks sealed by their numbers, and opened again (XTS-AES, IEEE 1619)."""

from sealedblocks.cipher import ciphered, encrypted
from sealedblocks.rows import added, doubled, joined, lowest_first, parts_of


def tweaks_for(second, number, count):
    """The tweaks of a block's first parts, so many as asked, by the second key's rounds."""
    tweaks = []
    tweak = encrypted(second, lowest_first(number, 16))
    for turn in range(count):
        tweaks.append(tweak)
        tweak = doubled(tweak)
    return tweaks


def part_passed(first, way, tweak, part):
    """A whole part sealed by its tweak for way 0, opened for way 1."""
    return added(ciphered(first, way, added(part, tweak)), tweak)


def row_passed(first, way, tweaks, row):
    """The row sealed or opened part by part; a short last part borrows from the one ahead of it."""
    whole = len(row) // 16
    rest = len(row) % 16
    parts = parts_of(row, 16)
    done = [part_passed(first, way, tweaks[at], parts[at]) for at in range(whole)]
    if rest > 0:
        lender = done[-1]
        done[-1] = part_passed(first, way, tweaks[whole], parts[whole] + lender[rest:])
        done.append(lender[:rest])
    return joined(done)


def sealed(first, second, number, row):
    """The row sealed as block of that number, by the rounds of the first and the second key."""
    return row_passed(first, 0, tweaks_for(second, number, len(row) // 16 + 1), row)


def unsealed(first, second, number, row):
    """The row opened that was sealed as block of that number."""
    tweaks = tweaks_for(second, number, len(row) // 16 + 1)
    if len(row) % 16 > 0:
        # The last whole part was sealed by the tweak behind its own, so opening meets these two the other way round.
        tweaks = tweaks[:-2] + [tweaks[-1], tweaks[-2]]
    return row_passed(first, 1, tweaks, row)
