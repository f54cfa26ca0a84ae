"""Rows wrapped by a key, and unwrapped again (AES Key Wrap, RFC 3394)."""

from sealedblocks.cipher import decrypted, encrypted
from sealedblocks.rows import added, highest_first, joined, parts_of


def wrapped(rounds, row):
    """The row wrapped by the rounds' keys, 8 bytes longer."""
    head = [0xA6] * 8
    parts = parts_of(row, 8)
    count = 0
    for turn in range(6):
        for at in range(len(parts)):
            count = count + 1
            both = encrypted(rounds, head + parts[at])
            head = added(both[:8], highest_first(count, 8))
            parts[at] = both[8:]
    return head + joined(parts)


def unwrapped(rounds, row):
    """The row unwrapped, 8 bytes shorter; None if it isn't wrapped by these rounds' keys."""
    head = row[:8]
    parts = parts_of(row[8:], 8)
    count = 6 * len(parts)
    for turn in range(6):
        for at in range(len(parts) - 1, -1, -1):
            both = decrypted(rounds, added(head, highest_first(count, 8)) + parts[at])
            head = both[:8]
            parts[at] = both[8:]
            count = count - 1
    if head != [0xA6] * 8:
        return None
    return joined(parts)
