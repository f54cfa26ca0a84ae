"""The mark of bytes by a key (AES-CMAC, RFC 4493)."""

from sealedblocks.cipher import encrypted
from sealedblocks.rows import added, backward_row, doubled, parts_of


def doubled_high(row):
    """Sixteen bytes doubled as a number, the highest byte first."""
    return backward_row(doubled(backward_row(row)))


def mark_of(rounds, row):
    """The mark of the row, which may be empty, by the rounds' keys."""
    mask = doubled_high(encrypted(rounds, [0] * 16))
    # The last part is never empty, but where the row is.
    start = max(0, len(row) - 1) // 16 * 16
    state = [0] * 16
    for part in parts_of(row[:start], 16):
        state = encrypted(rounds, added(state, part))
    last = row[start:]
    if len(last) < 16:
        last = last + [0x80] + [0] * (15 - len(last))
        mask = doubled_high(mask)
    return encrypted(rounds, added(added(state, last), mask))
