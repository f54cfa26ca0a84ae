"""What all the other files ask of rows of bytes."""


def added(one, other):
    """Two rows added byte by byte without carry, as long as the shorter one."""
    return [a ^ b for a, b in zip(one, other)]


def parts_of(row, size):
    """The row in parts of that size, the last one perhaps shorter."""
    return [row[at:at + size] for at in range(0, len(row), size)]


def joined(parts):
    """One row of all parts, one behind another."""
    row = []
    for part in parts:
        row.extend(part)
    return row


def backward_row(row):
    """The row from its last byte to its first."""
    return list(reversed(row))


def lowest_first(number, size):
    """The number as that many bytes, the lowest first."""
    return [(number >> (8 * place)) & 255 for place in range(size)]


def highest_first(number, size):
    """The number as that many bytes, the highest first."""
    return backward_row(lowest_first(number, size))


def doubled(row):
    """Sixteen bytes doubled as a number, the lowest byte first; what passes 128 bits comes back as 87H added."""
    result = []
    carry = 0
    for byte in row:
        result.append(((byte << 1) & 255) | carry)
        carry = byte >> 7
    result[0] = result[0] ^ (carry * 0x87)
    return result
