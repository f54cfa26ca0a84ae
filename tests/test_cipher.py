"""The cipher, and the calls keys (point 12) and one (point 13), against FIPS 197."""

import unittest

from sealedblocks.cipher import ORIGINALS, SUBSTITUTES, decrypted, encrypted, expanded, mixed, unmixed
from tests.lines import GREATEST, LEAST, NOT_AS_TOLD, ask, keys, last, one, row

SHORT_KEY = list(range(16))
LONG_KEY = list(range(32))
PLAIN = row("00112233445566778899aabbccddeeff")


def product(one_byte, other):
    """The product in the cipher's field, by its definition."""
    result = 0
    for place in range(8):
        if other >> place & 1:
            result ^= one_byte << place
    for place in range(14, 7, -1):
        if result >> place & 1:
            result ^= 0x11B << (place - 8)
    return result


def mixed_by(factors, part):
    """Each column by the matrix whose first row these factors are, each next row turned by one."""
    result = []
    for at in range(0, 16, 4):
        for line in range(4):
            byte = 0
            for place in range(4):
                byte ^= product(part[at + place], factors[(place - line) % 4])
            result.append(byte)
    return result


class Tables(unittest.TestCase):
    def test_substitutes_are_the_inverses_turned(self):
        for byte in range(256):
            inverse = 0
            for other in range(256):
                if product(byte, other) == 1:
                    inverse = other
            expected = 0x63
            for turn in range(5):
                expected ^= (inverse << turn | inverse >> (8 - turn)) & 255
            self.assertEqual(SUBSTITUTES[byte], expected)

    def test_originals_undo_substitutes(self):
        self.assertEqual([ORIGINALS[SUBSTITUTES[byte]] for byte in range(256)], list(range(256)))
        self.assertEqual(len(ORIGINALS), 256)

    def test_mixing_is_by_the_two_matrices(self):
        for turn in range(16):
            part = [(37 * at + 19 * turn * at + 101 * turn) % 256 for at in range(16)]
            self.assertEqual(mixed(part), mixed_by([2, 3, 1, 1], part))
            self.assertEqual(unmixed(part), mixed_by([14, 11, 13, 9], part))


class One(unittest.TestCase):
    def test_the_documents_example(self):
        self.assertEqual(ask(one(SHORT_KEY, 0, [17 * at for at in range(16)])),
                         [[0, 105, 196, 224, 216, 106, 123, 4, 48, 216, 205, 183, 128, 112, 180, 197, 90]])

    def test_published_both_ways(self):
        pairs = [
            (SHORT_KEY, PLAIN, "69c4e0d86a7b0430d8cdb78070b4c55a"),
            (LONG_KEY, PLAIN, "8ea2b7ca516745bfeafc49904b496089"),
            (row("2b7e151628aed2a6abf7158809cf4f3c"), row("3243f6a8885a308d313198a2e0370734"),
             "3925841d02dc09fbdc118597196a0b32"),
            (row("2b7e151628aed2a6abf7158809cf4f3c"), row("6bc1bee22e409f96e93d7e117393172a"),
             "3ad77bb40d7a3660a89ecaf32466ef97"),
            (row("603deb1015ca71be2b73aef0857d77811f352c073b6108d72d9810a30914dff4"),
             row("6bc1bee22e409f96e93d7e117393172a"), "f3eed1bdb5d2a03c064b5a7e3db181f8"),
        ]
        for key, plain, text in pairs:
            self.assertEqual(ask(one(key, 0, plain), one(key, 1, row(text))), [[0] + row(text), [0] + plain])

    def test_each_byte_comes_back_through_both_ways(self):
        for key in (SHORT_KEY, LONG_KEY):
            rounds = expanded(key)
            for byte in range(256):
                part = [byte ^ at for at in range(16)]
                self.assertEqual(decrypted(rounds, encrypted(rounds, part)), part)

    def test_wrong_numbers(self):
        for size in (LEAST, -16, -1, 0, 8, 15, 17, 24, 31, 33, 64, GREATEST):
            self.assertEqual(last([13, size, 0] + PLAIN), NOT_AS_TOLD)
            self.assertEqual(last([13, size, 1] + PLAIN), NOT_AS_TOLD)
        for way in (LEAST, -1, 2, 3, GREATEST):
            self.assertEqual(last(one(SHORT_KEY, way, PLAIN)), NOT_AS_TOLD)
            self.assertEqual(last(one(LONG_KEY, way, PLAIN)), NOT_AS_TOLD)
        self.assertEqual(last([13, 0, 2] + PLAIN), NOT_AS_TOLD)


class Keys(unittest.TestCase):
    def test_published_in_order(self):
        answer = last(keys(row("2b7e151628aed2a6abf7158809cf4f3c"), 0))
        self.assertEqual(answer, [176] + row(
            "2b7e151628aed2a6abf7158809cf4f3c a0fafe1788542cb123a339392a6c7605"
            "f2c295f27a96b9435935807a7359f67f 3d80477d4716fe3e1e237e446d7a883b"
            "ef44a541a8525b7fb671253bdb0bad00 d4d1c6f87c839d87caf2b8bc11f915bc"
            "6d88a37a110b3efddbf98641ca0093fd 4e54f70e5f5fc9f384a64fb24ea6dc4f"
            "ead27321b58dbad2312bf5607f8d292f ac7766f319fadc2128d12941575c006e"
            "d014f9a8c9ee2589e13f0cc8b6630ca6"))
        answer = last(keys(row("603deb1015ca71be2b73aef0857d77811f352c073b6108d72d9810a30914dff4"), 0))
        self.assertEqual(answer, [240] + row(
            "603deb1015ca71be2b73aef0857d7781 1f352c073b6108d72d9810a30914dff4"
            "9ba354118e6925afa51a8b5f2067fcde a8b09c1a93d194cdbe49846eb75d5b9a"
            "d59aecb85bf3c917fee94248de8ebe96 b5a9328a2678a647983122292f6c79b3"
            "812c81addadf48ba24360af2fab8b464 98c5bfc9bebd198e268c3ba709e04214"
            "68007bacb2df331696e939e46c518d80 c814e20476a9fb8a5025c02d59c58239"
            "de1369676ccc5a71fa2563959674ee15 5886ca5d2e2f31d77e0af1fa27cf73c3"
            "749c47ab18501ddae2757e4f7401905a cafaaae3e4d59b349adf6acebd10190d"
            "fe4890d1e6188d0b046df344706c631e"))

    def test_published_the_other_way_round(self):
        self.assertEqual(last(keys(SHORT_KEY, 1)), [176] + row(
            "13111d7fe3944a17f307a78b4d2b30c5 13aa29be9c8faff6f770f58000f7bf03"
            "1362a4638f2586486bff5a76f7874a83 8d82fc749c47222be4dadc3e9c7810f5"
            "72e3098d11c5de5f789dfe1578a2cccb 2ec410276326d7d26958204a003f32de"
            "a8a2f5044de2c7f50a7ef79869671294 c7c6e391e54032f1479c306d6319e50c"
            "a0db02992286d160a2dc029c2485d561 8c56dff0825dd3f9805ad3fc8659d7fd"
            "000102030405060708090a0b0c0d0e0f"))

    def test_the_other_way_round_mixes_all_but_first_and_last(self):
        for key in (SHORT_KEY, LONG_KEY, [255 - 3 * at for at in range(32)]):
            forward = last(keys(key, 0))
            other = last(keys(key, 1))
            self.assertEqual(other[0], forward[0])
            self.assertEqual(len(other), len(forward))
            parts = [other[at:at + 16] for at in range(1, len(other), 16)]
            parts.reverse()
            undone = parts[0] + [byte for part in parts[1:-1] for byte in mixed_by([2, 3, 1, 1], part)] + parts[-1]
            self.assertEqual(undone, forward[1:])

    def test_wrong_numbers(self):
        for size in (LEAST, -16, -1, 0, 8, 15, 17, 24, 31, 33, 64, GREATEST):
            self.assertEqual(last([12, size, 0]), NOT_AS_TOLD)
            self.assertEqual(last([12, size, 1]), NOT_AS_TOLD)
        for way in (LEAST, -1, 2, GREATEST):
            self.assertEqual(last(keys(SHORT_KEY, way)), NOT_AS_TOLD)
            self.assertEqual(last(keys(LONG_KEY, way)), NOT_AS_TOLD)
