"""The calls wrap (point 10) and unwrap (point 11), against RFC 3394."""

import hashlib
import unittest

from tests.lines import (GREATEST, KEY, LEAST, NOT_AS_TOLD, NOT_WRAPPED, OTHER_KEY, ask, last, row, sample, unwrap,
                         wrap)

DATA = row("00112233445566778899aabbccddeeff000102030405060708090a0b0c0d0e0f")
PUBLISHED = ((16, 16, "1fa68b0a8112b447aef34bd8fb5a7b829d3e862371d2cfe5"),
             (32, 16, "64e8c3f9ce0f5ba263e9777905818a2a93c8191e7d6e8ae7"),
             (32, 24, "a8f9bc1612c68b3ff6e6f4fbe30e71e4769c8b80a32cb8958cd5d17d6b254da1"),
             (32, 32, "28c9f404c4b810f4cbccb35cfb87f8263f5786e2d80ed326cbc7f0e71a99f43bfb988b9b7a02dd21"))


class Wrapping(unittest.TestCase):
    def test_the_documents_example(self):
        self.assertEqual(ask(wrap(KEY[:16], [17 * at for at in range(16)])),
                         [[24, 31, 166, 139, 10, 129, 18, 180, 71, 174, 243, 75, 216, 251, 90, 123, 130,
                           157, 62, 134, 35, 113, 210, 207, 229]])

    def test_published(self):
        for size, length, text in PUBLISHED:
            data = DATA[:length]
            if length == 24:
                data = DATA[:16] + list(range(8))
            self.assertEqual(ask(wrap(KEY[:size], data), unwrap(KEY[:size], row(text))),
                             [[length + 8] + row(text), [length] + data])

    def test_all_lengths(self):
        # The digest comes from another implementation of AES Key Wrap.
        wrapped = hashlib.sha256()
        for size in (16, 32):
            for length in range(16, 65, 8):
                answer = last(wrap(KEY[:size], sample(length)))
                self.assertEqual((len(answer), answer[0]), (length + 9, length + 8))
                wrapped.update(bytes(answer[1:]))
                self.assertEqual(last(unwrap(KEY[:size], answer[1:])), [length] + sample(length))
        self.assertEqual(wrapped.hexdigest(), "3349a038f81ef642bd6b67b12200605c809213b32f2cb85d5b399e8e51acd205")

    def test_not_wrapped_by_the_key(self):
        for size in (16, 32):
            for length in range(16, 65, 8):
                wrapped = last(wrap(KEY[:size], sample(length)))[1:]
                self.assertEqual(last(unwrap(OTHER_KEY[:size], wrapped)), NOT_WRAPPED)
                self.assertEqual(last(unwrap(KEY[:48 - size] if size == 32 else KEY, wrapped)), NOT_WRAPPED)
                self.assertEqual(last(unwrap(KEY[:size], sample(length + 8))), NOT_WRAPPED)

    def test_each_bit_of_what_is_wrapped_counts(self):
        wrapped = row(PUBLISHED[0][2])
        for place in range(24):
            for bit in (1, 128):
                other = list(wrapped)
                other[place] ^= bit
                self.assertEqual(last(unwrap(KEY[:16], other)), NOT_WRAPPED)

    def test_all_eight_bytes_at_the_end_are_asked(self):
        # Unwrapped by a wrapping from another beginning, one byte of the eight is other than A6H at the end.
        for place in range(8):
            head = [0xA6] * 8
            head[place] ^= 1
            self.assertEqual(last(unwrap(KEY[:16], wrapped_from(head, DATA))), NOT_WRAPPED)
        self.assertEqual(last(unwrap(KEY[:16], wrapped_from([0xA6] * 8, DATA))), [32] + DATA)

    def test_wrong_key_lengths(self):
        for size in (LEAST, -16, -1, 0, 8, 15, 17, 24, 31, 33, 64, GREATEST):
            self.assertEqual(last([10, size, 16] + sample(16)), NOT_AS_TOLD)
            self.assertEqual(last([11, size, 24] + sample(24)), NOT_AS_TOLD)
            self.assertEqual(last([10, size, 15]), NOT_AS_TOLD)
            self.assertEqual(last([11, size, 15]), NOT_AS_TOLD)

    def test_wrong_lengths(self):
        for key in (KEY[:16], KEY):
            size = len(key)
            for length in (LEAST, -16, -8, -1, 0, 8, 15, 17, 20, 28, 60, 63, 65, 72, 80, 128, GREATEST):
                self.assertEqual(last([10, size, length] + key), NOT_AS_TOLD)
            for length in (LEAST, -24, -8, -1, 0, 8, 16, 23, 25, 28, 68, 71, 73, 80, 88, 128, GREATEST):
                self.assertEqual(last([11, size, length] + key), NOT_AS_TOLD)


def wrapped_from(head, data):
    """The data gone through as wrapping does, but from this beginning on."""
    parts = [data[at:at + 8] for at in range(0, len(data), 8)]
    count = 0
    for turn in range(6):
        for at in range(len(parts)):
            count += 1
            both = last([13, 16, 0] + KEY[:16] + head + parts[at])[1:]
            head = both[:7] + [both[7] ^ count]
            parts[at] = both[8:]
    return head + [byte for part in parts for byte in part]
