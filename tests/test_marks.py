"""Marks, against RFC 4493, and the call mark (point 9)."""

import hashlib
import unittest

from sealedblocks.cipher import expanded
from sealedblocks.marks import mark_of
from tests.lines import KEY, ask, house, keep, last, mark, raw, row, sample, write

PUBLISHED_KEY = "2b7e151628aed2a6abf7158809cf4f3c"
PUBLISHED_TEXT = ("6bc1bee22e409f96e93d7e117393172a ae2d8a571e03ac9c9eb76fac45af8e51"
                  "30c81c46a35ce411e5fbc1191a0a52ef f69f2445df4f9b17ad2b417be66c3710")
PUBLISHED = ((0, "bb1d6929e95937287fa37d129b756746"),
             (16, "070a16b46b4d4144f79bdd9dd04a287c"),
             (40, "dfa66747de9ae63030ca32611497c827"),
             (64, "51f0bebf7e3b9d92fc49741779363cfe"))


class Marks(unittest.TestCase):
    def test_published(self):
        rounds = expanded(row(PUBLISHED_KEY))
        for size, text in PUBLISHED:
            self.assertEqual(mark_of(rounds, row(PUBLISHED_TEXT)[:size]), row(text))

    def test_a_few_blocks(self):
        # Worked out by another implementation of AES-CMAC.
        for number, size, text in ((0, 16, "914b3a53a48215a5dabb30c23faabce3"),
                                   (1, 17, "c34db1c7776bb712830ff9b590e9eec0"),
                                   (63, 31, "7dad8f57f5b8e22440a29f544cab644a"),
                                   (5, 48, "4f2459814e017a6529c5060a5975099d")):
            self.assertEqual(last(house(), keep(number, sample(size)), mark(number)), [0] + row(text))

    def test_all_lengths(self):
        # The digest comes from another implementation of AES-CMAC.
        marks = hashlib.sha256()
        for size in range(16, 513):
            number = size % 64
            answer = last(house(), keep(number, sample(size)), mark(number))
            self.assertEqual((len(answer), answer[0]), (17, 0))
            marks.update(bytes(answer[1:]))
        self.assertEqual(marks.hexdigest(), "11dc05460a9a4991b238a077bd429e64c25dd7066d5739d90d391e2f4f16f357")

    def test_it_is_of_the_block_as_kept(self):
        for size in (16, 23, 24, 40, 512):
            found = ask(house(), write(9, sample(size)), raw(9), mark(9))
            self.assertEqual(last(house(), keep(9, found[2][1:]), mark(9)), found[3])
            self.assertNotEqual(last(house(), keep(9, sample(size)), mark(9)), found[3])

    def test_it_is_by_the_first_key_alone(self):
        mine = last(house(), keep(9, sample(40)), mark(9))
        self.assertEqual(last(house(KEY[:16] + [7] * 16), keep(9, sample(40)), mark(9)), mine)
        self.assertNotEqual(last(house([7] * 16 + KEY[16:]), keep(9, sample(40)), mark(9)), mine)

    def test_it_tells_number_and_every_byte(self):
        marks = {tuple(last(house(), keep(number, sample(24)), mark(number))) for number in range(64)}
        self.assertEqual(len(marks), 64)
        marks = set()
        for place in range(24):
            data = sample(24)
            data[place] ^= 128
            marks.add(tuple(last(house(), keep(0, data), mark(0))))
        self.assertEqual(len(marks), 24)
