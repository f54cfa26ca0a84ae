"""Sealed blocks, against IEEE 1619, and the calls write, read, raw and keep (points 2 to 5)."""

import hashlib
import unittest

from sealedblocks.cipher import expanded
from sealedblocks.sealing import sealed, unsealed
from tests.lines import KEY, ask, house, keep, last, raw, read, row, sample, write

# Vectors 15 to 18 of IEEE 1619: lengths that end within a part.
STEALING_KEYS = ("fffefdfcfbfaf9f8f7f6f5f4f3f2f1f0", "bfbebdbcbbbab9b8b7b6b5b4b3b2b1b0")
STEALING = ("6c1625db4671522d3d7599601de7ca09ed",
            "d069444b7a7e0cab09e24447d24deb1fedbf",
            "e5df1351c0544ba1350b3363cd8ef4beedbf9d",
            "9d84c813f719aa2c7be3f66171c7c5c2edbf9dac")

# Vectors 4 and 5: blocks 0 and 1, of 512 bytes.
LONG_KEY = "27182818284590452353602874713526 31415926535897932384626433832795"
LONG = ("27a7479befa1d476489f308cd4cfa6e2a96e4bbe3208ff25287dd3819616e89c"
        "c78cf7f5e543445f8333d8fa7f56000005279fa5d8b5e4ad40e736ddb4d35412"
        "328063fd2aab53e5ea1e0a9f332500a5df9487d07a5c92cc512c8866c7e860ce"
        "93fdf166a24912b422976146ae20ce846bb7dc9ba94a767aaef20c0d61ad0265"
        "5ea92dc4c4e41a8952c651d33174be51a10c421110e6d81588ede82103a252d8"
        "a750e8768defffed9122810aaeb99f9172af82b604dc4b8e51bcb08235a6f434"
        "1332e4ca60482a4ba1a03b3e65008fc5da76b70bf1690db4eae29c5f1badd03c"
        "5ccf2a55d705ddcd86d449511ceb7ec30bf12b1fa35b913f9f747a8afd1b130e"
        "94bff94effd01a91735ca1726acd0b197c4e5b03393697e126826fb6bbde8ecc"
        "1e08298516e2c9ed03ff3c1b7860f6de76d4cecd94c8119855ef5297ca67e9f3"
        "e7ff72b1e99785ca0a7e7720c5b36dc6d72cac9574c8cbbc2f801e23e56fd344"
        "b07f22154beba0f08ce8891e643ed995c94d9a69c9f1b5f499027a78572aeebd"
        "74d20cc39881c213ee770b1010e4bea718846977ae119f7a023ab58cca0ad752"
        "afe656bb3c17256a9f6e9bf19fdd5a38fc82bbe872c5539edb609ef4f79c203e"
        "bb140f2e583cb2ad15b4aa5b655016a8449277dbd477ef2c8d6c017db738b18d"
        "eb4a427d1923ce3ff262735779a418f20a282df920147beabe421ee5319d0568")


class Rows(unittest.TestCase):
    def test_published_with_numbers_past_the_blocks(self):
        first = expanded(row("11" * 16))
        second = expanded(row("22" * 16))
        text = row("c454185e6a16936e39334038acef838bfb186fff7480adc4289382ecd6d394f0")
        self.assertEqual(sealed(first, second, 0x3333333333, [0x44] * 32), text)
        self.assertEqual(unsealed(first, second, 0x3333333333, text), [0x44] * 32)

    def test_published_ending_within_a_part(self):
        first = expanded(row(STEALING_KEYS[0]))
        second = expanded(row(STEALING_KEYS[1]))
        for text in STEALING:
            plain = list(range(len(row(text))))
            self.assertEqual(sealed(first, second, 0x123456789A, plain), row(text))
            self.assertEqual(unsealed(first, second, 0x123456789A, row(text)), plain)


class Calls(unittest.TestCase):
    def test_published_with_two_keys_alike(self):
        text = row("917cf69ebd68b2ec9b9fe9a3eadda692cd43d2f59598ed858c02c2652fbf922e")
        self.assertEqual(ask(house([0] * 32), write(0, [0] * 32), raw(0), read(0)),
                         [[0], [0], [32] + text, [32] + [0] * 32])

    def test_published_of_the_greatest_length(self):
        plain = list(range(256)) * 2
        found = ask(house(row(LONG_KEY)), write(0, plain), raw(0), read(0), write(1, row(LONG)), raw(1), read(1))
        self.assertEqual(found[2], [512] + row(LONG))
        self.assertEqual(found[3], [512] + plain)
        self.assertEqual(found[5][:33], [512] + row("264d3ca8512194fec312c8c9891f279fefdd608d0c027b60483a3fa811d65ee5"))
        self.assertEqual(found[6], [512] + row(LONG))

    def test_a_few_lengths_and_numbers(self):
        # Worked out by another implementation of XTS-AES.
        for number, size, text in (
                (0, 16, "e701d805be4bb686e67bb321bdc28490"),
                (1, 17, "01f2cda1ae57ae7b247cb0d9dbbb581fef"),
                (63, 31, "b8ab3e66f24b47ced1b9a0abdd5296930a8f6ed64bc470995819900ce79242"),
                (5, 48, "6512fc13b3f2b62e2b784444f33d5a4eadb3db4621896060f6742ee18652852a"
                        "edf8ca3de3bd3ec42524d41bf6b04c78")):
            written = ask(house(), write(number, sample(size)), raw(number), read(number))
            self.assertEqual(written, [[0], [0], [size] + row(text), [size] + sample(size)])
            kept = ask(house(), keep(number, row(text)), raw(number), read(number))
            self.assertEqual(kept, written)

    def test_all_lengths(self):
        # The two digests come from another implementation of XTS-AES.
        as_sealed = hashlib.sha256()
        as_opened = hashlib.sha256()
        for size in range(16, 513):
            number = size % 64
            found = ask(house(), write(number, sample(size)), raw(number), read(number),
                        keep(number, sample(size)), raw(number), read(number))
            self.assertEqual([answer[0] for answer in found], [0, 0, size, size, 0, size, size])
            self.assertEqual([len(answer) - 1 for answer in found], [0, 0, size, size, 0, size, size])
            self.assertEqual(found[3][1:], sample(size))
            self.assertEqual(found[5][1:], sample(size))
            as_sealed.update(bytes(found[2][1:]))
            as_opened.update(bytes(found[6][1:]))
        self.assertEqual(as_sealed.hexdigest(), "8ed60130e7cb5316c0c530fa71b0cfa2bee4e08b3ce92ed06a4fbfeea7e37d58")
        self.assertEqual(as_opened.hexdigest(), "8b8404b2821b99959dfd8a0599486acb476f8241d90c227e15378eeef9f584af")

    def test_blocks_alike_do_not_look_alike(self):
        looks = [tuple(last(house(), write(number, sample(40)), raw(number))) for number in range(64)]
        self.assertEqual(len(set(looks)), 64)
        self.assertEqual({len(look) for look in looks}, {41})

    def test_both_halves_of_the_key_count(self):
        looks = []
        for place in (0, 15, 16, 31):
            key = list(KEY)
            key[place] ^= 1
            looks.append(tuple(last(house(key), write(3, sample(40)), raw(3))))
        looks.append(tuple(last(house(), write(3, sample(40)), raw(3))))
        self.assertEqual(len(set(looks)), 5)
