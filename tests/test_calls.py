"""The calls on one line: houses, blocks, refusals (points 1 to 9), and the form of what is handed in and answered."""

import unittest

from sealedblocks.blocks import answers
from tests.lines import (GREATEST, KEY, LEAST, NO_HOUSE, NOT_AS_TOLD, NOT_THERE, NOT_WRAPPED, OTHER_KEY, all_told, ask,
                         drop, flat, house, keep, keys, last, mark, move, one, raw, read, rekey, row, sample, unwrap,
                         wrap, write)

WRONG_NUMBERS = (LEAST, -64, -1, 64, 65, 128, 256, GREATEST)
WRONG_SIZES = (LEAST, -16, -1, 0, 1, 8, 15, 513, 514, 528, 1024, GREATEST)


class Form(unittest.TestCase):
    def test_the_two_examples_as_they_are_handed_in(self):
        key = list(range(16))
        data = list(range(0, 256, 17))
        self.assertEqual(answers([0, 35, 13, 16, 0] + key + data),
                         [17, 0, 105, 196, 224, 216, 106, 123, 4, 48, 216, 205, 183, 128, 112, 180, 197, 90])
        self.assertEqual(answers([0, 35, 10, 16, 16] + key + data),
                         [25, 24, 31, 166, 139, 10, 129, 18, 180, 71, 174, 243, 75, 216, 251, 90, 123, 130,
                          157, 62, 134, 35, 113, 210, 207, 229])

    def test_counts_stand_ahead_of_each_answer(self):
        calls = [read(0), house(), read(0), write(0, sample(16)), read(0), drop(0)]
        self.assertEqual(answers(flat(calls)), [1, -7, 1, 0, 1, -3, 1, 0, 17, 16] + sample(16) + [1, 0])

    def test_forty_of_the_longest_calls(self):
        calls = [house()] + [write(number, sample(512)) for number in range(39)]
        self.assertEqual(answers(flat(calls)), [1, 0] * 40)

    def test_whole_numbers_alone_are_answered(self):
        found = answers(flat(busy_line()))
        self.assertEqual(set(map(type, found)), {int})
        self.assertIs(type(found), list)

    def test_what_is_handed_in_stays(self):
        class Watched(list):
            def refuse(self, *rest):
                raise AssertionError("changed")
            __setitem__ = __delitem__ = __iadd__ = __imul__ = refuse
            append = extend = insert = pop = remove = clear = sort = reverse = refuse
        numbers = flat(busy_line())
        self.assertEqual(answers(Watched(numbers)), answers(numbers))
        self.assertEqual(numbers, flat(busy_line()))

    def test_nothing_is_kept_from_one_time_to_the_next(self):
        numbers = flat(busy_line())
        first = answers(numbers)
        self.assertEqual(answers([0, 2, 3, 0]), [1, -7])
        self.assertEqual(answers(flat([house(OTHER_KEY), read(1)])), [1, 0, 1, -3])
        self.assertEqual(answers(numbers), first)
        first.clear()
        self.assertEqual(answers(numbers)[:2], [1, -7])

    def test_what_is_given_back_is_its_own(self):
        numbers = flat([house(), keep(0, sample(16)), raw(0)])
        found = answers(numbers)
        found[-1] = 1000
        self.assertEqual(numbers, flat([house(), keep(0, sample(16)), raw(0)]))


def busy_line():
    """All calls, refused and not."""
    key = KEY[:16]
    wrapped = last(wrap(key, sample(24)))[1:]
    return [read(1), house(), write(1, sample(17)), keep(2, sample(32)), read(1), raw(1), mark(1), read(2), move(1, 5),
            move(2, 2), rekey(OTHER_KEY), read(5), raw(2), drop(5), read(5), write(64, sample(16)),
            wrap(key, sample(16)), unwrap(key, wrapped), unwrap(OTHER_KEY, wrapped), keys(KEY, 0), keys(key, 1),
            one(KEY, 0, sample(16)), one(key, 1, sample(16)), [12, 3, 0], house(OTHER_KEY), read(2)]


class NoHouse(unittest.TestCase):
    def test_calls_that_ask_for_one(self):
        for call in (write(0, sample(16)), read(0), raw(0), keep(0, sample(16)), drop(0), move(0, 1), move(0, 0),
                     rekey(KEY), mark(0)):
            self.assertEqual(ask(call, call), [NO_HOUSE, NO_HOUSE])

    def test_it_goes_before_all_else(self):
        for call in (write(64, sample(16)), [2, 0, 15], [2, -1, 513], read(-1), raw(64), keep(-1, sample(16)),
                     [5, 0, 0], drop(64), move(64, 0), move(0, 64), mark(-1)):
            self.assertEqual(ask(call), [NO_HOUSE])

    def test_calls_that_do_not_ask_for_one(self):
        key = KEY[:16]
        wrapped = last(wrap(key, sample(16)))[1:]
        self.assertEqual(ask(unwrap(key, wrapped), unwrap(KEY, wrapped), [10, 15, 16] + sample(16), keys(key, 2),
                             one(key, 0, list(range(0, 256, 17)))),
                         [[16] + sample(16), NOT_WRAPPED, NOT_AS_TOLD, NOT_AS_TOLD,
                          [0] + row("69c4e0d86a7b0430d8cdb78070b4c55a")])
        self.assertEqual(last(keys(KEY, 0))[0], 240)

    def test_they_make_none(self):
        self.assertEqual(last(wrap(KEY, sample(16)), keys(KEY, 0), one(KEY, 0, sample(16)), read(0)), NO_HOUSE)

    def test_a_refused_one_makes_none(self):
        self.assertEqual(ask(write(0, sample(16)), house(), read(0)), [NO_HOUSE, [0], NOT_THERE])
        self.assertEqual(ask(rekey(OTHER_KEY), read(0), house(), rekey(KEY)), [NO_HOUSE, NO_HOUSE, [0], [0]])


class Refusals(unittest.TestCase):
    def assert_refused(self, refusal, calls):
        """Each call is refused so, and leaves all blocks and the key as they were."""
        before = [house(), write(0, sample(16)), write(5, sample(33)), keep(63, sample(512))]
        told = all_told((0, 1, 5, 63))
        expected = ask(*before, *told)
        for call in calls:
            found = ask(*before, call, *told)
            self.assertEqual(found[4], refusal, call[:3])
            self.assertEqual(found[:4] + found[5:], expected, call[:3])

    def test_wrong_block_numbers(self):
        for wrong in WRONG_NUMBERS:
            self.assert_refused(NOT_AS_TOLD, [write(wrong, sample(16)), keep(wrong, sample(40)), read(wrong),
                                              raw(wrong), drop(wrong), mark(wrong), move(wrong, 0), move(0, wrong)])

    def test_wrong_numbers_go_ahead_of_what_is_not_there(self):
        self.assert_refused(NOT_AS_TOLD, [move(wrong, 1) for wrong in WRONG_NUMBERS])
        self.assert_refused(NOT_AS_TOLD, [move(1, wrong) for wrong in WRONG_NUMBERS])
        self.assert_refused(NOT_AS_TOLD, [move(wrong, wrong) for wrong in WRONG_NUMBERS])

    def test_wrong_sizes(self):
        self.assert_refused(NOT_AS_TOLD, [[2, 0, wrong] for wrong in WRONG_SIZES])
        self.assert_refused(NOT_AS_TOLD, [[5, 0, wrong] for wrong in WRONG_SIZES])
        self.assert_refused(NOT_AS_TOLD, [[2, -1, 15], [5, 64, 513]])

    def test_blocks_that_are_not_there(self):
        self.assert_refused(NOT_THERE, [read(1), raw(1), drop(1), mark(1), move(1, 0), move(1, 2), move(1, 1),
                                        read(62), raw(62), drop(62), mark(62), move(62, 63)])

    def test_those_without_a_house(self):
        key = KEY[:16]
        self.assert_refused(NOT_AS_TOLD, [[10, 16, 8] + key, [11, 16, 16] + key, [12, 24, 0], [13, 0, 0] + sample(16)])
        self.assert_refused(NOT_WRAPPED, [unwrap(key, sample(24)), unwrap(KEY, sample(72))])


class Opening(unittest.TestCase):
    def test_no_block_is_there(self):
        for numbers in (range(0, 32), range(32, 64)):
            found = ask(house(), *[read(number) for number in numbers])
            self.assertEqual(found, [[0]] + [NOT_THERE] * 32)

    def test_a_second_open_drops_all_and_has_its_own_key(self):
        found = ask(house(), write(0, sample(16)), keep(63, sample(40)), house(OTHER_KEY), read(0), raw(63), mark(0),
                    rekey(OTHER_KEY), write(1, sample(17)), raw(1), mark(1))
        # The sealed row and its mark are worked out by other implementations.
        self.assertEqual(found, [[0], [0], [0], [0], NOT_THERE, NOT_THERE, NOT_THERE, [0], [0],
                                 [17] + row("35bccd64e4135fba636948c9e4e64baa34"),
                                 [0] + row("96edeae90ef98c0c2496e90145acb6bc")])

    def test_a_second_open_by_the_same_key_drops_all_too(self):
        self.assertEqual(ask(house(), write(0, sample(16)), house(), read(0)), [[0], [0], [0], NOT_THERE])


class Storing(unittest.TestCase):
    def test_lowest_and_greatest_number_and_size(self):
        for size in (16, 512):
            found = ask(house(), write(0, sample(size)), keep(63, sample(size)), read(0), raw(63))
            self.assertEqual(found, [[0], [0], [0], [size] + sample(size), [size] + sample(size)])

    def test_another_row_takes_the_place_of_the_first(self):
        found = ask(house(), write(3, sample(100)), write(3, sample(16)), read(3), keep(3, sample(33)), raw(3),
                    write(3, sample(47)), read(3))
        self.assertEqual(found, [[0], [0], [0], [16] + sample(16), [0], [33] + sample(33), [0], [47] + sample(47)])

    def test_blocks_do_not_meet(self):
        found = ask(house(), write(0, sample(20)), write(1, sample(30)), write(2, sample(40)), drop(1),
                    read(0), read(1), read(2))
        self.assertEqual(found[4:], [[0], [20] + sample(20), NOT_THERE, [40] + sample(40)])

    def test_reading_changes_nothing(self):
        found = ask(house(), write(0, sample(20)), *all_told((0,)), *all_told((0,)))
        self.assertEqual(found[2:5], found[5:])


class Dropping(unittest.TestCase):
    def test_it_is_not_there_any_more(self):
        found = ask(house(), write(7, sample(16)), drop(7), read(7), raw(7), mark(7), drop(7), move(7, 8), rekey(KEY))
        self.assertEqual(found, [[0], [0], [0]] + [NOT_THERE] * 5 + [[0]])

    def test_it_may_come_back(self):
        self.assertEqual(last(house(), keep(7, sample(16)), drop(7), write(7, sample(18)), read(7)), [18] + sample(18))


class Moving(unittest.TestCase):
    def test_onto_one_that_is_not_there(self):
        for size in (16, 17, 31, 32, 33, 512):
            found = ask(house(), write(4, sample(size)), move(4, 60), read(4), read(60), raw(60), mark(60))
            self.assertEqual(found[2:5], [[size], NOT_THERE, [size] + sample(size)])
            self.assertEqual(found[5:], ask(house(), write(60, sample(size)), raw(60), mark(60))[2:])

    def test_onto_one_that_is_there(self):
        found = ask(house(), write(4, sample(21)), write(60, sample(300)), move(4, 60), read(4), read(60), rekey(KEY))
        self.assertEqual(found[3:], [[21], NOT_THERE, [21] + sample(21), [1]])

    def test_onto_itself(self):
        for size in (16, 21, 512):
            found = ask(house(), write(4, sample(size)), *all_told((4,)), move(4, 4), *all_told((4,)), rekey(KEY))
            self.assertEqual(found[5], [size])
            self.assertEqual(found[6:9], found[2:5])
            self.assertEqual(found[9], [1])

    def test_of_a_kept_one(self):
        # What is kept as it is is read by its number, and is read so behind the move too.
        for size in (16, 40, 511):
            found = ask(house(), keep(4, sample(size)), read(4), move(4, 5), read(5), raw(5), move(5, 4), raw(4))
            self.assertEqual(found[4], found[2])
            self.assertNotEqual(found[5], [size] + sample(size))
            self.assertEqual(found[7], [size] + sample(size))

    def test_there_and_back(self):
        found = ask(house(), write(0, sample(50)), raw(0), move(0, 63), move(63, 0), raw(0), read(63))
        self.assertEqual(found[5], found[2])
        self.assertEqual(found[6], NOT_THERE)


class Rekeying(unittest.TestCase):
    def test_how_many_there_are(self):
        self.assertEqual(last(house(), rekey(OTHER_KEY)), [0])
        for count in (1, 2, 37):
            calls = [write(number, sample(16 + number)) for number in range(count)]
            self.assertEqual(last(house(), *calls, rekey(OTHER_KEY)), [count])
        self.assertEqual(last(house(), write(1, sample(16)), write(1, sample(17)), keep(2, sample(16)), drop(2),
                              rekey(OTHER_KEY)), [1])

    def test_blocks_are_read_as_before_and_kept_by_the_new_key(self):
        found = ask(house(), write(1, sample(17)), write(63, sample(512)), rekey(OTHER_KEY), read(1), read(63), raw(1),
                    raw(63), mark(1), mark(63))
        fresh = ask(house(OTHER_KEY), write(1, sample(17)), write(63, sample(512)), raw(1), raw(63), mark(1), mark(63))
        self.assertEqual(found[3:6], [[2], [17] + sample(17), [512] + sample(512)])
        self.assertEqual(found[6:], fresh[3:])
        # Worked out by other implementations.
        self.assertEqual(found[6], [17] + row("35bccd64e4135fba636948c9e4e64baa34"))
        self.assertEqual(found[8], [0] + row("96edeae90ef98c0c2496e90145acb6bc"))

    def test_kept_blocks_are_read_as_before_too(self):
        found = ask(house(), keep(2, list(range(40))), read(2), rekey(OTHER_KEY), read(2), raw(2))
        self.assertEqual(found[4], found[2])
        # Worked out by another implementation.
        self.assertEqual(found[5], [40] + row(
            "192b2a13f191d354bfd28860598ced6d33a88cd00eccbeff39997bfbb9cdc641e301ef67773d006e"))

    def test_by_the_same_key_and_back(self):
        found = ask(house(), write(1, sample(20)), raw(1), rekey(KEY), raw(1), rekey(OTHER_KEY), rekey(KEY), raw(1))
        self.assertEqual(found[3:], [[1], found[2], [1], [1], found[2]])

    def test_what_is_written_behind_it_is_by_the_new_key(self):
        found = ask(house(), rekey(OTHER_KEY), write(1, sample(17)), raw(1), mark(1))
        self.assertEqual(found[3:], [[17] + row("35bccd64e4135fba636948c9e4e64baa34"),
                                     [0] + row("96edeae90ef98c0c2496e90145acb6bc")])
