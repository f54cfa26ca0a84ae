"""A list of calls, and what each of them is answered."""

from sealedblocks.cipher import backward, ciphered, expanded
from sealedblocks.house import House
from sealedblocks.rows import joined
from sealedblocks.wrapping import unwrapped, wrapped


def no_house():
    return [-7]


def not_as_told():
    return [-2]


def not_there():
    return [-3]


def not_wrapped():
    return [-6]


def counted(row):
    """How many bytes the row has, then these."""
    return [len(row)] + row


def is_block(number):
    return 0 <= number <= 63


def is_block_size(size):
    return 16 <= size <= 512


def is_key_size(size):
    return size == 16 or size == 32


def is_way(way):
    return way == 0 or way == 1


def is_row_size(size, least):
    """Whether it's a multiple of 8, from the least wrapped or unwrapped length to the greatest."""
    return least <= size <= least + 48 and size % 8 == 0


def storing_answer(house, call):
    """Of write and keep."""
    number = call[1]
    if not (is_block(number) and is_block_size(call[2])):
        return not_as_told()
    if call[0] == 2:
        house.write(number, call[3:])
    else:
        house.keep(number, call[3:])
    return [0]


def block_answer(house, call):
    """Of read, raw, drop and mark."""
    number = call[1]
    if not is_block(number):
        return not_as_told()
    if not house.has_block(number):
        return not_there()
    if call[0] == 3:
        return counted(house.read(number))
    if call[0] == 4:
        return counted(house.raw(number))
    if call[0] == 6:
        house.drop(number)
        return [0]
    return [0] + house.mark(number)


def move_answer(house, call):
    source = call[1]
    target = call[2]
    if not (is_block(source) and is_block(target)):
        return not_as_told()
    if not house.has_block(source):
        return not_there()
    return [house.move(source, target)]


def house_answer(house, call):
    """Of the calls 2 to 9, which ask for a house."""
    if house is None:
        return no_house()
    if call[0] == 2 or call[0] == 5:
        return storing_answer(house, call)
    if call[0] == 7:
        return move_answer(house, call)
    if call[0] == 8:
        return [house.rekey(call[1:])]
    return block_answer(house, call)


def wrap_answer(call):
    size = call[1]
    if not (is_key_size(size) and is_row_size(call[2], 16)):
        return not_as_told()
    return counted(wrapped(expanded(call[3:3 + size]), call[3 + size:]))


def unwrap_answer(call):
    size = call[1]
    if not (is_key_size(size) and is_row_size(call[2], 24)):
        return not_as_told()
    row = unwrapped(expanded(call[3:3 + size]), call[3 + size:])
    if row is None:
        return not_wrapped()
    return counted(row)


def keys_answer(call):
    if not (is_key_size(call[1]) and is_way(call[2])):
        return not_as_told()
    rounds = expanded(call[3:])
    if call[2] == 1:
        rounds = backward(rounds)
    return counted(joined(rounds))


def one_answer(call):
    size = call[1]
    if not (is_key_size(size) and is_way(call[2])):
        return not_as_told()
    return [0] + ciphered(expanded(call[3:3 + size]), call[2], call[3 + size:])


def key_answer(call):
    """Of the calls 10 to 13, which bring their own key."""
    if call[0] == 10:
        return wrap_answer(call)
    if call[0] == 11:
        return unwrap_answer(call)
    if call[0] == 12:
        return keys_answer(call)
    return one_answer(call)


def answers(calls):
    """For each call, in order, how many numbers are answered, then these."""
    result = []
    house = None
    start = 0
    while start < len(calls):
        end = start + 2 + calls[start + 1]
        call = calls[start + 2:end]
        if call[0] == 1:
            house = House(call[1:])
            answer = [0]
        elif call[0] <= 9:
            answer = house_answer(house, call)
        else:
            answer = key_answer(call)
        result.extend(counted(answer))
        start = end
    return result
