"""What all tests ask: lines of calls built by name, asked, and their answers taken apart."""

from sealedblocks.blocks import answers

NO_HOUSE = [-7]
NOT_AS_TOLD = [-2]
NOT_THERE = [-3]
NOT_WRAPPED = [-6]

LEAST = -2147483648
GREATEST = 2147483647

KEY = list(range(32))
OTHER_KEY = list(range(100, 132))


def row(text):
    """The bytes that a text in base sixteen tells; blanks may stand between."""
    return list(bytes.fromhex(text))


def sample(size):
    """Bytes that differ by place and by length."""
    return [(7 * at + size) % 256 for at in range(size)]


def house(key=KEY):
    return [1] + key


def write(number, data):
    return [2, number, len(data)] + data


def read(number):
    return [3, number]


def raw(number):
    return [4, number]


def keep(number, data):
    return [5, number, len(data)] + data


def drop(number):
    return [6, number]


def move(source, target):
    return [7, source, target]


def rekey(key):
    return [8] + key


def mark(number):
    return [9, number]


def wrap(key, data):
    return [10, len(key), len(data)] + key + data


def unwrap(key, data):
    return [11, len(key), len(data)] + key + data


def keys(key, way):
    return [12, len(key), way] + key


def one(key, way, data):
    return [13, len(key), way] + key + data


def flat(calls):
    """The one list that is handed in for these calls."""
    numbers = []
    for call in calls:
        numbers += [0, len(call)] + call
    return numbers


def taken_apart(numbers):
    """A list of answers out of the one list that is given back."""
    found = []
    at = 0
    while at < len(numbers):
        end = at + 1 + numbers[at]
        found.append(numbers[at + 1:end])
        at = end
    return found


def ask(*calls):
    """The answer to each of these calls, on one line."""
    return taken_apart(answers(flat(calls)))


def last(*calls):
    """The answer to the last of these calls."""
    return ask(*calls)[-1]


def all_told(numbers):
    """Calls that tell all of these blocks: read, raw and marked."""
    return [call for number in numbers for call in (read(number), raw(number), mark(number))]
