"""What the tests share: calls as lists, answers taken apart, and pages made straight from the document's table."""

from lacedpages.pages import answers

ALL_BITS_SET = 2**64 - 1
EXPONENTS = (32, 26, 23, 22, 16, 12, 11, 10, 8, 7, 5, 4, 2, 1, 0)


def writer(stream):
    return [1, stream]


def put(position, last, packet):
    return [2, position, last, len(packet)] + list(packet)


def flush():
    return [3]


def page():
    return [4]


def reader(stream):
    return [5, stream]


def feed(data):
    return [6, len(data)] + list(data)


def run(*calls):
    """Each call's answer as a list of its own, the refusal or 0 first."""
    given = answers([number for call in calls for number in call])
    taken_apart = []
    place = 0
    while place < len(given):
        count = given[place]
        assert 1 <= count <= len(given) - place - 1
        taken_apart.append(given[place + 1 : place + 1 + count])
        place += 1 + count
    assert len(taken_apart) == len(calls)
    return taken_apart


def polynomial_sum(data):
    """Long division of the one polynomial, bit by bit, so that nothing is shared with the program's own way."""
    divisor = sum(1 << exponent for exponent in EXPONENTS)
    dividend = int.from_bytes(bytes(data), "big") << 32
    while dividend.bit_length() > 32:
        dividend ^= divisor << (dividend.bit_length() - 33)
    return dividend


def make_page(number, lacing, body, flags=0, position=ALL_BITS_SET, stream=0):
    head = [79, 103, 103, 83, 0, flags]
    head += position.to_bytes(8, "little") + stream.to_bytes(4, "little") + number.to_bytes(4, "little")
    tail = [len(lacing)] + list(lacing) + list(body)
    return head + list(polynomial_sum(head + [0] * 4 + tail).to_bytes(4, "little")) + tail


def some_bytes(count, seed=1):
    return [(seed + 7 * k + k // 256) % 256 for k in range(count)]
