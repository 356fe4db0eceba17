"""What the tests share: calls as lists, answers taken apart, and pages made straight from the document's table."""

from lacedpages.pages import answers

ALL_BITS_SET = 2**64 - 1
EXPONENTS = (32, 26, 23, 22, 16, 12, 11, 10, 8, 7, 5, 4, 2, 1, 0)


def writer(stream):
    return [1, stream]


def put(position, last, packet):
    return [2, position, last, len(packet)] + list(packet)


def flush():
    return [3]


def page():
    return [4]


def reader(stream):
    return [5, stream]


def feed(data):
    return [6, len(data)] + list(data)


def close():
    return [7]


def waits():
    return [8]


def take(cap=9000):
    """The call next, whose own name is Python's."""
    return [9, cap]


def counts():
    return [10]


def sum_call(data):
    return [11, len(data)] + list(data)


def check(data):
    return [12, len(data)] + list(data)


def run(*calls):
    """Each call's answer as a list of its own, the refusal or 0 first."""
    line = [number for call in calls for number in call]
    assert 1 <= len(calls) <= 100 and len(line) <= 16000, "more than a line may have"
    given = answers(line)
    taken_apart = []
    place = 0
    while place < len(given):
        count = given[place]
        assert 1 <= count <= len(given) - place - 1
        taken_apart.append(given[place + 1 : place + 1 + count])
        place += 1 + count
    assert len(taken_apart) == len(calls)
    return taken_apart


class Line:
    """A line that grows call by call, each put when the answers before it are known.

    Every question runs the whole line anew, so the answers before it are asked for again and have to be the same."""

    def __init__(self, *calls):
        self.calls = list(calls)
        self.given = run(*calls) if calls else []

    def ask(self, call):
        self.calls.append(call)
        before = self.given
        self.given = run(*self.calls)
        assert self.given[:-1] == before, "an earlier answer has changed"
        return self.given[-1]

    def take_all(self):
        """All packets that wait, each as position, hole, last and its bytes."""
        packets = []
        answer = self.ask(take())
        while answer != [-5]:
            assert answer[0] == 0
            packets.append((*answer[1:4], answer[4:]))
            answer = self.ask(take())
        return packets

    def read(self, data, size=9000):
        """Feeds all data in pieces of that size; the packets, taken whenever a feed stops and at the end."""
        packets = []
        place = 0
        while place < len(data):
            piece = data[place : place + size]
            done, took = self.ask(feed(piece))
            assert done == 0
            place += took
            if took < len(piece):
                found = self.take_all()
                assert found, "a feed stopped though no packet waits"
                packets += found
        return packets + self.take_all()


def joined(pages):
    return [value for whole in pages for value in whole]


def written(stream, packets, flushed=()):
    """The pages of these packets, (position, bytes) each, the last one ending the stream.

    Behind the packets whose places are in flushed the page begun is done."""
    line = Line(writer(stream))
    pages = []
    for place, (position, packet) in enumerate(packets):
        assert line.ask(put(position, 1 if place == len(packets) - 1 else 0, packet)) == [0]
        pages += taken_pages(line)
        if place in flushed:
            assert line.ask(flush()) == [0]
            pages += taken_pages(line)
    return pages


def taken_pages(line):
    pages = []
    answer = line.ask(page())
    while answer != [-5]:
        pages.append(answer[1:])
        answer = line.ask(page())
    return pages


def polynomial_sum(data):
    """Long division of the one polynomial, bit by bit, so that nothing is shared with the program's own way."""
    divisor = sum(1 << exponent for exponent in EXPONENTS)
    dividend = int.from_bytes(bytes(data), "big") << 32
    while dividend.bit_length() > 32:
        dividend ^= divisor << (dividend.bit_length() - 33)
    return dividend


def make_page(number, lacing, body, flags=0, position=ALL_BITS_SET, stream=0):
    head = [79, 103, 103, 83, 0, flags]
    head += position.to_bytes(8, "little") + stream.to_bytes(4, "little") + number.to_bytes(4, "little")
    tail = [len(lacing)] + list(lacing) + list(body)
    return head + list(polynomial_sum(head + [0] * 4 + tail).to_bytes(4, "little")) + tail


def some_bytes(count, seed=1):
    return [(seed + 7 * k + k // 256) % 256 for k in range(count)]
