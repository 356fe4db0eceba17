"""What the whole program promises: what is written is read, whatever is lost, damaged or put between, however cut."""

import unittest

from tests.helper import Line, close, counts, feed, joined, make_page, reader, run, some_bytes, take, written

STREAM = 6
MARK = [79, 103, 103, 83, 0]


class Row:
    """Packets, (position, bytes) each, their pages, and the sizes of the pieces in which these are fed."""

    def __init__(self, packets, flushed, sizes):
        self.packets = packets
        self.pages = written(STREAM, packets, flushed)
        self.sizes = sizes
        self.spans = lay_out(packets, flushed)

    def expected(self, lost=None):
        """What is read when the page of this number is lost."""
        read = []
        before = -1
        for place, (position, packet) in enumerate(self.packets):
            begins, ends = self.spans[place]
            is_end = place == len(self.packets) - 1
            if lost is None or not begins <= lost <= ends:
                told = position if is_end or self.spans[place + 1][1] != ends else -1
                hole = 1 if lost is not None and before < lost < begins else 0
                read.append((told, hole, 1 if is_end else 0, packet))
                before = ends
        return read

    def dropped(self, lost):
        """How many packets begin in a page that comes and go on in the lost one."""
        return len([1 for begins, ends in self.spans if begins < lost <= ends])


def lay_out(packets, flushed):
    """For each packet the numbers of its first and its last page, told anew from the document's words."""
    spans = []
    number = 0
    values = 0
    for place, (position, packet) in enumerate(packets):
        pages = []
        for value in range(len(packet) // 255 + 1):
            pages.append(number)
            values += 1
            if values == 16:
                number, values = number + 1, 0
        spans.append((pages[0], pages[-1]))
        if place in flushed and values:
            number, values = number + 1, 0
    return spans


# Three pages, short enough to be fed byte by byte within one line.
SHORT = Row([(10, [7]), (20, []), (30, [9])], (0, 1), (1, 2, 28, 9000))
# Packets that share pages, and one that goes over two.
MIDDLE = Row(
    [(k, some_bytes(k, seed=k)) for k in range(14)]
    + [(50, some_bytes(600)), (60, some_bytes(255)), (70, []), (80, some_bytes(254)), (90, [1, 2])],
    (16,),
    (61, 200, 9000),
)
# Packets that go over whole pages.
LONG = Row([(1, [5]), (2, some_bytes(8192)), (3, some_bytes(100))], (), (1500,))


def read_all(data, size=9000, stream=STREAM):
    """All packets read from data in pieces of that size, and the counts after close."""
    line = Line(reader(stream))
    packets = line.read(data, size)
    line.ask(close())
    packets += line.take_all()
    return packets, line.ask(counts())[1:]


class TravelTest(unittest.TestCase):
    def comes_to(self, row, pages, packets, counted):
        data = joined(pages)
        for size in row.sizes:
            # A line has at most 100 calls, and some of them take the packets.
            if len(data) <= 86 * size:
                self.assertEqual(read_all(data, size), (packets, counted))

    def each_page(self, change, is_lost):
        """Lets change give the pages as they come when it strikes one of them, and the first four counts."""
        for row in (SHORT, MIDDLE, LONG):
            for number in range(len(row.pages)):
                pages, counted = change(row.pages, number)
                packets = row.expected(number if is_lost else None)
                self.comes_to(row, pages, packets, counted + [row.dropped(number) if is_lost else 0])

    def test_the_rows_are_as_meant(self):
        self.assertEqual([len(whole) for whole in SHORT.pages], [29, 28, 29])
        self.assertEqual(MIDDLE.spans, [(0, 0)] * 14 + [(0, 1), (1, 1), (1, 1), (2, 2), (2, 2)])
        self.assertEqual(LONG.spans, [(0, 0), (0, 2), (2, 2)])

    def test_nothing_happens(self):
        for row in (SHORT, MIDDLE, LONG):
            self.comes_to(row, row.pages, row.expected(), [len(row.pages), 0, 0, 0, 0])
        for size in (300, 1000, 4123):
            self.assertEqual(read_all(joined(LONG.pages), size), (LONG.expected(), [3, 0, 0, 0, 0]))

    def test_packets_by_hand(self):
        self.assertEqual(read_all(joined(SHORT.pages))[0], [(10, 0, 0, [7]), (20, 0, 0, []), (30, 0, 1, [9])])
        given = read_all(joined(LONG.pages), 4123)[0]
        self.assertEqual(given, [(1, 0, 0, [5]), (-1, 0, 0, some_bytes(8192)), (3, 0, 1, some_bytes(100))])
        lost = read_all(joined([LONG.pages[0], LONG.pages[2]]), 4123)
        self.assertEqual(lost, ([(1, 0, 0, [5]), (3, 1, 1, some_bytes(100))], [2, 0, 0, 0, 1]))

    def test_a_page_lost(self):
        self.each_page(lambda pages, k: (pages[:k] + pages[k + 1 :], [len(pages) - 1, 0, 0, 0]), True)

    def test_a_page_damaged(self):
        for place in (15, 23):

            def damage(pages, k):
                damaged = pages[k][:place] + [pages[k][place] ^ 64] + pages[k][place + 1 :]
                return pages[:k] + [damaged] + pages[k + 1 :], [len(pages) - 1, 0, 0, len(damaged)]

            self.each_page(damage, True)

    def test_a_page_cut_short(self):
        # Its values and bytes are then sought in the pages behind it, which are found nonetheless.
        def cut(pages, k):
            return pages[:k] + [pages[k][:27]] + pages[k + 1 :], [len(pages) - 1, 0, 0, 27]

        self.each_page(cut, True)

    def test_a_page_repeated(self):
        self.each_page(lambda pages, k: (pages[: k + 1] + pages[k:], [len(pages), 0, 1, 0]), False)

    def test_pages_of_another_stream(self):
        other = make_page(7, [3], [1, 2, 3], flags=4, position=3, stream=STREAM + 256)
        for row in (MIDDLE, LONG):
            for k in range(len(row.pages) + 1):
                pages = row.pages[:k] + [other] + row.pages[k:]
                self.comes_to(row, pages, row.expected(), [len(row.pages), 1, 0, 0, 0])

    def test_other_bytes_between(self):
        held = MARK + [7] + [0] * 20
        false = [held + [17], held + [0], held + [1, 40], held + [3, 60, 255, 255], held]
        for junk in [[0], [79], MARK, MARK + [8], [79, 79, 103]] + false:
            for row in (MIDDLE, LONG) if junk in (MARK, false[3]) else (MIDDLE,):
                pages = [junk] + [whole + junk for whole in row.pages]
                self.comes_to(row, pages, row.expected(), [len(row.pages), 0, 0, len(junk) * len(pages), 0])

    def test_repeated_and_of_another_stream_byte_by_byte(self):
        first, second = SHORT.pages[:2]
        expected = [(10, 0, 0, [7]), (20, 0, 0, [])]
        self.assertEqual(read_all(first + first + second, 1), (expected, [2, 0, 1, 0, 0]))
        other = make_page(0, [1], [3], flags=4, stream=0)
        self.assertEqual(read_all(first + other + second, 1), (expected, [2, 1, 0, 0, 0]))

    def test_other_bytes_between_byte_by_byte(self):
        junk = [79, 103, 0]
        first, second = SHORT.pages[:2]
        given = read_all(junk + first + junk + second + junk, 1)
        self.assertEqual(given, ([(10, 0, 0, [7]), (20, 0, 0, [])], [2, 0, 0, 9, 0]))

    def test_all_pages_repeated_later(self):
        first, second, third = SHORT.pages
        for pages in ([first, second, third, first, second], [first, second, first, second, third]):
            for size in (9, 100, 9000):
                self.assertEqual(read_all(joined(pages), size), (SHORT.expected(), [3, 0, 2, 0, 0]))

    def test_pages_that_change_places(self):
        # The one that comes late is old by then.
        first, second, third = SHORT.pages
        self.comes_to(SHORT, [first, third, second], SHORT.expected(1), [2, 0, 1, 0, 0])
        self.comes_to(SHORT, [second, first, third], SHORT.expected(0), [2, 0, 1, 0, 0])

    def test_two_streams_mingled(self):
        others = written(STREAM + 1, [(k, [k] * k) for k in range(5)], range(5))
        pages = [whole for pair in zip(SHORT.pages, others) for whole in pair] + others[3:]
        self.assertEqual(read_all(joined(pages), 40), (SHORT.expected(), [3, 5, 0, 0, 0]))
        packets = [(k, 0, 1 if k == 4 else 0, [k] * k) for k in range(5)]
        self.assertEqual(read_all(joined(pages), 40, STREAM + 1), (packets, [5, 3, 0, 0, 0]))

    def test_several_things_at_once(self):
        pages = written(STREAM, [(k, [k]) for k in range(6)], range(6))
        damaged = pages[2][:-1] + [255]
        other = make_page(3, [0], [], stream=1)
        come = [pages[0], [1, 2], pages[0], other, damaged, pages[3], pages[1], pages[5], pages[4]]
        expected = [(0, 0, 0, [0]), (3, 1, 0, [3]), (5, 1, 1, [5])]
        for size in (5, 50, 9000):
            self.assertEqual(read_all(joined(come), size), (expected, [3, 1, 3, 2 + len(damaged), 0]))


class OneByteTest(unittest.TestCase):
    """One byte of the short row changed, lost or doubled, at each place."""

    def setUp(self):
        self.data = joined(SHORT.pages)

    def struck(self, place):
        return 0 if place < 29 else 1 if place < 57 else 2

    def is_lost(self, data, place, more):
        number = self.struck(place)
        expected = [2, 0, 0, len(SHORT.pages[number]) + more, 0]
        self.assertEqual(read_all(data), (SHORT.expected(number), expected))

    def test_changed(self):
        for place in range(len(self.data)):
            for change in (1, 128):
                data = self.data[:place] + [self.data[place] ^ change] + self.data[place + 1 :]
                self.is_lost(data, place, 0)

    def test_lost(self):
        for place in range(len(self.data)):
            self.is_lost(self.data[:place] + self.data[place + 1 :], place, -1)

    def test_doubled(self):
        for place in range(len(self.data)):
            data = self.data[: place + 1] + self.data[place:]
            # Where it is a page's very first or last byte the page is still whole.
            if place in (0, 28, 29, 56, 57, 85):
                self.assertEqual(read_all(data), (SHORT.expected(), [3, 0, 0, 1, 0]))
            else:
                self.is_lost(data, place, 1)


class CountsTest(unittest.TestCase):
    def test_of_a_new_reader(self):
        self.assertEqual(run(counts(), reader(9), counts()), [[0, 0, 0, 0, 0, 0], [0], [0, 0, 0, 0, 0, 0]])

    def test_a_new_reader_has_nothing_counted(self):
        begun = make_page(0, [255], [0] * 255, flags=2)
        data = [1, 2, 3] + begun + begun + make_page(0, [], [], stream=1) * 4 + make_page(2, [], [])
        given = run(feed(data), counts(), reader(-1), counts(), reader(0), counts())
        self.assertEqual(given[1], [0, 2, 4, 1, 3, 1])
        self.assertEqual(given[2:], [[-1], [0, 2, 4, 1, 3, 1], [0], [0, 0, 0, 0, 0, 0]])

    def test_what_is_not_taken_is_not_counted(self):
        whole = make_page(0, [0], [], flags=2, position=1)
        given = run(feed(whole + [1, 2, 3]), counts(), feed([1, 2, 3]), counts(), take(), feed([1, 2, 3]), counts())
        self.assertEqual([given[k] for k in (1, 3, 6)], [[0, 1, 0, 0, 0, 0], [0, 1, 0, 0, 0, 0], [0, 1, 0, 0, 3, 0]])

    def test_refused_bytes_are_not_counted(self):
        self.assertEqual(run(feed([1, 2, 256]), feed([1] * 9001), counts()), [[-1], [-1], [0, 0, 0, 0, 0, 0]])

    def test_asking_changes_nothing(self):
        given = run(feed([1, 79, 103]), counts(), counts(), feed([1]), counts())
        self.assertEqual([given[k] for k in (1, 2, 4)], [[0, 0, 0, 0, 1, 0], [0, 0, 0, 0, 1, 0], [0, 0, 0, 0, 4, 0]])


class Draws:
    """Numbers that are mixed up, and the same each time."""

    def __init__(self, seed):
        self.state = seed

    def below(self, top):
        self.state = (self.state * 6364136223846793005 + 1442695040888963407) % 2**64
        return (self.state >> 33) % top


class MixedTrafficTest(unittest.TestCase):
    """Pages lost, damaged, repeated, late, of another stream, with other bytes between, in many mixtures."""

    def traffic(self, draws):
        """Packets, the pages that come whole, and all bytes as they come."""
        lengths = [(0, 1, 2, 30, 254, 255, 300)[draws.below(7)] for k in range(7)]
        packets = [(k, [100 + k] * length) for k, length in enumerate(lengths)]
        pages = written(STREAM, packets, [k for k in range(7) if draws.below(3)])
        other = make_page(draws.below(9), [2], [1, 2], flags=draws.below(8), stream=STREAM + 1)
        whole = []
        data = []
        for number, sent in enumerate(pages):
            kind = draws.below(9)
            if kind == 1:
                place = 5 + draws.below(len(sent) - 5)
                data += sent[:place] + [sent[place] ^ (1 + draws.below(255))] + sent[place + 1 :]
            elif kind == 2:
                data += (MARK + [0] * 22 + [4, 90, 3])[: draws.below(40)]
            come = {0: [], 1: [], 3: [sent, sent], 4: [other, sent], 5: [sent, pages[draws.below(number + 1)]]}
            for page in come.get(kind, [sent]):
                whole.append(page)
                data += page
        return packets, whole, data

    def check_packets(self, packets, read):
        before = -1
        for position, hole, last, packet in read:
            # Empty packets can't be told apart: the first one that may be meant is.
            places = [k for k in range(before + 1, 7) if packets[k][1] == packet and position in (k, -1)]
            self.assertTrue(places, "what is read was not written, or not in this order")
            if places[0] != before + 1:
                self.assertEqual(hole, 1, "what may be missing is not said")
            self.assertEqual(last, 1 if places[0] == 6 and position != -1 else 0)
            before = places[0]

    def test_mixtures(self):
        for seed in range(40):
            packets, whole, data = self.traffic(Draws(seed))
            read, counted = read_all(data, 700)
            self.check_packets(packets, read)
            self.assertEqual(sum(counted[:3]), len(whole))
            self.assertEqual(counted[3], len(data) - len(joined(whole)))
            self.assertEqual(read_all(data, 60 + seed), (read, counted))


if __name__ == "__main__":
    unittest.main()
