"""Promise 7, and promise 6 where it speaks of close."""

import unittest

from tests.helper import Line, close, counts, feed, flush, make_page, page, put, reader, run, some_bytes, take, waits
from tests.helper import writer

DONE = [0]
HEAD = [79, 103, 103, 83, 0] + [0] * 21
# It asks for 255 bytes more, so what lies behind it waits till these are there, or till close.
FALSE = HEAD + [1, 255]


def packet_page(number, flags=0, packet=(1, 2, 3), stream=0):
    return make_page(number, [len(packet)], packet, flags=flags, position=number + 5, stream=stream)


def begun_page(number, flags=0):
    return make_page(number, [255, 255], some_bytes(510), flags=flags)


class CloseTest(unittest.TestCase):
    def test_of_a_new_reader(self):
        given = run(close(), counts(), waits(), take(), feed([1, 2]))
        self.assertEqual(given, [DONE, [0, 0, 0, 0, 0, 0], [-5], [-5], [0, 0]])

    def test_where_nothing_waits_to_be_judged(self):
        line = Line()
        self.assertEqual(line.read([1, 2] + packet_page(0, flags=2)), [(5, 0, 0, [1, 2, 3])])
        self.assertEqual(line.ask(close()), DONE)
        self.assertEqual(line.ask(counts()), [0, 1, 0, 0, 2, 0])
        self.assertEqual(line.ask(waits()), [-5])

    def test_where_a_pages_beginning_waits(self):
        whole = packet_page(0, flags=2)
        for count in range(1, len(whole)):
            given = run(feed(whole[:count]), counts(), close(), counts(), take())
            self.assertEqual(given[1:], [[0, 0, 0, 0, 0, 0], DONE, [0, 0, 0, 0, count, 0], [-5]])

    def test_where_a_whole_page_lies_within_what_waits(self):
        own = packet_page(0, flags=2)
        for behind in ([], [7], [79], HEAD[:20], FALSE):
            given = run(feed(FALSE + own + behind), counts(), waits(), close(), counts(), waits(), take(), take())
            self.assertEqual(given[0], [0, len(FALSE + own + behind)])
            self.assertEqual(given[1:4], [[0, 0, 0, 0, 0, 0], [-5], DONE])
            self.assertEqual(given[4], [0, 1, 0, 0, len(FALSE + behind), 0])
            self.assertEqual(given[5:], [[0, 3], [0, 5, 0, 0, 1, 2, 3], [-5]])

    def test_where_several_pages_lie_within_what_waits(self):
        first, second = packet_page(0, flags=2), packet_page(1, packet=[9])
        other, old = packet_page(0, stream=1), packet_page(0, packet=[4])
        line = Line(feed(FALSE + first + [3] + other + FALSE + second + old), close())
        self.assertEqual(line.ask(counts()), [0, 2, 1, 1, 2 * len(FALSE) + 1, 0])
        self.assertEqual(line.take_all(), [(5, 0, 0, [1, 2, 3]), (6, 0, 0, [9])])

    def test_a_page_within_a_page_that_waits(self):
        inner = packet_page(0, flags=2)
        outer = make_page(0, [len(inner) + 1], inner + [1], flags=2)
        line = Line(feed(outer[:-1]), close())
        self.assertEqual(line.ask(counts()), [0, 1, 0, 0, len(outer) - 1 - len(inner), 0])
        self.assertEqual(line.take_all(), [(5, 0, 0, [1, 2, 3])])

    def test_false_beginnings_one_in_another(self):
        data = (HEAD + [16] + [255] * 13) * 90
        line = Line(feed(data), close())
        self.assertEqual(line.given, [[0, len(data)], DONE])
        self.assertEqual(line.ask(counts()), [0, 0, 0, 0, len(data), 0])

    def test_with_a_packet_begun(self):
        given = run(feed(begun_page(0, flags=2)), counts(), close(), counts(), waits())
        self.assertEqual(given[1:], [[0, 1, 0, 0, 0, 0], DONE, [0, 1, 0, 0, 0, 1], [-5]])

    def test_a_packet_begun_is_dropped_after_what_follows_is_judged(self):
        end = make_page(1, [2], [7, 8], flags=1, position=5)
        line = Line(feed(begun_page(0, flags=2) + FALSE + end), close())
        self.assertEqual(line.ask(counts()), [0, 2, 0, 0, len(FALSE), 0])
        self.assertEqual(line.take_all(), [(5, 0, 0, some_bytes(510) + [7, 8])])

    def test_a_packet_begun_in_what_waited_is_dropped(self):
        false = HEAD + [4, 255, 255, 255, 255]
        given = run(feed(false + begun_page(0, flags=2)), counts(), close(), counts(), waits())
        self.assertEqual(given[1:], [[0, 0, 0, 0, 0, 0], DONE, [0, 1, 0, 0, len(false), 1], [-5]])

    def test_a_packet_begun_that_is_too_long_counts_once(self):
        pages = [make_page(k, [255] * 16, [0] * 4080, flags=1 if k else 2) for k in range(3)]
        given = run(*[feed(whole) for whole in pages], close(), counts(), close(), counts())
        self.assertEqual(given[4], [0, 3, 0, 0, 0, 1])
        self.assertEqual(given[6], [0, 3, 0, 0, 0, 1])

    def test_a_packet_that_waits_goes_on_waiting(self):
        whole = make_page(0, [1, 1, 255], [8, 9] + [0] * 255, flags=2, position=5)
        given = run(feed(whole), close(), waits(), counts(), take(), take(), take())
        self.assertEqual(given[1:4], [DONE, [0, 1], [0, 1, 0, 0, 0, 1]])
        self.assertEqual(given[4:], [[0, -1, 0, 0, 8], [0, 5, 0, 0, 9], [-5]])

    def test_a_second_time(self):
        line = Line(feed(begun_page(0, flags=2) + FALSE + [79]), close(), counts())
        self.assertEqual(line.given[2], [0, 1, 0, 0, len(FALSE) + 1, 1])
        self.assertEqual(line.ask(close()), DONE)
        self.assertEqual(line.ask(counts()), line.given[2])
        self.assertEqual(line.ask(feed(packet_page(1))), [0, 0])

    def test_a_second_time_with_a_packet_that_waits(self):
        given = run(feed(packet_page(0, flags=2)), close(), close(), take(), close(), take())
        self.assertEqual(given[2:], [DONE, [0, 5, 0, 0, 1, 2, 3], DONE, [-5]])


class AfterCloseTest(unittest.TestCase):
    def test_feed_takes_nothing(self):
        own = packet_page(0, flags=2)
        given = run(close(), feed(own), feed([]), feed([0] * 9000), waits(), counts())
        self.assertEqual(given[1:], [[0, 0], [0, 0], [0, 0], [-5], [0, 0, 0, 0, 0, 0]])

    def test_feed_takes_nothing_when_the_packets_are_taken(self):
        own = packet_page(0, flags=2)
        given = run(feed(own), close(), feed(own), take(), feed(packet_page(1)), take(), counts())
        self.assertEqual(given[2:], [[0, 0], [0, 5, 0, 0, 1, 2, 3], [0, 0], [-5], [0, 1, 0, 0, 0, 0]])

    def test_wrong_bytes_are_refused(self):
        for row in ([256], [-1], [0] * 9001):
            self.assertEqual(run(close(), feed(row), feed([1])), [DONE, [-1], [0, 0]])

    def test_a_refused_reader_stays_closed(self):
        self.assertEqual(run(close(), reader(-1), reader(2**32), feed([1])), [DONE, [-1], [-1], [0, 0]])

    def test_a_new_reader(self):
        own = packet_page(0, flags=2, stream=4)
        line = Line(feed(begun_page(0, flags=2) + FALSE), close(), reader(4), counts())
        self.assertEqual(line.given[3], [0, 0, 0, 0, 0, 0])
        self.assertEqual(line.read(own + [1]), [(5, 0, 0, [1, 2, 3])])
        self.assertEqual(line.ask(counts()), [0, 1, 0, 0, 1, 0])

    def test_a_new_reader_has_no_packet_waiting(self):
        given = run(feed(packet_page(0)), close(), reader(0), waits(), take(), feed(packet_page(7)), take())
        self.assertEqual(given[3:5], [[-5], [-5]])
        self.assertEqual(given[6], [0, 12, 1, 0, 1, 2, 3])

    def test_the_writer_goes_on(self):
        given = run(put(1, 0, [4]), close(), put(2, 0, [5]), flush(), page(), writer(3), feed([1]))
        self.assertEqual(given[4], [0] + make_page(0, [1, 1], [4, 5], flags=2, position=2))
        # A new writer is no new reader.
        self.assertEqual(given[6], [0, 0])


if __name__ == "__main__":
    unittest.main()
