"""Promises 5 and 6: reader and feed, through the calls."""

import unittest

from tests.helper import feed, flush, make_page, page, put, reader, run, some_bytes, writer

DONE = [0]


def took(*data, stream=0):
    """How many bytes each feed took, on one reader of the stream."""
    given = run(reader(stream), *[feed(piece) for piece in data])
    assert all(answer[0] == 0 and len(answer) == 2 for answer in given[1:])
    return [answer[1] for answer in given[1:]]


def packet_page(number, flags=0, stream=0, packet=(1, 2, 3)):
    return make_page(number, [len(packet)], packet, flags=flags, position=5, stream=stream)


def begun_page(number, flags=0):
    """A page in which a packet begins (or goes on) and does not end."""
    return make_page(number, [255] * 2, some_bytes(510), flags=flags)


def ending_page(number, flags=1):
    """A page that only ends a packet begun before it."""
    return make_page(number, [4], [1, 2, 3, 4], flags=flags, position=5)


class ReaderTest(unittest.TestCase):
    def test_edges_of_the_stream(self):
        for stream in (0, 1, 4294967295):
            own = packet_page(0, flags=2, stream=stream)
            self.assertEqual(run(reader(stream), feed(own + [1])), [DONE, [0, len(own)]])

    def test_wrong_streams(self):
        for stream in (-1, 4294967296, -(2**63), 2**64 - 1):
            self.assertEqual(run(reader(stream)), [[-1]])

    def test_stream_0_at_the_beginning(self):
        own = packet_page(0, flags=2)
        other = packet_page(0, flags=2, stream=1)
        self.assertEqual(run(feed(other + own + other)), [[0, len(other + own)]])

    def test_refused_reader_leaves_the_one_there_is(self):
        own = packet_page(0, flags=2, stream=6)
        given = run(reader(6), feed(own[:20]), reader(-1), feed(own[20:] + own), reader(2**32), feed(own))
        self.assertEqual(given, [DONE, [0, 20], [-1], [0, len(own) - 20], [-1], [0, 0]])

    def test_a_new_reader_has_nothing_fed(self):
        own = packet_page(0, flags=2)
        given = run(feed(own[:20]), reader(0), feed(own[20:]), feed(own + [1]))
        self.assertEqual(given, [[0, 20], DONE, [0, len(own) - 20], [0, len(own)]])

    def test_a_new_reader_has_no_packet_waiting(self):
        own = packet_page(0, flags=2)
        given = run(feed(own), feed(own), reader(0), feed(own + [1]))
        self.assertEqual(given, [[0, len(own)], [0, 0], DONE, [0, len(own)]])

    def test_a_new_reader_knows_no_number_no_end_and_no_packet_begun(self):
        given = run(feed(begun_page(5, flags=4)), reader(0), feed(packet_page(2) + [1]))
        self.assertEqual(given[2], [0, len(packet_page(2))])
        given = run(feed(begun_page(5)), reader(0), feed(ending_page(6) + [1]))
        self.assertEqual(given[2], [0, len(ending_page(6)) + 1])

    def test_reader_leaves_the_writer_and_writer_the_reader(self):
        own = packet_page(0, flags=2)
        given = run(put(1, 0, [5]), reader(4), flush(), page())
        self.assertEqual(given[3], [0] + make_page(0, [1], [5], flags=2, position=1))
        self.assertEqual(run(feed(own), writer(4), feed(own)), [[0, len(own)], DONE, [0, 0]])


class FeedRefusalTest(unittest.TestCase):
    def test_numbers_that_are_no_bytes(self):
        own = packet_page(0, flags=2)
        for wrong in ([-1], [256], [0, 1, 2**64 - 1], [-(2**63), 0], own[:-1] + [256], own + [-1]):
            given = run(feed(own[:30]), feed(wrong), feed(own[30:] + [1]))
            self.assertEqual(given, [[0, 30], [-1], [0, len(own) - 30]])

    def test_most_bytes(self):
        self.assertEqual(run(feed([0] * 9000)), [[0, 9000]])
        for count in (9001, 15900):
            self.assertEqual(run(feed([0] * count)), [[-1]])

    def test_wrong_bytes_are_refused_while_a_packet_waits(self):
        own = packet_page(0, flags=2)
        self.assertEqual(run(feed(own), feed([256]), feed([255])), [[0, len(own)], [-1], [0, 0]])

    def test_no_bytes(self):
        self.assertEqual(run(feed([])), [[0, 0]])


class FindingPagesTest(unittest.TestCase):
    def setUp(self):
        self.own = packet_page(0, flags=2)

    def test_stops_as_soon_as_a_packet_waits(self):
        self.assertEqual(took(self.own + self.own), [len(self.own)])
        self.assertEqual(took(self.own, self.own, [1], []), [len(self.own), 0, 0, 0])

    def test_an_empty_packet_waits_too(self):
        empty = packet_page(0, flags=2, packet=())
        self.assertEqual(took(empty + [1]), [len(empty)])

    def test_several_packets_in_a_page(self):
        several = make_page(0, [1, 0, 2], [1, 2, 3], flags=2, position=5)
        self.assertEqual(took(several + several), [len(several)])

    def test_a_page_without_values_gives_nothing(self):
        bare = make_page(0, [], [], flags=2)
        self.assertEqual(took(bare + packet_page(1) + bare), [len(bare + packet_page(1))])

    def test_every_cut_in_two(self):
        for cut in range(len(self.own) + 1):
            self.assertEqual(took(self.own[:cut], self.own[cut:] + [1]), [cut, len(self.own) - cut])

    def test_byte_by_byte(self):
        pieces = [[value] for value in self.own + [79, 103]]
        self.assertEqual(took(*pieces), [1] * len(self.own) + [0, 0])

    def test_other_bytes_between(self):
        for junk in ([0], [79], [79, 103, 103, 83], [79, 103, 103, 83, 0, 8], [79, 79, 79, 103, 103], [255] * 300):
            data = junk + self.own
            self.assertEqual(took(data + [1]), [len(data)])
            data = begun_page(0, flags=2) + junk + ending_page(1)
            self.assertEqual(took(data + [1]), [len(data)])

    def test_flags(self):
        for flags in (0, 2, 4, 6):
            self.assertEqual(took(packet_page(0, flags=flags) + [1]), [len(self.own)])
        # Flag 1 alone passes the first piece over: the second is the packet.
        for flags in (1, 3, 5, 7):
            own = make_page(0, [1, 1], [5, 6], flags=flags, position=5)
            self.assertEqual(took(own + [1]), [len(own)])
        for flags in (8, 9, 16, 128, 255):
            self.assertEqual(took(packet_page(0, flags=flags) + [1]), [len(self.own) + 1])

    def test_counts_of_values(self):
        for count in (1, 2, 15, 16):
            own = make_page(0, [1] * count, some_bytes(count), flags=2, position=5)
            self.assertEqual(took(own + [1]), [len(own)])
        for count in (17, 255):
            wrong = make_page(0, [1] * count, some_bytes(count), flags=2, position=5)
            self.assertEqual(took(wrong + [1]), [len(wrong) + 1])

    def test_no_page_is_said_as_soon_as_it_can_be(self):
        mark = [79, 103, 103, 83, 0]
        # Each start is refused at its end, so the page right behind it is found at its own last byte.
        for start in (mark + [8], mark + [0] * 21 + [17], mark[:4] + [1], mark[:3], mark[:1]):
            self.assertEqual(took(start + self.own + [1]), [len(start + self.own)])

    def test_a_false_beginning_holds_back_what_lies_in_it(self):
        head = [79, 103, 103, 83, 0] + [0] * 21
        false = head + [1, 255]
        data = false + self.own + [0] * 300
        self.assertEqual(took(data), [27 + 1 + 255])
        false = head + [2, 100, 7]
        self.assertEqual(took(false + self.own + [0] * 300), [27 + 2 + 107])
        # The values are not there yet: they are the page's own first bytes.
        false = head + [16]
        length = 27 + 16 + sum(self.own[:16])
        self.assertEqual(took(false + self.own + [0] * 1000), [length])

    def test_a_false_beginning_that_ends_within_a_page(self):
        head = [79, 103, 103, 83, 0] + [0] * 21
        false = head + [1, 10]
        self.assertEqual(took(false + self.own + [1]), [len(false + self.own)])

    def test_any_one_byte_damaged(self):
        for place in range(len(self.own)):
            damaged = list(self.own)
            damaged[place] ^= 1
            # What a damaged count or value still asks for is filled up before the sum can be judged.
            follow = [0] * 1000 + self.own
            self.assertEqual(took(damaged + follow + [1]), [len(damaged + follow)])

    def test_a_wrong_sum(self):
        for change in (1, 128, 255):
            for place in range(22, 26):
                damaged = list(self.own)
                damaged[place] ^= change
                self.assertEqual(took(damaged + self.own + [1]), [len(damaged + self.own)])

    def test_the_first_byte_alone_is_passed_over(self):
        whole = packet_page(0, flags=2)
        outer = make_page(0, [len(whole)], whole, flags=2)
        outer[22] ^= 1
        self.assertEqual(took(outer + [1]), [len(outer)])

    def test_a_page_within_a_taken_page_is_no_page(self):
        whole = packet_page(0, flags=2)
        outer = make_page(0, [len(whole)], whole, flags=2, stream=1)
        self.assertEqual(took(outer + [1]), [len(outer) + 1])

    def test_the_longest_page(self):
        long = make_page(0, [255] * 15 + [254], some_bytes(4079), flags=2, position=5)
        self.assertEqual(took(long + [1]), [len(long)])
        self.assertEqual(took(long[:1000], long[1000:] + [1]), [1000, len(long) - 1000])


class FollowingTest(unittest.TestCase):
    def taken_whole(self, *pages):
        """That the feed stops just behind these pages."""
        data = [value for whole in pages for value in whole]
        self.assertEqual(took(data + [1]), [len(data)])
        self.assertEqual(took(*pages), [len(whole) for whole in pages])

    def nothing_waits(self, *pages):
        """That the feed goes on behind these pages: no packet of theirs waits."""
        data = [value for whole in pages for value in whole]
        self.assertEqual(took(data + [1]), [len(data) + 1])

    def test_a_packet_over_pages(self):
        self.taken_whole(begun_page(0, flags=2), begun_page(1, flags=1), ending_page(2))

    def test_a_lost_page(self):
        self.nothing_waits(begun_page(0, flags=2), ending_page(2))
        self.nothing_waits(begun_page(0, flags=2), begun_page(2, flags=1), ending_page(3))
        self.taken_whole(begun_page(0, flags=2), ending_page(2), packet_page(3))
        self.taken_whole(begun_page(0, flags=2), packet_page(2))

    def test_a_damaged_page_is_a_lost_one(self):
        damaged = begun_page(1, flags=1)
        damaged[200] ^= 4
        self.nothing_waits(begun_page(0, flags=2), damaged, ending_page(2))

    def test_a_packet_begun_is_dropped_by_a_page_outside_a_packet(self):
        self.taken_whole(begun_page(0, flags=2), packet_page(1))
        self.nothing_waits(begun_page(0, flags=2), make_page(1, [], []), ending_page(2))

    def test_a_page_without_values_in_a_packets_midst_leaves_it_begun(self):
        self.taken_whole(begun_page(0, flags=2), make_page(1, [], [], flags=1), ending_page(2))

    def test_a_first_piece_without_a_packet_begun(self):
        self.nothing_waits(ending_page(0, flags=3))
        self.nothing_waits(begun_page(7, flags=1), ending_page(8))
        self.taken_whole(make_page(7, [4, 0], [1, 2, 3, 4], flags=1, position=5))
        self.taken_whole(make_page(7, [4, 255], [0] * 259, flags=1, position=5), ending_page(8))

    def test_the_first_page_may_have_any_number(self):
        for number in (0, 1, 77, 2**31, 2**32 - 1):
            self.taken_whole(packet_page(number))

    def test_numbers_go_on_modulo(self):
        self.taken_whole(begun_page(2**32 - 1), ending_page(0))
        self.taken_whole(begun_page(2**31 - 1), ending_page(2**31))

    def test_old_pages(self):
        for first, number in ((0, 0), (5, 5), (5, 4), (5, 0), (0, 2**31), (0, 2**32 - 1), (2**31, 0), (3, 2**31 + 3)):
            self.nothing_waits(begun_page(first), packet_page(number))
            self.taken_whole(begun_page(first), packet_page(number), ending_page((first + 1) % 2**32))

    def test_pages_just_not_old(self):
        for first, number in ((0, 2**31 - 1), (2**31, 2**32 - 1), (2**31 + 1, 0), (2**32 - 1, 1)):
            self.taken_whole(begun_page(first), packet_page(number))

    def test_an_old_page_is_not_the_last_one(self):
        self.taken_whole(begun_page(5), packet_page(3), packet_page(4), ending_page(6))

    def test_pages_of_other_streams(self):
        other = packet_page(1, stream=1)
        self.nothing_waits(packet_page(0, flags=6, stream=2**32 - 1), other)
        self.taken_whole(begun_page(0, flags=2), other, packet_page(1, flags=4, stream=256), ending_page(1))

    def test_pages_after_the_last(self):
        self.nothing_waits(begun_page(0, flags=6), ending_page(1), packet_page(2), packet_page(9, flags=2))
        self.taken_whole(begun_page(0, flags=2), ending_page(1, flags=5))

    def test_the_longest_packet(self):
        for length, waits in ((8192, True), (8193, False)):
            body = some_bytes(length)
            first = make_page(0, [255] * 16, body[:4080], flags=2)
            second = make_page(1, [255] * 16, body[4080:8160], flags=1)
            third = make_page(2, [length - 8160], body[8160:], flags=1, position=5)
            expected = [len(first), len(second + third) + (0 if waits else 1)]
            self.assertEqual(took(first, second + third + [1]), expected)

    def test_a_packet_behind_one_that_is_too_long(self):
        first = make_page(0, [255] * 16, [0] * 4080, flags=2)
        second = make_page(1, [255] * 16, [0] * 4080, flags=1)
        third = make_page(2, [33, 0], [0] * 33, flags=1, position=5)
        self.assertEqual(took(first, second + third + [1]), [len(first), len(second + third)])


class RoundTripTest(unittest.TestCase):
    def test_what_is_written_is_read(self):
        for length in (0, 1, 254, 255, 256, 510, 4079, 4080, 4081, 8192):
            written = run(writer(12), put(9, 1, some_bytes(length)), page(), page(), page())
            pages = [answer[1:] for answer in written[2:] if answer[0] == 0]
            sizes = [len(whole) for whole in pages]
            self.assertEqual(took(*pages, [1], stream=12), sizes + [0])
            self.assertEqual(took(*pages[:-1], pages[-1][:-1], stream=12), sizes[:-1] + [sizes[-1] - 1])


if __name__ == "__main__":
    unittest.main()
