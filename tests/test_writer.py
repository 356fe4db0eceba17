"""Promises 1 to 4: writer, put, flush and page."""

import unittest

from tests.helper import ALL_BITS_SET, flush, make_page, page, put, run, some_bytes, writer

DONE = [0]


class WriterTest(unittest.TestCase):
    def test_edges_of_the_stream(self):
        for stream in (0, 1, 256, 4294967295):
            given = run(writer(stream), put(5, 0, [1]), flush(), page())
            self.assertEqual(given[0], DONE)
            self.assertEqual(given[3], [0] + make_page(0, [1], [1], flags=2, position=5, stream=stream))

    def test_wrong_streams(self):
        for stream in (-1, 4294967296, -(2**63), 2**64 - 1):
            self.assertEqual(run(writer(stream)), [[-1]])

    def test_refused_writer_leaves_the_one_there_is(self):
        given = run(writer(9), put(1, 0, [4]), writer(-1), put(2, 0, [5]), flush(), writer(2**32), page(), page())
        self.assertEqual(given[2], [-1])
        self.assertEqual(given[5], [-1])
        self.assertEqual(given[6], [0] + make_page(0, [1, 1], [4, 5], flags=2, position=2, stream=9))
        self.assertEqual(given[7], [-5])

    def test_stream_0_at_the_beginning(self):
        given = run(put(0, 0, [8]), flush(), page())
        self.assertEqual(given[2], [0] + make_page(0, [1], [8], flags=2, position=0, stream=0))

    def test_a_new_writer_has_no_page_made_begun_or_waiting(self):
        begun = run(put(0, 0, [1]), writer(3), flush(), page())
        self.assertEqual(begun, [DONE, DONE, DONE, [-5]])
        waiting = run(put(0, 0, [1]), flush(), writer(3), page())
        self.assertEqual(waiting, [DONE, DONE, DONE, [-5]])
        made = run(put(0, 0, [1]), flush(), page(), writer(3), put(7, 0, [2]), flush(), page())
        self.assertEqual(made[6], [0] + make_page(0, [1], [2], flags=2, position=7, stream=3))

    def test_a_new_writer_begins_outside_a_packet(self):
        given = run(put(0, 0, some_bytes(4080)), writer(3), put(7, 0, [2]), flush(), page())
        self.assertEqual(given[4], [0] + make_page(0, [1], [2], flags=2, position=7, stream=3))

    def test_a_new_writer_takes_packets_after_the_last(self):
        given = run(put(0, 1, [1]), put(0, 0, [1]), writer(0), put(0, 0, [1]))
        self.assertEqual(given, [DONE, [-3], DONE, DONE])


class PutTest(unittest.TestCase):
    def first_page(self, packet, position=6):
        return run(put(position, 0, packet), flush(), page())[2]

    def test_a_page_number_by_number(self):
        given = run(writer(0x01020304), put(0x1122, 0, [65, 66, 67]), put(0x3344, 0, []), flush(), page())
        head = [79, 103, 103, 83, 0, 2, 0x44, 0x33, 0, 0, 0, 0, 0, 0, 4, 3, 2, 1, 0, 0, 0, 0]
        self.assertEqual(given[4], [0] + head + [73, 177, 155, 185] + [2, 3, 0, 65, 66, 67])

    def test_lacing(self):
        lacings = {
            0: [0],
            1: [1],
            254: [254],
            255: [255, 0],
            256: [255, 1],
            509: [255, 254],
            510: [255, 255, 0],
            511: [255, 255, 1],
        }
        for length, lacing in lacings.items():
            packet = some_bytes(length)
            self.assertEqual(self.first_page(packet), [0] + make_page(0, lacing, packet, flags=2, position=6))

    def test_packets_share_a_page_with_the_last_ones_position(self):
        given = run(put(9, 0, [1, 2]), put(4, 0, []), put(5, 0, some_bytes(255)), flush(), page())
        expected = make_page(0, [2, 0, 255, 0], [1, 2] + some_bytes(255), flags=2, position=5)
        self.assertEqual(given[4], [0] + expected)

    def test_positions(self):
        for position in (0, 1, 255, 256, 2**32, 9223372036854775807):
            self.assertEqual(self.first_page([3], position), [0] + make_page(0, [1], [3], flags=2, position=position))

    def test_fifteen_values_do_not_finish_a_page_and_sixteen_do(self):
        calls = [put(k, 0, [k]) for k in range(15)]
        self.assertEqual(run(*calls, page())[15], [-5])
        given = run(*calls, put(15, 0, [15]), page(), page(), flush(), page())
        self.assertEqual(given[16], [0] + make_page(0, [1] * 16, range(16), flags=2, position=15))
        self.assertEqual(given[17:], [[-5], DONE, [-5]])

    def test_the_page_after_sixteen_ended_packets_begins_outside_a_packet(self):
        calls = [put(k, 0, [k]) for k in range(16)]
        given = run(*calls, page(), put(99, 0, [7]), flush(), page())
        self.assertEqual(given[19], [0] + make_page(1, [1], [7], flags=0, position=99))

    def test_a_page_in_which_no_packet_ends(self):
        packet = some_bytes(4080)
        given = run(put(77, 0, packet), page(), page(), flush(), page())
        self.assertEqual(given[1], [0] + make_page(0, [255] * 16, packet, flags=2, position=ALL_BITS_SET))
        self.assertEqual(given[2], [-5])
        self.assertEqual(given[4], [0] + make_page(1, [0], [], flags=1, position=77))

    def test_a_packet_goes_on_in_the_next_page(self):
        packet = some_bytes(600)
        calls = [put(k, 0, []) for k in range(14)]
        given = run(*calls, put(50, 0, packet), page(), put(51, 0, [9]), flush(), page())
        first = make_page(0, [0] * 14 + [255, 255], packet[:510], flags=2, position=13)
        second = make_page(1, [90, 1], packet[510:] + [9], flags=1, position=51)
        self.assertEqual(given[15], [0] + first)
        self.assertEqual(given[18], [0] + second)

    def test_the_longest_packet(self):
        packet = some_bytes(8192)
        given = run(put(3, 0, packet), page(), page(), page(), flush(), page())
        self.assertEqual(given[0], DONE)
        self.assertEqual(given[1], [0] + make_page(0, [255] * 16, packet[:4080], flags=2))
        self.assertEqual(given[2], [0] + make_page(1, [255] * 16, packet[4080:8160], flags=1))
        self.assertEqual(given[3], [-5])
        self.assertEqual(given[5], [0] + make_page(2, [32], packet[8160:], flags=1, position=3))

    def test_three_pages_from_one_packet(self):
        calls = [put(k, 0, []) for k in range(15)]
        packet = some_bytes(8192)
        given = run(*calls, put(40, 0, packet), page(), page(), page(), page())
        self.assertEqual(given[16], [0] + make_page(0, [0] * 15 + [255], packet[:255], flags=2, position=14))
        self.assertEqual(given[17], [0] + make_page(1, [255] * 16, packet[255:4335], flags=1))
        self.assertEqual(given[18], [0] + make_page(2, [255] * 15 + [32], packet[4335:], flags=1, position=40))
        self.assertEqual(given[19], [-5])


class LastPacketTest(unittest.TestCase):
    def test_the_page_is_done_with_the_last_packet(self):
        given = run(put(1, 0, [1]), put(2, 1, [2]), page(), page())
        self.assertEqual(given[2], [0] + make_page(0, [1, 1], [1, 2], flags=6, position=2))
        self.assertEqual(given[3], [-5])

    def test_an_empty_last_packet(self):
        given = run(put(2, 1, []), page(), page())
        self.assertEqual(given[1:], [[0] + make_page(0, [0], [], flags=6, position=2), [-5]])

    def test_a_page_just_done_for_its_sixteen_values_is_the_last(self):
        calls = [put(k, 0, []) for k in range(15)]
        given = run(*calls, put(20, 1, [5]), page(), page())
        self.assertEqual(given[16], [0] + make_page(0, [0] * 15 + [1], [5], flags=6, position=20))
        self.assertEqual(given[17], [-5])

    def test_a_last_packet_over_two_pages(self):
        packet = some_bytes(4080)
        given = run(put(8, 1, packet), page(), page(), page())
        self.assertEqual(given[1], [0] + make_page(0, [255] * 16, packet, flags=2))
        self.assertEqual(given[2], [0] + make_page(1, [0], [], flags=5, position=8))
        self.assertEqual(given[3], [-5])

    def test_nothing_is_begun_behind_the_last(self):
        self.assertEqual(run(put(8, 1, [1]), page(), flush(), page())[2:], [DONE, [-5]])


class PutRefusalTest(unittest.TestCase):
    def test_wrong_arguments(self):
        wrong = [
            put(-1, 0, [1]),
            put(2**63, 0, [1]),
            put(-(2**63), 0, [1]),
            put(2**64 - 1, 0, [1]),
            put(0, -1, [1]),
            put(0, 2, [1]),
            put(0, 2**64 - 1, [1]),
            put(0, 0, [1, -1]),
            put(0, 0, [256, 1]),
            put(0, 0, [1, 2**64 - 1, 1]),
            put(0, 0, [-(2**63)]),
            put(0, 0, [0] * 9001),
        ]
        for call in wrong:
            given = run(put(4, 0, [7]), call, put(5, 0, [8]), flush(), page())
            self.assertEqual(given[1], [-1])
            self.assertEqual(given[4], [0] + make_page(0, [1, 1], [7, 8], flags=2, position=5))

    def test_wrong_arguments_behind_the_end_of_what_may_come(self):
        self.assertEqual(run(put(0, 0, [0] * 15900)), [[-1]])

    def test_too_long(self):
        for length in (8193, 9000):
            given = run(put(4, 0, [7]), put(1, 1, [0] * length), put(5, 0, [8]), flush(), page())
            self.assertEqual(given[1], [-2])
            self.assertEqual(given[2], DONE)
            self.assertEqual(given[4], [0] + make_page(0, [1, 1], [7, 8], flags=2, position=5))

    def test_pages_wait(self):
        given = run(put(4, 0, [7]), flush(), put(1, 1, [1]), page(), page(), put(5, 0, [8]), flush(), page())
        self.assertEqual(given[2], [-4])
        self.assertEqual(given[3], [0] + make_page(0, [1], [7], flags=2, position=4))
        self.assertEqual(given[4:6], [[-5], DONE])
        self.assertEqual(given[7], [0] + make_page(1, [1], [8], position=5))

    def test_still_some_pages_wait(self):
        given = run(put(4, 0, some_bytes(8192)), page(), put(1, 0, [1]), page(), put(1, 0, [1]))
        self.assertEqual([given[k][0] for k in range(5)], [0, 0, -4, 0, 0])

    def test_the_last_has_come(self):
        given = run(put(4, 1, [7]), put(5, 0, [8]), page(), put(5, 0, [8]), put(5, 1, [8]), flush(), page())
        self.assertEqual(given[1], [-3])
        self.assertEqual(given[2], [0] + make_page(0, [1], [7], flags=6, position=4))
        self.assertEqual(given[3:], [[-3], [-3], DONE, [-5]])

    def test_a_refused_last_packet_is_not_the_last(self):
        given = run(put(-1, 1, [7]), put(0, 1, [0] * 8193), put(5, 0, [8]))
        self.assertEqual(given, [[-1], [-2], DONE])

    def test_the_order_of_refusals(self):
        ended = [put(4, 1, [7])]
        self.assertEqual(run(*ended, put(0, 2, [0] * 8193))[1], [-1])
        self.assertEqual(run(*ended, put(0, 0, [0] * 9001))[1], [-1])
        self.assertEqual(run(*ended, put(0, 0, [0] * 8193))[1], [-3])
        self.assertEqual(run(*ended, put(0, 0, [0]))[1], [-3])
        waiting = [put(4, 0, [7]), flush()]
        self.assertEqual(run(*waiting, put(0, 0, [256]))[2], [-1])
        self.assertEqual(run(*waiting, put(0, 0, [0] * 8193))[2], [-2])
        self.assertEqual(run(*waiting, put(0, 0, [0] * 8192))[2], [-4])


class FlushTest(unittest.TestCase):
    def test_without_values_nothing_waits(self):
        self.assertEqual(run(flush(), page(), flush()), [DONE, [-5], DONE])

    def test_pages_wait(self):
        given = run(put(4, 0, [7]), flush(), flush(), page(), flush(), page())
        self.assertEqual(given[2], [-4])
        self.assertEqual(given[3], [0] + make_page(0, [1], [7], flags=2, position=4))
        self.assertEqual(given[4:], [DONE, [-5]])

    def test_a_refused_flush_leaves_the_page_begun(self):
        packet = some_bytes(4081)
        given = run(put(4, 0, packet), flush(), page(), put(5, 0, [3]), flush(), page())
        self.assertEqual(given[1], [-4])
        self.assertEqual(given[5], [0] + make_page(1, [1, 1], packet[4080:] + [3], flags=1, position=5))

    def test_page_numbers_count_up(self):
        calls = []
        for number in range(30):
            calls += [put(number, 0, [number]), flush(), page()]
        given = run(*calls)
        for number in range(30):
            expected = make_page(number, [1], [number], flags=2 if number == 0 else 0, position=number)
            self.assertEqual(given[3 * number + 2], [0] + expected)


class PageTest(unittest.TestCase):
    def test_none_waits(self):
        self.assertEqual(run(page(), put(0, 0, [1]), page()), [[-5], DONE, [-5]])

    def test_first_made_first_taken_and_each_once(self):
        packet = some_bytes(8192)
        given = run(put(3, 1, packet), page(), page(), page(), page())
        self.assertEqual([given[k][19] for k in range(1, 4)], [0, 1, 2])
        self.assertEqual([given[k][6] for k in range(1, 4)], [2, 1, 5])
        self.assertEqual(given[4], [-5])


if __name__ == "__main__":
    unittest.main()
