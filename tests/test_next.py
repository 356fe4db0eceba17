"""Promises 8 and 9: waits and next."""

import unittest

from tests.helper import Line, counts, feed, joined, make_page, put, reader, run, some_bytes, take, waits, written

TOP_POSITION = 9223372036854775807


def packet_page(number, flags=0, packet=(1, 2, 3), position=5):
    return make_page(number, [len(packet)], packet, flags=flags, position=position)


class WaitsTest(unittest.TestCase):
    def test_none_waits(self):
        whole = packet_page(0, flags=2)
        given = run(waits(), feed(whole[:-1]), waits(), feed(whole[-1:]), waits(), take(), waits())
        self.assertEqual([given[k] for k in (0, 2, 4, 6)], [[-5], [-5], [0, 3], [-5]])

    def test_the_first_of_several(self):
        whole = make_page(0, [2, 0, 255, 1], some_bytes(258), flags=2, position=5)
        given = run(feed(whole), waits(), waits(), take(), waits(), take(), waits(), take(), waits())
        self.assertEqual([given[k] for k in (1, 2, 4, 6, 8)], [[0, 2], [0, 2], [0, 0], [0, 256], [-5]])

    def test_lengths(self):
        for length in (0, 1, 254, 255, 256, 4079):
            whole = joined(written(0, [(1, some_bytes(length))]))
            self.assertEqual(run(feed(whole), waits())[1], [0, length])

    def test_a_new_reader(self):
        self.assertEqual(run(feed(packet_page(0)), waits(), reader(0), waits())[1:], [[0, 3], [0], [-5]])

    def test_a_packet_put_does_not_wait(self):
        self.assertEqual(run(put(0, 1, [1, 2]), waits(), take())[1:], [[-5], [-5]])


class NextTest(unittest.TestCase):
    def test_what_stands_beside_it_and_its_bytes(self):
        whole = make_page(3, [2, 0, 1], [7, 8, 9], flags=4, position=77)
        given = run(feed(whole), take(), take(), take(), take())
        self.assertEqual(given[1:], [[0, -1, 1, 0, 7, 8], [0, -1, 0, 0], [0, 77, 0, 1, 9], [-5]])

    def test_none_waits(self):
        whole = packet_page(0, flags=2)
        given = run(take(), feed(whole[:-1]), take(), feed(whole[-1:]), take(), take(), take(0))
        self.assertEqual([given[k] for k in (0, 2, 5, 6)], [[-5]] * 4)

    def test_feed_goes_on_when_all_are_taken(self):
        first = make_page(0, [1, 1], [7, 8], flags=2, position=5)
        second = packet_page(1, position=6)
        given = run(feed(first), feed(second), take(), feed(second), take(), feed(second), take())
        self.assertEqual([given[k] for k in (1, 3, 5)], [[0, 0], [0, 0], [0, len(second)]])
        self.assertEqual([given[k] for k in (2, 4, 6)], [[0, -1, 0, 0, 7], [0, 5, 0, 0, 8], [0, 6, 0, 0, 1, 2, 3]])

    def test_cap(self):
        for length in (1, 2, 255, 1000):
            whole = joined(written(0, [(9, some_bytes(length))]))
            given = run(feed(whole), take(0), take(length - 1), waits(), take(length), take(length))
            self.assertEqual(given[1:], [[-2], [-2], [0, length], [0, 9, 0, 1] + some_bytes(length), [-5]])

    def test_cap_0_takes_an_empty_packet(self):
        self.assertEqual(run(feed(packet_page(0, flags=2, packet=())), take(0), take(0))[1:], [[0, 5, 0, 0], [-5]])

    def test_cap_is_of_the_first_packet(self):
        whole = make_page(0, [1, 3], [6, 7, 8, 9], flags=2, position=5)
        given = run(feed(whole), take(1), take(1), take(2), take(3))
        self.assertEqual(given[1:], [[0, -1, 0, 0, 6], [-2], [-2], [0, 5, 0, 0, 7, 8, 9]])

    def test_any_cap_from_0_on(self):
        for cap in (3, 4, 8192, 9001, 2**63, 2**64 - 1):
            self.assertEqual(run(feed(packet_page(0, flags=2)), take(cap))[1], [0, 5, 0, 0, 1, 2, 3])

    def test_wrong_caps(self):
        for cap in (-1, -2, -(2**63)):
            given = run(take(cap), feed(packet_page(0, flags=2)), take(cap), waits(), take(3), take(cap))
            self.assertEqual([given[k] for k in (0, 2, 5)], [[-1]] * 3)
            self.assertEqual(given[3:5], [[0, 3], [0, 5, 0, 0, 1, 2, 3]])

    def test_a_refusal_leaves_hole_and_counts(self):
        whole = packet_page(6)
        given = run(feed([1] + whole), take(-1), take(2), counts(), feed([1]), take(3), counts())
        self.assertEqual(given[1:], [[-1], [-2], [0, 1, 0, 0, 1, 0], [0, 0], [0, 5, 1, 0, 1, 2, 3], [0, 1, 0, 0, 1, 0]])

    def test_positions(self):
        for position, told in ((0, 0), (1, 1), (TOP_POSITION, TOP_POSITION), (2**64 - 2, 2**64 - 2), (2**64 - 1, -1)):
            self.assertEqual(run(feed(packet_page(0, flags=2, position=position)), take())[1][:4], [0, told, 0, 0])

    def test_positions_that_were_written(self):
        for position in (0, 256, TOP_POSITION):
            whole = joined(written(0, [(3, [1]), (position, [2])]))
            self.assertEqual(Line().read(whole), [(-1, 0, 0, [1]), (position, 0, 1, [2])])

    def test_the_longest_packet(self):
        packet = some_bytes(8192)
        pages = written(0, [(4, packet)])
        given = run(*[feed(whole) for whole in pages], waits(), take(8191), take(8192), counts())
        self.assertEqual(given[3:6], [[0, 8192], [-2], [0, 4, 0, 1] + packet])
        self.assertEqual(given[6], [0, 3, 0, 0, 0, 0])

    def test_a_packet_longer_than_the_longest(self):
        packet = some_bytes(8193)
        pages = [
            make_page(0, [255] * 16, packet[:4080], flags=2),
            make_page(1, [255] * 16, packet[4080:8160], flags=1),
            make_page(2, [33], packet[8160:], flags=1, position=4),
        ]
        given = run(*[feed(whole) for whole in pages], waits(), take(), counts(), feed(packet_page(3)), take())
        self.assertEqual(given[3:6], [[-5], [-5], [0, 3, 0, 0, 0, 1]])
        self.assertEqual(given[7], [0, 5, 1, 0, 1, 2, 3])

    def test_a_packet_longer_than_the_longest_that_is_cut_off(self):
        pages = [make_page(k, [255] * 16, [0] * 4080, flags=1 if k else 2) for k in range(3)]
        for number, flags in ((3, 0), (4, 0), (4, 1)):
            ending = make_page(number, [0, 1], [6], flags=flags, position=8)
            given = run(*[feed(whole) for whole in pages], feed(ending), counts(), take(), take())
            self.assertEqual(given[4], [0, 4, 0, 0, 0, 1])
            # With the flag 1 the empty piece is the lost packet's end and is passed over.
            first = [[0, -1, 1, 0]] if flags == 0 else []
            second = [[0, 8, 1 if flags else 0, 0, 6]]
            self.assertEqual(given[5:], (first + second + [[-5]])[:2])


class PageNumbersTest(unittest.TestCase):
    def read_two(self, first, second):
        """The packet of a second page behind the first one's, None if it isn't taken, and the counts."""
        line = Line()
        assert line.read(packet_page(first, flags=2)) == [(5, 0, 0, [1, 2, 3])]
        packets = line.read(packet_page(second, packet=[9], position=6))
        return packets, line.ask(counts())[1:]

    def test_the_next_across_the_end(self):
        for first in (0, 2**31 - 1, 2**31, 2**32 - 2, 2**32 - 1):
            packets, counted = self.read_two(first, (first + 1) % 2**32)
            self.assertEqual(packets, [(6, 0, 0, [9])])
            self.assertEqual(counted, [2, 0, 0, 0, 0])

    def test_ahead_with_a_hole(self):
        for first in (0, 7, 2**31, 2**32 - 1):
            for ahead in (2, 3, 2**31 - 2, 2**31 - 1):
                packets, counted = self.read_two(first, (first + ahead) % 2**32)
                self.assertEqual(packets, [(6, 1, 0, [9])])
                self.assertEqual(counted, [2, 0, 0, 0, 0])

    def test_old(self):
        for first in (0, 7, 2**31, 2**32 - 1):
            for ahead in (0, 2**31, 2**31 + 1, 2**32 - 1):
                packets, counted = self.read_two(first, (first + ahead) % 2**32)
                self.assertEqual(packets, [])
                self.assertEqual(counted, [1, 0, 1, 0, 0])

    def test_on_and_back_behind_the_end(self):
        numbers = (2**32 - 1, 0, 1, 0, 2**32 - 1, 2)
        line = Line()
        packets = line.read(joined([packet_page(number, position=number) for number in numbers]))
        self.assertEqual([packet[:2] for packet in packets], [(2**32 - 1, 1), (0, 0), (1, 0), (2, 0)])
        self.assertEqual(line.ask(counts()), [0, 4, 0, 2, 0, 0])

    def test_a_packet_across_the_end(self):
        first = make_page(2**32 - 1, [255], some_bytes(255), flags=2)
        second = make_page(0, [1], [4], flags=1, position=6)
        self.assertEqual(Line().read(first + second), [(6, 0, 0, some_bytes(255) + [4])])


if __name__ == "__main__":
    unittest.main()
