"""Promises 9 and 10: what stands beside a packet, and what is counted, page by page as the reader is told."""

import unittest

from tests.helper import Line, counts, feed, joined, make_page, run, some_bytes

BEGUN = [255, 255]
BEGUN_BODY = some_bytes(510)


def packets_of(*pages):
    return Line().read(joined(pages))


def counts_of(*pages):
    line = Line()
    line.read(joined(pages))
    return line.ask(counts())[1:]


class BesidePacketsTest(unittest.TestCase):
    def test_position_of_the_last_in_its_page_alone(self):
        whole = make_page(0, [1, 0, 2, 255], some_bytes(258), flags=2, position=70)
        following = make_page(1, [0], [], flags=1, position=71)
        body = some_bytes(258)
        expected = [(-1, 0, 0, body[:1]), (-1, 0, 0, []), (70, 0, 0, body[1:3]), (71, 0, 0, body[3:])]
        self.assertEqual(packets_of(whole, following), expected)

    def test_positions_as_told(self):
        for position, told in ((0, 0), (2**63, 2**63), (2**64 - 2, 2**64 - 2), (2**64 - 1, -1)):
            self.assertEqual(packets_of(make_page(0, [0], [], flags=2, position=position)), [(told, 0, 0, [])])

    def test_last_is_the_last_that_ended_in_the_last_page(self):
        whole = make_page(0, [1, 1, 255], [7, 8] + [0] * 255, flags=6, position=9)
        self.assertEqual(packets_of(whole), [(-1, 0, 0, [7]), (9, 0, 1, [8])])

    def test_one_too_long_has_ended_in_its_page(self):
        pages = [
            make_page(0, [255] * 16, [0] * 4080, flags=2),
            make_page(1, [255] * 16, [0] * 4080, flags=1),
            make_page(2, [33, 1], [0] * 33 + [5], flags=1, position=4),
        ]
        self.assertEqual(packets_of(*pages), [(4, 1, 0, [5])])
        self.assertEqual(counts_of(*pages), [3, 0, 0, 0, 1])
        head = [make_page(0, [1] + [255] * 15, [9] + [0] * 3825, flags=2, position=3)]
        head += [make_page(1, [255] * 16, [0] * 4080, flags=1)]
        ended = make_page(2, [255, 255, 0], [0] * 510, flags=5, position=4)
        self.assertEqual(packets_of(*head, ended), [(3, 0, 0, [9])])
        self.assertEqual(counts_of(*head, ended), [3, 0, 0, 0, 1])

    def test_hole_at_the_first_page(self):
        self.assertEqual(packets_of(make_page(3, [1, 0], [1], flags=2, position=4)), [(-1, 0, 0, [1]), (4, 0, 0, [])])
        self.assertEqual(packets_of(make_page(0, [1, 0], [1], flags=0, position=4)), [(-1, 1, 0, [1]), (4, 0, 0, [])])

    def test_hole_at_a_lost_page(self):
        first = make_page(0, [0], [], flags=2, position=1)
        self.assertEqual(packets_of(first, make_page(2, [0], [], position=3)), [(1, 0, 0, []), (3, 1, 0, [])])
        self.assertEqual(packets_of(first, make_page(1, [0], [], position=3)), [(1, 0, 0, []), (3, 0, 0, [])])

    def test_hole_at_a_packet_cut_off(self):
        first = make_page(0, BEGUN, BEGUN_BODY, flags=2)
        second = make_page(1, [1], [6], position=3)
        self.assertEqual(packets_of(first, second), [(3, 1, 0, [6])])
        self.assertEqual(counts_of(first, second), [2, 0, 0, 0, 1])

    def test_hole_at_a_piece_without_a_beginning(self):
        first = make_page(0, [3, 1], [1, 2, 3, 6], flags=3, position=3)
        self.assertEqual(packets_of(first), [(3, 1, 0, [6])])
        self.assertEqual(counts_of(first), [1, 0, 0, 0, 0])

    def test_no_hole_by_a_page_without_pieces(self):
        for flags in (0, 1):
            pages = [make_page(0, [0], [], flags=2, position=1), make_page(1, [], [], flags=flags)]
            pages += [make_page(2, [0], [], position=2)]
            self.assertEqual(packets_of(*pages), [(1, 0, 0, []), (2, 0, 0, [])])
            self.assertEqual(counts_of(*pages), [3, 0, 0, 0, 0])

    def test_no_hole_by_pages_that_only_count(self):
        first = make_page(4, [0], [], flags=2, position=1)
        between = [make_page(9, [0], [], stream=1), make_page(4, [1], [1]), make_page(3, [1], [1])]
        pages = [first] + between + [make_page(5, [0], [], flags=4, position=2), make_page(6, [0], [])]
        self.assertEqual(packets_of(*pages), [(1, 0, 0, []), (2, 0, 1, [])])
        self.assertEqual(counts_of(*pages), [2, 1, 3, 0, 0])

    def test_no_hole_by_bytes_between(self):
        pages = [make_page(0, [0], [], flags=2, position=1), [1, 2, 79], make_page(1, [0], [], position=2)]
        self.assertEqual(packets_of(*pages), [(1, 0, 0, []), (2, 0, 0, [])])
        self.assertEqual(counts_of(*pages), [2, 0, 0, 3, 0])

    def test_a_packet_dropped_counts_once(self):
        begun = make_page(0, BEGUN, BEGUN_BODY, flags=2)
        self.assertEqual(counts_of(begun, make_page(2, [3], [1, 2, 3], flags=1)), [2, 0, 0, 0, 1])
        self.assertEqual(counts_of(begun, make_page(2, [3], [1, 2, 3])), [2, 0, 0, 0, 1])
        self.assertEqual(counts_of(make_page(0, BEGUN, BEGUN_BODY, flags=6)), [1, 0, 0, 0, 1])
        long = [make_page(k, [255] * 16, [0] * 4080, flags=1 if k else 2) for k in range(3)]
        self.assertEqual(counts_of(*long, make_page(3, [0], [], flags=0)), [4, 0, 0, 0, 1])

    def test_a_damaged_page_is_bytes_passed_over(self):
        damaged = make_page(0, [3], [1, 2, 3], flags=2)
        damaged[-1] = 4
        self.assertEqual(counts_of(damaged), [0, 0, 0, len(damaged), 0])

    def test_a_byte_is_passed_over_as_soon_as_it_can_be_said(self):
        mark = [79, 103, 103, 83, 0]
        for held, tells in (([], 80), (mark[:2], 104), (mark[:4], 1), (mark, 8), (mark + [7] + [0] * 20, 17)):
            given = run(feed(held), counts(), feed([tells]), counts())
            self.assertEqual(given[1], [0, 0, 0, 0, 0, 0])
            self.assertEqual(given[3], [0, 0, 0, 0, len(held) + 1, 0])

    def test_pages_held_back_are_all_judged_at_once(self):
        false = [79, 103, 103, 83, 0] + [0] * 21 + [1, 100]
        held = make_page(0, [1], [1], flags=2, position=1) + make_page(1, [1], [2], position=2)
        line = Line(feed(false + held + [0] * 100))
        self.assertEqual(line.given, [[0, 27 + 1 + 100]])
        between = 27 + 1 + 100 - len(held)
        self.assertEqual(line.ask(counts()), [0, 2, 0, 0, between, 0])
        self.assertEqual(line.take_all(), [(1, 0, 0, [1]), (2, 0, 0, [2])])


if __name__ == "__main__":
    unittest.main()
