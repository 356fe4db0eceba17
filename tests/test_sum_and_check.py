"""Promises 11 and 12: sum and check."""

import unittest

from tests.helper import Line, check, close, counts, feed, joined, make_page, page, polynomial_sum, put, reader, run
from tests.helper import some_bytes, sum_call, take, written

MARK = [79, 103, 103, 83, 0]
# Rows of numbers that are not bytes, or more of them than told.
WRONG = ([-1], [256], [0, 2**64 - 1], [-(2**63), 0], [255, 256], [0] * 9001, [0] * 15900)


def sum_of(data):
    done, number = run(sum_call(data))[0]
    assert done == 0
    return number


def checked(data):
    done, number = run(check(data))[0]
    assert done == 0
    return number


class SumTest(unittest.TestCase):
    def test_known_sums(self):
        self.assertEqual(sum_of([]), 0)
        self.assertEqual(sum_of([0, 0, 0]), 0)
        self.assertEqual(sum_of([1]), 0x04C11DB7)
        self.assertEqual(sum_of(list(b"123456789")), 0x89A1897F)

    def test_every_byte_by_long_division(self):
        for first in range(0, 256, 64):
            values = range(first, first + 64)
            given = run(*[sum_call([value, 1]) for value in values])
            self.assertEqual(given, [[0, polynomial_sum([value, 1])] for value in values])

    def test_lengths_by_long_division(self):
        for count in (2, 5, 255, 4123, 8999, 9000):
            self.assertEqual(sum_of(some_bytes(count)), polynomial_sum(some_bytes(count)))

    def test_highest_bits(self):
        self.assertEqual(sum_of([255] * 4), polynomial_sum([255] * 4))
        self.assertEqual(sum_of([128] + [0] * 8999), polynomial_sum([128] + [0] * 8999))

    def test_a_page_as_it_stands(self):
        # The bytes of the sum are taken as they are, so a page's sum is that told in it only with these at 0.
        whole = make_page(0, [3], [1, 2, 3], flags=2)
        emptied = whole[:22] + [0] * 4 + whole[26:]
        told = int.from_bytes(bytes(whole[22:26]), "little")
        self.assertEqual(sum_of(emptied), told)
        self.assertEqual(sum_of(whole), polynomial_sum(whole))
        self.assertNotEqual(sum_of(whole), told)

    def test_wrong_bytes(self):
        for row in WRONG:
            self.assertEqual(run(sum_call(row)), [[-1]])


class CheckTest(unittest.TestCase):
    def test_whole_pages(self):
        for count in (0, 1, 15, 16):
            whole = make_page(7, [3] * count, some_bytes(3 * count), stream=9)
            self.assertEqual(checked(whole), 27 + 4 * count)
        self.assertEqual(checked(make_page(0, [255] * 16, some_bytes(4080))), 4123)
        self.assertEqual(checked(make_page(0, [255, 0, 1], some_bytes(256))), 27 + 3 + 256)

    def test_pages_that_were_written(self):
        for whole in written(3, [(1, some_bytes(8192)), (2, []), (3, some_bytes(255))]):
            self.assertEqual(checked(whole), len(whole))

    def test_other_bytes_behind(self):
        whole = make_page(0, [4], [1, 2, 3, 4])
        for behind in ([0], [79], whole, [255] * (9000 - len(whole))):
            self.assertEqual(checked(whole + behind), len(whole))

    def test_cut_short(self):
        whole = make_page(0, [4, 255], some_bytes(259), flags=7)
        for count in range(len(whole)):
            self.assertEqual(checked(whole[:count]), 0)

    def test_no_bytes(self):
        self.assertEqual(run(check([])), [[0, 0]])

    def test_bytes_that_begin_no_page(self):
        whole = make_page(0, [4], [1, 2, 3, 4])
        for place in range(5):
            for value in (MARK[place] ^ 1, 255):
                wrong = whole[:place] + [value] + whole[place + 1 :]
                self.assertEqual(checked(wrong), -1)
                self.assertEqual(checked(wrong[: place + 1]), -1)
        self.assertEqual(checked([0] + whole), -1)
        self.assertEqual(checked(whole[1:]), -1)
        self.assertEqual(checked([0] * 9000), -1)

    def test_flags(self):
        for flags in range(8):
            self.assertEqual(checked(make_page(0, [1], [1], flags=flags)), 29)
        for flags in (8, 9, 128, 255):
            self.assertEqual(checked(make_page(0, [1], [1], flags=flags)), -1)
            self.assertEqual(checked(MARK + [flags]), -1)
        self.assertEqual(checked(MARK + [7]), 0)

    def test_counts_of_values(self):
        head = MARK + [0] * 21
        self.assertEqual(checked(head), 0)
        self.assertEqual(checked(head + [16]), 0)
        self.assertEqual(checked(head + [17]), -1)
        for count in (17, 255):
            self.assertEqual(checked(make_page(0, [1] * count, some_bytes(count))), -1)

    def test_a_wrong_sum(self):
        whole = make_page(0, [4, 1], [1, 2, 3, 4, 5], position=3, stream=4)
        for place in [5, *range(6, 26), *range(29, 34)]:
            wrong = list(whole)
            wrong[place] ^= 1
            self.assertEqual(checked(wrong), -1)
            # Till all bytes are there the sum is not judged.
            self.assertEqual(checked(wrong[:-1]), 0)
            self.assertEqual(checked(wrong + whole), -1)

    def test_a_damaged_value_tells_another_length(self):
        whole = make_page(0, [4, 1], [1, 2, 3, 4, 5])
        longer = whole[:27] + [5] + whole[28:]
        self.assertEqual(checked(longer), 0)
        self.assertEqual(checked(longer + [0]), -1)
        shorter = whole[:27] + [3] + whole[28:]
        self.assertEqual(checked(shorter), -1)
        self.assertEqual(checked(shorter[:-1]), -1)

    def test_most_bytes(self):
        whole = make_page(0, [4], [1, 2, 3, 4])
        self.assertEqual(run(check(whole + [0] * (9000 - len(whole)))), [[0, len(whole)]])
        self.assertEqual(run(check(whole + [0] * (9001 - len(whole)))), [[-1]])

    def test_wrong_bytes(self):
        whole = make_page(0, [4], [1, 2, 3, 4])
        for row in WRONG + (whole + [256], whole[:-1] + [-1]):
            self.assertEqual(run(check(row)), [[-1]])


class NothingChangesTest(unittest.TestCase):
    def test_the_object_is_as_it_was(self):
        first = make_page(0, [255, 255], some_bytes(510), flags=2)
        second = make_page(1, [1], [9], flags=1, position=6)
        other = make_page(1, [1], [8], flags=5, position=5)
        line = Line(put(2, 0, [3]), feed(first + second[:20]))
        for call in (sum_call(other), check(other), check([1]), sum_call([256]), check([256]), check(second[20:])):
            line.ask(call)
            self.assertEqual(line.ask(counts()), [0, 1, 0, 0, 0, 0])
        self.assertEqual(line.read(second[20:]), [(6, 0, 0, some_bytes(510) + [9])])
        self.assertEqual(line.ask(put(3, 1, [4])), [0])
        self.assertEqual(line.ask(page()), [0] + make_page(0, [1, 1], [3, 4], flags=6, position=3))

    def test_neither_asks_for_the_stream_nor_for_close(self):
        other = make_page(1, [1], [8], stream=77)
        given = run(reader(5), close(), check(other), sum_call([1]), feed(other), take())
        self.assertEqual(given[2:], [[0, 29], [0, 0x04C11DB7], [0, 0], [-5]])

    def test_pages_laid_one_behind_another_are_found_by_check(self):
        data = joined(written(1, [(1, [5]), (2, some_bytes(700)), (3, [])], flushed=(0, 1)))
        lengths = []
        while data:
            lengths.append(checked(data))
            data = data[lengths[-1] :]
        self.assertEqual(lengths, [29, 27 + 3 + 700, 28])


if __name__ == "__main__":
    unittest.main()
