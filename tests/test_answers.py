"""The interface: how calls lie in the list, what is given back, and that nothing is changed or kept."""

import unittest

from lacedpages.pages import answers
from tests.helper import check, close, counts, feed, flush, make_page, page, put, reader, some_bytes, sum_call, take
from tests.helper import waits, writer


def long_line():
    calls = writer(5) + put(1, 0, some_bytes(4000)) + put(2, 1, [9]) + page() + put(0, 0, [])
    calls += put(0, 2, [300]) + flush() + reader(5) + feed(make_page(0, [255] * 16, some_bytes(4080), stream=5))
    calls += feed(make_page(1, [1], [1], flags=1, stream=5) + [1]) + feed([256]) + page() + page()
    whole = make_page(2, [1, 255], [7] + some_bytes(255), stream=5, position=8)
    calls += counts() + waits() + take(0) + take(-1) + take() + take() + feed(whole + [79, 103]) + take(1)
    calls += sum_call(whole) + check(whole + [79]) + sum_call([256]) + check([-1]) + check([1]) + feed([79, 103])
    return calls + close() + counts() + feed([1]) + close() + counts() + reader(5) + counts()


class AnswersTest(unittest.TestCase):
    def test_form_of_the_answers(self):
        calls = [1, 3, 2, 5, 0, 2, 8, 9, 3, 3, 4, 4, 5, 3, 6, 2, 79, 0, 6, 0, 1, -1]
        whole = make_page(0, [2], [8, 9], flags=2, position=5, stream=3)
        expected = [1, 0, 1, 0, 1, 0, 1, -4, 1 + len(whole), 0] + whole + [1, -5, 1, 0, 2, 0, 2, 2, 0, 0, 1, -1]
        self.assertEqual(answers(calls), expected)

    def test_rows_that_look_like_calls(self):
        self.assertEqual(answers([6, 3, 4, 4, 4, 4]), [2, 0, 3, 1, -5])
        self.assertEqual(answers([11, 2, 0, 0, 12, 3, 8, 8, 8, 8]), [2, 0, 0, 2, 0, -1, 1, -5])

    def test_a_wrong_row_is_passed_by_its_count(self):
        self.assertEqual(answers([2, 0, 0, 3, 4, 256, 4, 4, 6, 2, -1, 4, 3]), [1, -1, 1, -5, 1, -1, 1, 0])
        self.assertEqual(answers([11, 2, 8, 256, 8, 12, 2, -1, 8, 8]), [1, -1, 1, -5, 1, -1, 1, -5])

    def test_form_of_the_answers_of_a_reader(self):
        whole = make_page(0, [2, 0], [8, 9], flags=2)
        calls = [6, len(whole) + 1] + whole + [1, 8, 9, 1, 9, 2, 8, 9, 0, 8, 9, 9]
        calls += [10, 11, 1, 1, 12, 1, 79, 12, 1, 80, 7]
        expected = [2, 0, len(whole), 2, 0, 2, 1, -2, 6, 0, -1, 0, 0, 8, 9, 2, 0, 0, 4, 0, -1, 0, 0, 1, -5, 1, -5]
        expected += [6, 0, 1, 0, 0, 0, 0, 2, 0, 0x04C11DB7, 2, 0, 0, 2, 0, -1, 1, 0]
        self.assertEqual(answers(calls), expected)

    def test_whole_numbers_alone(self):
        given = answers(long_line())
        self.assertIs(type(given), list)
        self.assertEqual({type(number) for number in given}, {int})

    def test_what_is_handed_in_is_not_changed(self):
        calls = long_line()
        before = list(calls)
        answers(calls)
        self.assertEqual(calls, before)

    def test_what_is_handed_in_is_not_changed_for_a_while(self):
        class Unchanging(list):
            def refuse(self, *given):
                raise AssertionError("the list handed in is changed")

            append = extend = insert = pop = remove = clear = sort = reverse = refuse
            __setitem__ = __delitem__ = __iadd__ = __imul__ = refuse

        self.assertEqual(answers(Unchanging(long_line())), answers(long_line()))

    def test_nothing_is_kept(self):
        first = answers(long_line())
        first_copy = list(first)
        first.clear()
        self.assertEqual(answers(long_line()), first_copy)
        # A line that ends amid a page, a packet and a false beginning leaves no trace.
        answers(put(0, 1, [1]) + feed([79, 103, 103]))
        self.assertEqual(answers(page() + put(0, 0, [1]) + feed([83])), [1, -5, 1, 0, 2, 0, 1])
        # Nor does one that ends closed, with a packet that waits.
        answers(feed(make_page(0, [1], [1], flags=4)) + close())
        self.assertEqual(answers(waits() + counts() + feed([83])), [1, -5, 6, 0, 0, 0, 0, 0, 0, 2, 0, 1])

    def test_a_hundred_calls(self):
        self.assertEqual(answers(flush() * 100), [1, 0] * 100)

    def test_a_long_row_of_false_beginnings(self):
        false = [79, 103, 103, 83, 0, 0, 16] + [255] * 13
        data = false * 450
        own = make_page(0, [1], [1], flags=2)
        self.assertEqual(answers(feed(data[:9000]) + feed([0] * 4200 + own + [1]))[3:], [2, 0, 4200 + len(own)])


if __name__ == "__main__":
    unittest.main()
