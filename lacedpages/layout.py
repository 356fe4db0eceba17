"""How a page lies in bytes: making one, judging one, and what stands in it."""

from lacedpages.checksum import sum_of_bytes

MARK = (79, 103, 103, 83, 0)

FLAGS_AT = 5
POSITION_AT = 6
STREAM_AT = 14
NUMBER_AT = 18
SUM_AT = 22
COUNT_AT = 26
VALUES_AT = 27

IN_MIDST = 1
FIRST_PAGE = 2
LAST_PAGE = 4
TOP_FLAGS = 7

MOST_VALUES = 16
FULL_VALUE = 255
LONGEST_PACKET = 8192

ALL_BITS_SET = 18446744073709551615
PAGE_NUMBERS = 4294967296

WAITS_FOR_MORE = 0
NO_PAGE = -1


def low_byte_first(number, count):
    return [(number >> (8 * place)) & 255 for place in range(count)]


def number_at(data, start, count):
    number = 0
    for value in reversed(data[start:start + count]):
        number = number * 256 + value
    return number


def lacing_of(length):
    return [FULL_VALUE] * (length // FULL_VALUE) + [length % FULL_VALUE]


def sum_of_page(table, page):
    return sum_of_bytes(table, page[:SUM_AT] + [0, 0, 0, 0] + page[COUNT_AT:])


def make_page(table, flags, position, stream, number, lacing, body):
    head = list(MARK) + [flags] + low_byte_first(position, 8) + low_byte_first(stream, 4) + low_byte_first(number, 4)
    tail = [len(lacing)] + lacing + body
    total = sum_of_page(table, head + [0, 0, 0, 0] + tail)
    return head + low_byte_first(total, 4) + tail


def judge(table, data, start):
    """The length of the page that begins at start, WAITS_FOR_MORE or NO_PAGE."""
    there = len(data) - start
    for place in range(min(there, len(MARK))):
        if data[start + place] != MARK[place]:
            return NO_PAGE
    if there > FLAGS_AT and data[start + FLAGS_AT] > TOP_FLAGS:
        return NO_PAGE
    if there <= COUNT_AT:
        return WAITS_FOR_MORE
    count = data[start + COUNT_AT]
    if count > MOST_VALUES:
        return NO_PAGE
    if there < VALUES_AT + count:
        return WAITS_FOR_MORE
    length = VALUES_AT + count + sum(data[start + VALUES_AT:start + VALUES_AT + count])
    if there < length:
        return WAITS_FOR_MORE
    page = data[start:start + length]
    if sum_of_page(table, page) != number_at(page, SUM_AT, 4):
        return NO_PAGE
    return length


def pieces_of(page):
    """The page's pieces in order, each as its bytes and whether it ends a packet."""
    count = page[COUNT_AT]
    lacing = page[VALUES_AT:VALUES_AT + count]
    pieces = []
    begin = VALUES_AT + count
    end = begin
    for value in lacing:
        end += value
        if value < FULL_VALUE:
            pieces.append((page[begin:end], True))
            begin = end
    if begin < end:
        pieces.append((page[begin:end], False))
    return pieces
