"""The calls on one object that has a writer and a reader."""

from lacedpages.checksum import make_table, sum_of_bytes
from lacedpages.layout import LONGEST_PACKET, judge
from lacedpages.reader import Reader
from lacedpages.writer import Writer

DONE = 0
NOT_AS_TOLD = -1
TOO_LONG = -2
LAST_CAME = -3
PAGES_WAIT = -4
NONE_WAITS = -5

TOP_STREAM = 4294967295
TOP_POSITION = 9223372036854775807
MOST_BYTES = 9000


class Holder:
    def __init__(self):
        self.table = make_table()
        self.writer = Writer(0, self.table)
        self.reader = Reader(0, self.table)


def are_bytes(row):
    return len(row) <= MOST_BYTES and all([0 <= value <= 255 for value in row])


def answer_writer(holder, numbers, row):
    if not 0 <= numbers[0] <= TOP_STREAM:
        return [NOT_AS_TOLD]
    holder.writer = Writer(numbers[0], holder.table)
    return [DONE]


def answer_put(holder, numbers, row):
    if not (0 <= numbers[0] <= TOP_POSITION and 0 <= numbers[1] <= 1 and are_bytes(row)):
        return [NOT_AS_TOLD]
    if holder.writer.last_came:
        return [LAST_CAME]
    if len(row) > LONGEST_PACKET:
        return [TOO_LONG]
    if holder.writer.pages_waiting:
        return [PAGES_WAIT]
    holder.writer.put_packet(numbers[0], numbers[1], row)
    return [DONE]


def answer_flush(holder, numbers, row):
    if holder.writer.pages_waiting:
        return [PAGES_WAIT]
    holder.writer.flush_page()
    return [DONE]


def answer_page(holder, numbers, row):
    if not holder.writer.pages_waiting:
        return [NONE_WAITS]
    return [DONE] + holder.writer.take_waiting()


def answer_reader(holder, numbers, row):
    if not 0 <= numbers[0] <= TOP_STREAM:
        return [NOT_AS_TOLD]
    holder.reader = Reader(numbers[0], holder.table)
    return [DONE]


def answer_feed(holder, numbers, row):
    if not are_bytes(row):
        return [NOT_AS_TOLD]
    return [DONE, holder.reader.feed_bytes(row)]


def answer_close(holder, numbers, row):
    holder.reader.close_feeding()
    return [DONE]


def answer_waits(holder, numbers, row):
    if not holder.reader.packets_waiting:
        return [NONE_WAITS]
    return [DONE, len(holder.reader.packets_waiting[0].body)]


def answer_next(holder, numbers, row):
    if numbers[0] < 0:
        return [NOT_AS_TOLD]
    if not holder.reader.packets_waiting:
        return [NONE_WAITS]
    if len(holder.reader.packets_waiting[0].body) > numbers[0]:
        return [TOO_LONG]
    packet = holder.reader.take_waiting()
    return [DONE, packet.position, packet.hole, packet.last] + packet.body


def answer_counts(holder, numbers, row):
    return [DONE] + holder.reader.list_counts()


def answer_sum(holder, numbers, row):
    if not are_bytes(row):
        return [NOT_AS_TOLD]
    return [DONE, sum_of_bytes(holder.table, row)]


def answer_check(holder, numbers, row):
    if not are_bytes(row):
        return [NOT_AS_TOLD]
    return [DONE, judge(holder.table, row, 0)]


# For each call's number: how many whole numbers it has, and how many rows behind them.
SHAPES = {
    1: (1, 0),
    2: (2, 1),
    3: (0, 0),
    4: (0, 0),
    5: (1, 0),
    6: (0, 1),
    7: (0, 0),
    8: (0, 0),
    9: (1, 0),
    10: (0, 0),
    11: (0, 1),
    12: (0, 1),
}

ANSWERS = {
    1: answer_writer,
    2: answer_put,
    3: answer_flush,
    4: answer_page,
    5: answer_reader,
    6: answer_feed,
    7: answer_close,
    8: answer_waits,
    9: answer_next,
    10: answer_counts,
    11: answer_sum,
    12: answer_check,
}


class Call:
    """The call that lies at a place of the list, and the place behind it."""

    def __init__(self, calls, place):
        self.number = calls[place]
        shape = SHAPES[self.number]
        self.behind = place + 1 + shape[0]
        self.numbers = calls[place + 1:self.behind]
        self.row = []
        if shape[1] == 1:
            row_begin = self.behind + 1
            row_end = row_begin + calls[self.behind]
            self.row = calls[row_begin:row_end]
            self.behind = row_end


def answers(calls):
    """The answers to all calls in the list, each with how many numbers it has before it."""
    holder = Holder()
    given = []
    place = 0
    while place < len(calls):
        call = Call(calls, place)
        answer = ANSWERS[call.number](holder, call.numbers, call.row)
        given.append(len(answer))
        given.extend(answer)
        place = call.behind
    return given
