"""The reader: finds the pages of one stream in any bytes and puts its packets together."""

from lacedpages.layout import ALL_BITS_SET, FIRST_PAGE, FLAGS_AT, IN_MIDST, LAST_PAGE, LONGEST_PACKET
from lacedpages.layout import NO_PAGE, NUMBER_AT, PAGE_NUMBERS, POSITION_AT, STREAM_AT, WAITS_FOR_MORE
from lacedpages.layout import judge, number_at, pieces_of

OLD_FROM = 2147483648
NO_POSITION = -1


def told_position(page):
    position = number_at(page, POSITION_AT, 8)
    return NO_POSITION if position == ALL_BITS_SET else position


class Packet:
    """A packet that waits to be taken, and what stands beside it."""

    def __init__(self, position, hole, last, body):
        self.position = position
        self.hole = hole
        self.last = last
        self.body = body


class Reader:
    def __init__(self, stream, table):
        self.stream = stream
        self.table = table
        self.unjudged = []
        self.closed = False
        self.last_number = None
        self.over = False
        self.begun = None
        self.hole = 0
        self.packets_waiting = []
        self.pages_taken = 0
        self.pages_of_others = 0
        self.pages_too_late = 0
        self.bytes_passed = 0
        self.packets_dropped = 0

    def feed_bytes(self, data):
        took = 0
        while took < len(data) and not self.packets_waiting and not self.closed:
            self.unjudged.append(data[took])
            took += 1
            self.judge_unjudged()
        return took

    def close_feeding(self):
        self.closed = True
        while self.unjudged:
            self.bytes_passed += 1
            self.unjudged = self.unjudged[1:]
            self.judge_unjudged()
        self.drop_begun()

    def take_waiting(self):
        return self.packets_waiting.pop(0)

    def list_counts(self):
        pages = [self.pages_taken, self.pages_of_others, self.pages_too_late]
        return pages + [self.bytes_passed, self.packets_dropped]

    def judge_unjudged(self):
        start = 0
        verdict = judge(self.table, self.unjudged, start)
        while verdict != WAITS_FOR_MORE:
            if verdict == NO_PAGE:
                self.bytes_passed += 1
                start += 1
            else:
                self.meet_page(self.unjudged[start:start + verdict])
                start += verdict
            verdict = judge(self.table, self.unjudged, start)
        # While it waits within a page nothing is judged: copying what waits at every byte would be slow.
        if start > 0:
            self.unjudged = self.unjudged[start:]

    def meet_page(self, page):
        number = number_at(page, NUMBER_AT, 4)
        if number_at(page, STREAM_AT, 4) != self.stream:
            self.pages_of_others += 1
        elif self.over or self.is_old(number):
            self.pages_too_late += 1
        else:
            self.pages_taken += 1
            self.follow_number(number, page[FLAGS_AT])
            self.read_pieces(page)
            if page[FLAGS_AT] & LAST_PAGE:
                self.drop_begun()
                self.over = True

    def is_old(self, number):
        if self.last_number is None:
            return False
        ahead = (number - self.last_number) % PAGE_NUMBERS
        return ahead == 0 or ahead >= OLD_FROM

    def follow_number(self, number, flags):
        if self.last_number is None:
            if not flags & FIRST_PAGE:
                self.hole = 1
        elif number != (self.last_number + 1) % PAGE_NUMBERS:
            self.hole = 1
            self.drop_begun()
        if not flags & IN_MIDST:
            self.drop_begun()
        self.last_number = number

    def drop_begun(self):
        if self.begun is not None:
            self.begun = None
            self.packets_dropped += 1
            self.hole = 1

    def read_pieces(self, page):
        pieces = pieces_of(page)
        if page[FLAGS_AT] & IN_MIDST and self.begun is None and pieces:
            self.hole = 1
            pieces = pieces[1:]
        ends_left = len([ends for piece, ends in pieces if ends])
        for piece, ends in pieces:
            if self.begun is None:
                self.begun = []
            self.begun.extend(piece)
            if ends:
                ends_left -= 1
                self.end_packet(page, ends_left == 0)

    def end_packet(self, page, is_last_in_page):
        if len(self.begun) > LONGEST_PACKET:
            self.drop_begun()
            return
        position = told_position(page) if is_last_in_page else NO_POSITION
        last = 1 if is_last_in_page and page[FLAGS_AT] & LAST_PAGE else 0
        self.packets_waiting.append(Packet(position, self.hole, last, self.begun))
        self.begun = None
        self.hole = 0
