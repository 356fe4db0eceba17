"""The writer: laces packets into the pages of one stream."""

from lacedpages.layout import ALL_BITS_SET, FIRST_PAGE, FULL_VALUE, IN_MIDST, LAST_PAGE, MOST_VALUES, PAGE_NUMBERS
from lacedpages.layout import lacing_of, make_page


class Writer:
    def __init__(self, stream, table):
        self.stream = stream
        self.table = table
        self.last_came = False
        self.pages_waiting = []
        self.begin_page(0, FIRST_PAGE)

    def begin_page(self, number, flags):
        self.number = number
        self.flags = flags
        self.position = ALL_BITS_SET
        self.lacing = []
        self.body = []

    def finish_page(self, last_page):
        flags = self.flags | last_page
        page = make_page(self.table, flags, self.position, self.stream, self.number, self.lacing, self.body)
        self.pages_waiting.append(page)
        following = IN_MIDST if self.lacing[-1] == FULL_VALUE else 0
        self.begin_page((self.number + 1) % PAGE_NUMBERS, following)

    def put_packet(self, position, last, packet):
        self.last_came = last == 1
        begin = 0
        for value in lacing_of(len(packet)):
            self.lacing.append(value)
            self.body.extend(packet[begin:begin + value])
            begin += value
            if value < FULL_VALUE:
                self.position = position
            # The sum covers the flags, so the last page is told before it is made, also where its 16 values end it.
            if value < FULL_VALUE and self.last_came:
                self.finish_page(LAST_PAGE)
            elif len(self.lacing) == MOST_VALUES:
                self.finish_page(0)

    def flush_page(self):
        if self.lacing:
            self.finish_page(0)

    def take_waiting(self):
        return self.pages_waiting.pop(0)
