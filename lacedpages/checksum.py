"""The sum of bytes: the remainder of one polynomial by another, over the field of 0 and 1."""

# x^32 + x^26 + x^23 + x^22 + x^16 + x^12 + x^11 + x^10 + x^8 + x^7 + x^5 + x^4 + x^2 + x + 1, without x^32.
POLYNOMIAL = 0x04C11DB7
TOP_BIT = 0x80000000
LOW_BITS = 0xFFFFFFFF


def remainder_of_byte(value):
    rest = value << 24
    for step in range(8):
        if rest & TOP_BIT:
            rest = ((rest << 1) & LOW_BITS) ^ POLYNOMIAL
        else:
            rest = rest << 1
    return rest


def make_table():
    """The remainders of all bytes, so that a sum takes one step a byte and not eight."""
    return [remainder_of_byte(value) for value in range(256)]


def sum_of_bytes(table, data):
    rest = 0
    for value in data:
        rest = ((rest << 8) & LOW_BITS) ^ table[(rest >> 24) ^ value]
    return rest
