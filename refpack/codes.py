"""Packed codes: codes of one width, bit by bit behind one another."""


def packed_length(many, width):
    """The number of integers into which codes of the width are packed."""
    return (many * width + 7) // 8


def unused_bits(many, width):
    """The number of bits that codes of the width leave in the last integer."""
    return packed_length(many, width) * 8 - many * width


def packed_codes(codes, width):
    """The integers into which the codes are packed."""
    whole = 0
    for code in codes:
        whole = (whole << width) | code
    whole = whole << unused_bits(len(codes), width)
    length = packed_length(len(codes), width)
    return tuple([(whole >> (8 * place)) & 255 for place in reversed(range(length))])


def unpacked_codes(numbers, many, width):
    """The codes that are packed into the integers, or None if an unused bit is not 0."""
    whole = 0
    for number in numbers:
        whole = (whole << 8) | number
    unused = unused_bits(many, width)
    if whole & ((1 << unused) - 1):
        return None
    whole = whole >> unused
    mask = (1 << width) - 1
    return tuple([(whole >> (width * place)) & mask for place in reversed(range(many))])
