"""Fields: the numbers of a file as integers from 0 to 255, the most significant one first."""


def u16_numbers(number):
    """The two integers of a u16."""
    return number >> 8, number & 255


def i32_numbers(number):
    """The four integers of an i32."""
    # A negative integer is shifted and masked as in two's complement.
    return tuple([(number >> shift) & 255 for shift in (24, 16, 8, 0)])


def u16_at(numbers, place):
    """The number of the u16 that begins at the place."""
    return numbers[place] * 256 + numbers[place + 1]


def i32_at(numbers, place):
    """The number of the i32 that begins at the place."""
    number = u16_at(numbers, place) * 65536 + u16_at(numbers, place + 2)
    return number - (1 << 32) if numbers[place] >= 128 else number
