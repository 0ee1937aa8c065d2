"""Windows that cover many of some integers, and the frequencies of integers."""


def digits_of(number):
    """The number of binary digits of an integer from 0 on."""
    return number.bit_length()


def spread_of(values):
    """The greatest element less the least one, 0 without elements."""
    return max(values) - min(values) if values else 0


def frequencies(values):
    """The pairs of a different element and its frequency, in ascending order."""
    found = {}
    for value in values:
        found[value] = found.get(value, 0) + 1
    return tuple(sorted(found.items()))


def most_frequent(values, many):
    """The most frequent elements, at most so many, in ascending order."""
    pairs = sorted(frequencies(values), key=lambda pair: (-pair[1], pair[0]))
    return tuple(sorted([value for value, _ in pairs[:many]]))


def _reaches(ordered, width):
    """For each index of ascending elements, how many from it on lie in the window that starts there."""
    reaches = []
    end = 0
    for start, least in enumerate(ordered):
        while end < len(ordered) and ordered[end] < least + (1 << width):
            end += 1
        reaches.append(end - start)
    return reaches


def cover_of(values, width):
    """The greatest number of elements that a window of the width covers."""
    return max(_reaches(sorted(values), width), default=0)


def best_starts(values, width):
    """The different elements whose window covers the most elements, in ascending order."""
    ordered = sorted(values)
    reaches = _reaches(ordered, width)
    most = max(reaches, default=0)
    # Behind the first of several equal elements the reach is less, so no element occurs twice.
    return tuple([start for start, reach in zip(ordered, reaches) if reach == most])


def base_of(values, width):
    """The least element whose window covers the most elements, 0 without elements."""
    return best_starts(values, width)[0] if values else 0


def covered_places(values, width):
    """The indices of the elements that the window of the base covers."""
    base = base_of(values, width)
    return tuple([place for place, value in enumerate(values) if 0 <= value - base < (1 << width)])


def covers_of(values):
    """The covers for the widths from 0 to the one whose windows cover all elements."""
    return tuple([cover_of(values, width) for width in range(digits_of(spread_of(values)) + 1)])
