"""Files, contents and tables made at random, and files read slowly, word by word, for comparison."""

from refpack.sections import entries_of, section_with
from refpack.writing import written

KINDS = ("frame", "step", "dictionary", "offset", "lookup")
LETTERS = "ABCDEFGHIJKLMNOPQRSTUVWXYZabcdefghijklmnopqrstuvwxyz"
STRING_CODES = [code for code in range(32, 127) if code != 37]
GREATEST = 1000000000
SMALL = (82, 80, 0, 2, 1, 1, 97, 0, 0, 0, 1, 0, 1, 0, 0, 0, 5, 0, 0, 64)
# The table of the first pages, and its smallest file.
ORDERS = (
    ("zip", None, (10115, 10117, 10115, 80331, 80331, 10117)),
    ("city", ("Berlin", "Munich"), (0, 0, 0, 1, 1, 0)),
    ("ordered", None, (20100, 20100, 20101, 20102, 20102, 20105)),
    ("shipped", None, (20102, 20102, 20104, 20104, 20105, 20107)),
)
TRIPS = (
    ("planned", None, (603, 600, 615, 605)), ("start", None, (604, 600, 618, 607)),
    ("end", None, (654, 650, 668, 657)),
)


class Fault(Exception):
    """A fault of a file: a place and a reason."""


class Tape:
    """Integers that are taken one after the other."""

    def __init__(self, numbers):
        self.numbers = numbers
        self.at = 0

    def take(self, many):
        if len(self.numbers) - self.at < many:
            raise Fault(len(self.numbers), "end")
        self.at += many
        return self.numbers[self.at - many:self.at]

    def number(self, many=1):
        return int.from_bytes(bytes(self.take(many)), "big")

    def signed(self):
        return int.from_bytes(bytes(self.take(4)), "big", signed=True)


def check(holds, place, reason):
    if not holds:
        raise Fault(place, reason)


def slow_head(tape, heads):
    at = tape.at
    length = tape.number()
    check(0 < length < 21, at, "name length")
    name = tape.take(length)
    word = [code for code in name if chr(code) in LETTERS + "0123456789_"]
    check(len(word) == len(name) and chr(name[0]) in LETTERS, at + 1, "name")
    name = bytes(name).decode("ascii")
    check(name not in [head[0] for head in heads], at + 1, "duplicate name")
    at = tape.at
    many = tape.number()
    check(many < 7, at, "labels")
    labels = []
    for _ in range(many):
        at = tape.at
        length = tape.number()
        check(length < 9, at, "label length")
        codes = tape.take(length)
        check(all(code in STRING_CODES for code in codes), at, "label")
        check(bytes(codes).decode("ascii") not in labels, at, "duplicate label")
        labels.append(bytes(codes).decode("ascii"))
    return name, tuple(labels) or None


def slow_patches(tape, rows):
    patches = []
    for _ in range(tape.number(2)):
        at = tape.at
        row = tape.number(2)
        check(row < rows and all(row > earlier for earlier, _ in patches), at, "patch")
        patches.append((row, tape.signed()))
    return tuple(patches)


def slow_section(tape, rows, columns):
    at = tape.at
    kind = tape.number()
    check(kind < 5, at, "kind")
    argument = tape.number()
    check(argument == 0 if kind < 3 else argument < columns, at + 1, "argument")
    width = tape.number()
    check(width < 33, at + 2, "width")
    many = tape.number(2)
    check(kind in (2, 4) or many == 1, at + 3, "entries")
    entries = tuple(tape.signed() for _ in range(many))
    patches = slow_patches(tape, rows)
    numbers = tape.take(-(-rows * width // 8))
    bits = "".join(f"{number:08b}" for number in numbers)
    check("1" not in bits[rows * width:], tape.at - 1, "bits")
    codes = tuple(int(bits[row * width:row * width + width] or "0", 2) for row in range(rows))
    return (KINDS[kind], argument if kind > 2 else None, width), (entries, patches, codes)


def slow_contents(numbers):
    """What a file says, or the pair of the place and the reason of its first fault."""
    tape = Tape(numbers)
    try:
        check(tape.take(2) == (82, 80), 0, "signature")
        rows = tape.number(2)
        check(rows < 25, 2, "rows")
        columns = tape.number()
        check(0 < columns < 7, 4, "columns")
        heads = []
        for _ in range(columns):
            heads.append(slow_head(tape, heads))
        parts = tuple((*head, *slow_section(tape, rows, columns)) for head in heads)
        check(tape.at == len(numbers), tape.at, "more")
        return rows, parts
    except Fault as fault:
        return fault.args


def slow_value(kind, section, row, before, reference):
    """The value of a row by the table of [42], None if its code gives none."""
    entries, patches, codes = section
    for patched, value in patches:
        if patched == row:
            return value
    if kind == "dictionary":
        return entries[codes[row]] if codes[row] < len(entries) else None
    if kind == "lookup":
        return entries[sorted(set(reference)).index(reference[row])] + codes[row]
    start = {"frame": 0, "step": before, "offset": reference and reference[row]}[kind]
    return start + entries[0] + codes[row]


def slow_column(part, reference, rows):
    """The values of a column, or its fault in a list of one element."""
    _, labels, (kind, _, _), section = part
    if kind != "dictionary" and len(section[0]) != (len(set(reference)) if kind == "lookup" else 1):
        return [None]
    low, high = (-GREATEST, GREATEST) if labels is None else (0, len(labels) - 1)
    values = ()
    for row in range(rows):
        value = slow_value(kind, section, row, values[-1] if values else 0, reference)
        if value is None or not low <= value <= high:
            return [row]
        values += (value,)
    return values


def slow_table(contents):
    """The table, or what is raised in its place: ("BadValues", column, row) or ("CircularReferences",)."""
    rows, parts = contents
    known = {}
    while True:
        free = [place for place, part in enumerate(parts)
                if place not in known and (part[2][1] is None or part[2][1] in known)]
        if not free:
            break
        part = parts[free[0]]
        values = slow_column(part, known.get(part[2][1]), rows)
        if isinstance(values, list):
            return "BadValues", part[0], values[0]
        known[free[0]] = values
    if len(known) < len(parts):
        return ("CircularReferences",)
    return tuple((name, labels, known[place]) for place, (name, labels, _, _) in enumerate(parts))


def random_name(source):
    length = source.choice((1, 1, 3, 20))
    return source.choice(LETTERS) + "".join(source.choice(LETTERS + "_0123456789") for _ in range(length - 1))


def random_labels(source):
    if source.random() < 0.6:
        return None
    labels = {}
    for _ in range(source.randint(1, 6)):
        length = source.choice((0, 1, 4, 8))
        labels["".join(chr(source.choice(STRING_CODES)) for _ in range(length))] = True
    return tuple(labels)


def random_heads(source, many):
    heads = {}
    while len(heads) < many:
        heads[random_name(source)] = random_labels(source)
    return tuple(heads.items())


def random_section(source, kind, width, rows):
    """Any section, most likely one that stores no permitted values."""
    reach = source.choice((1, 9, GREATEST, 2147483647))
    many = source.choice((0, 1, 3, 40)) if kind in ("dictionary", "lookup") else 1
    entries = tuple(source.randint(-reach, reach) for _ in range(many))
    patched = sorted(source.sample(range(rows), source.choice((0, 0, rows // 4, rows))))
    patches = tuple((row, source.randint(-reach, reach)) for row in patched)
    return entries, patches, tuple(source.choice((0, 2 ** width - 1, source.randrange(2 ** width)))
                                   for _ in range(rows))


def random_contents(source):
    """Anything that a file may say; references may be circular."""
    rows = source.choice((0, 1, 2, 7, 24))
    many = source.randint(1, 6)
    parts = []
    for name, labels in random_heads(source, many):
        kind = source.choice(KINDS)
        width = source.choice((0, 1, 3, 7, 8, 31, 32))
        reference = source.randrange(many) if kind in ("offset", "lookup") else None
        parts.append((name, labels, (kind, reference, width), random_section(source, kind, width, rows)))
    return rows, tuple(parts)


def random_values(source, labels, rows):
    if labels is not None:
        return tuple(source.randrange(len(labels)) for _ in range(rows))
    start = source.choice((0, 20100, -GREATEST, GREATEST - 500))
    reach = source.choice((0, 2, 30, 500))
    return tuple(start + source.randint(0, reach) for _ in range(rows))


def random_table(source, most_columns=4, rows=None):
    """A table whose columns are often near one another or determine one another."""
    rows = source.choice((0, 1, 2, 6, 12, 24)) if rows is None else rows
    table = []
    for name, labels in random_heads(source, source.randint(1, most_columns)):
        values = random_values(source, labels, rows)
        if labels is None and table and source.random() < 0.6:
            _, _, other = source.choice(table)
            if source.random() < 0.5:
                values = tuple(max(-GREATEST, min(GREATEST, value + source.randint(0, 3))) for value in other)
            else:
                near = {value: source.randint(-900, 900) for value in other}
                values = tuple(near[value] for value in other)
        table.append((name, labels, values))
    return tuple(table)


def random_plan(source, table):
    """A plan that can be used."""
    order = source.sample(range(len(table)), len(table))
    recipes = {}
    for position, place in enumerate(order):
        width = source.choice((0, 1, 2, 5, 9, 32))
        if position and source.random() < 0.5:
            recipes[place] = source.choice(KINDS[3:]), table[source.choice(order[:position])][0], width
        else:
            recipes[place] = source.choice(KINDS[:3]), None, width
    return tuple(recipes[place] for place in range(len(table)))


def values_of(table, name):
    return next((values for other, _, values in table if other == name), None)


def loose_section(source, section, rows):
    """A section that stores the same values, but with patches that are not necessary."""
    entries, patches, codes = section
    patched = dict(patches)
    values = dict(rows)
    for row in values:
        if source.random() < 0.2:
            patched[row] = values[row]
    return entries, tuple(sorted(patched.items())), codes


def random_file(source, table):
    """Any file of the table: its entries and patches are seldom those that packing chooses."""
    parts = []
    names = [column[0] for column in table]
    for (name, labels, values), (kind, reference, width) in zip(table, random_plan(source, table)):
        others = values_of(table, reference)
        entries = entries_of(kind, width, values, others)
        if source.random() < 0.5:
            entries = tuple(entry + source.choice((0, 0, 1, -2)) for entry in entries)
        if kind == "dictionary" and source.random() < 0.5:
            entries = source.choice((entries[1:], (*entries, *entries), (*entries, 5)))
        section = section_with(kind, width, entries, values, others)
        section = loose_section(source, section, enumerate(values))
        place = None if reference is None else names.index(reference)
        parts.append((name, labels, (kind, place, width), section))
    return written((len(table[0][2]), tuple(parts)))
