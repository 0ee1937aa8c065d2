"""Residuals: what a kind of section leaves to its entries and codes."""


def groups_of(kind, many, reference):
    """The groups of so many rows: the rows that share an entry."""
    if kind != "lookup":
        return (tuple(range(many)),)
    found = {}
    for row, value in enumerate(reference):
        found.setdefault(value, []).append(row)
    return tuple([tuple(rows) for _, rows in sorted(found.items())])


def residuals_of(kind, values, reference):
    """The residuals of all rows."""
    if kind == "step":
        before = (0, *values)
        return tuple([value - earlier for value, earlier in zip(values, before)])
    if kind == "offset":
        return tuple([value - other for value, other in zip(values, reference)])
    return values


def grouped_residuals(kind, values, reference):
    """The residuals of the rows of each group."""
    residuals = residuals_of(kind, values, reference)
    groups = groups_of(kind, len(values), reference)
    return tuple([tuple([residuals[row] for row in rows]) for rows in groups])
