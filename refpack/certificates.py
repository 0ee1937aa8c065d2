"""Certificates of tables: proofs that no file of a table is smaller than some size."""

from refpack.duals import dual_bound, dual_of, excesses_of
from refpack.judging import gaps_with
from refpack.packing import first_least_plan, fixed_places, least_size
from refpack.plans import choice_of, sizes_with
from refpack.pricing import costs_of
from refpack.reading import read_with_sections
from refpack.tables import header_size, place_of


def numbered(table, certificate):
    """The pairs of the certificate with indices in the place of names."""
    pairs = []
    for names, amount in certificate:
        members = [place_of(table, name) for name in names]
        pairs.append((tuple(sorted(members)), amount))
    return tuple(pairs)


def named(table, pairs):
    """The certificate with names in the place of indices."""
    certificate = []
    for members, amount in pairs:
        certificate.append((tuple([table[place][0] for place in sorted(members)]), amount))
    return tuple(certificate)


def certify(table, *, fixed=()):
    """The certificate of the table."""
    places = fixed_places(table, fixed)
    return named(table, dual_of(costs_of(table), fixed=places))


def lower_bound(table, certificate, *, fixed=()):
    """The bound of the certificate: no file of the table that counts is smaller."""
    pairs = numbered(table, certificate)
    places = fixed_places(table, fixed)
    return header_size(table) + dual_bound(costs_of(table), pairs, fixed=places)


def proves(table, certificate, size, *, fixed=()):
    """Whether the certificate proves that no file of the table that counts is smaller than the size."""
    return lower_bound(table, certificate, fixed=fixed) >= size


def decide(table, size, *, fixed=()):
    """True and the first least plan if a file of at most this size counts, otherwise False and the certificate."""
    if least_size(table, fixed=fixed) <= size:
        return True, first_least_plan(table, fixed=fixed)
    return False, certify(table, fixed=fixed)


def account_with(table, plan, sizes, certificate):
    """The account of a file of the table that has this plan and sections of these sizes."""
    pairs = numbered(table, certificate)
    excesses = excesses_of(costs_of(table), pairs, ())
    return gaps_with(sizes, excesses, pairs, choice_of(table, plan))


def account_of(numbers, certificate):
    """The account of a file: where its size exceeds the bound of the certificate."""
    table, plan, sections = read_with_sections(numbers)
    return account_with(table, plan, sizes_with(plan, sections), certificate)
