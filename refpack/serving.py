"""Plans and bounds for queries: the fewest bytes that must be read for some columns."""

from refpack.certificates import numbered
from refpack.duals import dual_bound
from refpack.needs import least_need, meeting, serving_families
from refpack.packing import first_plan_within, fixed_places
from refpack.pricing import costs_of
from refpack.tables import places_of


def least_bytes(table, names, *, fixed=()):
    """The least number of bytes of the sections that are needed for the columns, in any file that counts."""
    members = places_of(table, names)
    places = fixed_places(table, fixed)
    return least_need(costs_of(table), members, fixed=places)


def serving_plan(table, names, *, fixed=()):
    """The first plan with the smallest file of those that need the least number of bytes for the columns."""
    members = places_of(table, names)
    places = fixed_places(table, fixed)
    costs = costs_of(table)
    return first_plan_within(table, costs, serving_families(costs, members, places))


def query_bound(table, certificate, names, *, fixed=()):
    """The bound of the pairs that meet the columns: no fewer bytes are needed for them, in any file that counts."""
    pairs = numbered(table, certificate)
    members = places_of(table, names)
    places = fixed_places(table, fixed)
    return dual_bound(costs_of(table), meeting(pairs, members), fixed=places)
