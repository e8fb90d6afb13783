"""Whether papers that tell of tables are right."""

from baysout.checks import is_within
from baysout.passes import Order, Torn, first_torn, is_torn, places_told, want_table
from baysout.tracks import are_integers


def shows_order(table, value):
    """Whether any value is a right Order, or a right Torn."""
    want_table(table)
    places = places_told(table)
    if isinstance(value, Order):
        # True is equal to 1, but is no integer.
        right = are_integers(value.places, len(places)) and list(value.places) == places
        return right and not first_torn(table, places)
    if not isinstance(value, Torn) or not is_within(value.one, 0, len(places) - 2):
        return False
    return is_within(value.other, value.one + 1, len(places) - 1) and is_torn(table, places, value.one, value.other)
