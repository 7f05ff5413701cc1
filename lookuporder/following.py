"""Rules followed on an order, all or none."""

from lookuporder.order import Entry
from lookuporder.order import NO_PLACE
from lookuporder.order import Order
from lookuporder.reading import ANCHOR
from lookuporder.reading import read_rules

NO_FAULT = 0
NO_RULES = -1
NO_SUCH_ENTRY = -4
TOO_MANY_ENTRIES = -5
BEHIND_ITSELF = -6


# The order that the rules make and None; or the order as it was and the fault: its kind and place.
def follow_rules(order, row):
    told = read_rules(row)
    wrong_place = told[1]
    changed = Order(order.entries)
    behind = changed.last_string()
    # Where the row stops being rules lies behind each step read, so the steps' faults come first.
    for step in told[0]:
        fault = fault_of(changed, step, behind)
        if fault != NO_FAULT:
            return (order, (fault, step.last_place))
        if step.strength != ANCHOR:
            changed.put(Entry(step.string, step.strength, step.light, step.counts_as), behind)
        behind = step.string
    if wrong_place is not None:
        return (order, (NO_RULES, wrong_place))
    return (changed, None)


def fault_of(order, step, behind):
    if step.strength == ANCHOR:
        return NO_SUCH_ENTRY if order.place_of(step.string) == NO_PLACE else NO_FAULT
    if step.string == behind:
        return BEHIND_ITSELF
    if not order.has_room_for(step.string):
        return TOO_MANY_ENTRIES
    return NO_FAULT
