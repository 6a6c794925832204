"""Swaps that lead from one order of the places to another one (point 63)."""

from phasor.layout import order_layout


def restore_steps(device, order, goal):
    """Returns the steps that lead from an order to the order that is the goal."""
    layout = order_layout(device, order)
    wanted = order_layout(device, goal)
    steps = []
    # The places are settled from the farthest on, so that those that are left
    # stay connected; with k places left a qubit moves at most k - 1 links.
    settled = []
    for place in reversed(list(device.distances_to(0, []))):
        here = layout.place_of(wanted.holder_of(place))
        steps.extend(layout.walk(device.path_past(here, place, settled)))
        settled.append(place)
    return steps
