"""Devices for the tests, and what the tests find out about them by themselves."""

from random import Random

from phasor.device import Device, grid_device, line_device


def drawn_couplings(seed, places):
    """Couplings of a connected device that depend on the seed only."""
    random = Random(seed)
    pairs = []
    for place in range(1, places):
        pairs.append((place, random.randrange(place)))
    for _ in range(random.randrange(places)):
        pairs.append(tuple(random.sample(range(places), 2)))
    return [pair if random.randrange(2) else pair[::-1] for pair in pairs]


def drawn_order(seed, places):
    order = list(range(places))
    Random(seed).shuffle(order)
    return order


def small_devices():
    """Devices with up to 5 places."""
    return [
        line_device(1), line_device(2), line_device(3), line_device(5), grid_device(2, 2),
        Device(2, [(1, 0)]), Device(2, [(0, 1), (1, 0)]),
        Device(3, [(0, 2), (2, 1), (1, 2)]), Device(4, [(3, 0), (3, 1), (3, 2)]),
        Device(4, [(0, 1), (2, 1), (2, 3), (0, 3)]),
        Device(5, [(1, 0), (2, 1), (3, 2), (4, 3), (0, 4)]),
        Device(5, [(a, b) for a in range(5) for b in range(5) if a < b]),
        Device(5, drawn_couplings(4, 5)),
    ]


def wide_devices():
    """Devices with 6 to 9 places."""
    return [line_device(6), grid_device(2, 3), grid_device(3, 3), Device(7, drawn_couplings(2, 7))]


def plain_links(device):
    """The pairs of linked places, in both orders."""
    return {(a, b) for a, b in device.couplings} | {(b, a) for a, b in device.couplings}


def plain_distances(places, links):
    """The distances of all pairs, by ever longer walks."""
    distances = {(place, place): 0 for place in range(places)}
    for length in range(1, places):
        for a, b in list(distances):
            for c in range(places):
                if (b, c) in links and (a, c) not in distances:
                    distances[a, c] = length
    return distances
