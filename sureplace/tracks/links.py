"""Chains, by links.

Links tell for each layer but the last one, and for each of its boxes, the places of the boxes of the next layer with
which it is linked.
"""


def places_ending(layers, links):
    """For each layer the places of the boxes that end a chain of the layers up to this one."""
    found = [tuple(range(len(layer.boxes))) for layer in layers[:1]]
    for table in links:
        reached = [place for before in found[-1] for place in table[before]]
        found.append(tuple(sorted(set(reached))))
    return found


def _leading_to(table, places, following):
    """Those of the places that are linked with one of the following ones."""
    wanted = set(following)
    return tuple([place for place in places if any([other in wanted for other in table[place]])])


def places_alive(layers, links):
    """For each layer the places of the boxes that are part of a chain."""
    ending = places_ending(layers, links)
    found = ending[-1:]
    for table, places in zip(links[::-1], ending[:-1][::-1]):
        found.append(_leading_to(table, places, found[-1]))
    return found[::-1]


def chain_or_barrier(layers, links):
    """("chain", the first chain), or ("barrier", the places that end a chain of the layers up to theirs)."""
    living = places_alive(layers, links)
    if not all(living):
        return "barrier", tuple(places_ending(layers, links))
    chain = [places[0] for places in living[:1]]
    for table, places in zip(links, living[1:]):
        chain.append([place for place in table[chain[-1]] if place in places][0])
    return "chain", tuple(chain)
