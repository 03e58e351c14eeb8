"""Sets of nodes, written as masks."""

NODE_COUNT = 5
NODE_BITS = (1, 2, 4, 8, 16)


def mask_of(nodes):
    """The mask of these nodes, none of which comes twice."""
    return sum([NODE_BITS[node] for node in nodes])


def nodes_of(mask):
    """The nodes of a mask, in ascending order."""
    return [node for node in range(NODE_COUNT) if mask & NODE_BITS[node]]
