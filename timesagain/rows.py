"""Rows: the items of a writing or a kind in the order of its text, each one ahead of its parts."""

# How many parts stand behind such an item; behind any other one stands none.
PARTS = {"of": 1, "to": 2, ">": 2}


def bounds_in(row):
    """For each item the index just behind the part that it begins, and those of its own parts."""
    ends = [0] * len(row)
    below = [[] for _ in row]
    for at in reversed(range(len(row))):
        end = at + 1
        for _ in range(PARTS.get(row[at], 0)):
            below[at].append(end)
            end = ends[end]
        ends[at] = end
    return ends, below


def part_end(row, start):
    """The index just behind the part that begins at start."""
    end = start
    missing = 1
    while missing > 0:
        missing += PARTS.get(row[end], 0) - 1
        end += 1
    return end


def layers_in(row):
    """How many layers the whole has: 1 without parts, else one more than the part with the most."""
    layers = []
    for item in reversed(row):
        most = 0
        for _ in range(PARTS.get(item, 0)):
            most = max(most, layers.pop())
        layers.append(most + 1)
    return layers[0]
