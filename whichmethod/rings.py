"""Rings of kinds each of which must stand ahead of the next one, and the last one ahead of the first one."""


def nexts_of(above, pairs):
    """For each kind the ascending list of those that it must stand ahead of: it is below them, or some pair says so."""
    return {kind: _nexts_of_one(above, pairs, kind) for kind in sorted(above)}


def _nexts_of_one(above, pairs, kind):
    uppers = [upper for upper in above[kind] if upper != kind]
    return sorted(set(uppers + [behind for ahead, behind in pairs if ahead == kind]))


def is_ring(nexts, kinds):
    """Whether some of the kinds, two or more and all different, are a ring."""
    if len(kinds) < 2 or len(set(kinds)) != len(kinds):
        return False
    return all([other in nexts[one] for one, other in zip(kinds, kinds[1:] + kinds[:1])])


def shortest_ring(nexts):
    """The least tuple by comparison of the shortest rings, or None if there is none."""
    steps = {kind: _steps_to(nexts, kind) for kind in nexts}
    sizes = {kind: _ring_size(nexts, steps, kind) for kind in nexts}
    found = [size for size in sizes.values() if size is not None]
    if not found:
        return None
    shortest = min(found)
    # The kinds ascend, so the first one that is in a shortest ring begins the least.
    start = [kind for kind in nexts if sizes[kind] == shortest][0]
    row = [start]
    while len(row) < shortest:
        left = shortest - len(row)
        row.append([kind for kind in nexts[row[-1]] if steps[start].get(kind) == left][0])
    return tuple(row)


def _ring_size(nexts, steps, kind):
    """How many kinds a shortest ring has that this kind is in, None if it is in none."""
    return min([steps[kind][other] + 1 for other in nexts[kind] if other in steps[kind]], default=None)


def _steps_to(nexts, end):
    """For each kind from which one comes to the end, from each kind to a next one, the fewest steps."""
    steps = {end: 0}
    many = 0
    edge = [end]
    while edge:
        many += 1
        edge = [kind for kind in nexts if kind not in steps and any([other in edge for other in nexts[kind]])]
        for kind in edge:
            steps[kind] = many
    return steps
