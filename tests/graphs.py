"""Graphs one by one, and what the document's words say of them, told in other ways than the program's."""

import itertools


def below(arrows, node):
    found = {node}
    while True:
        wider = found | {j for i, j in arrows if i in found}
        if wider == found:
            return found
        found = wider


def way_is_open(arrows, way, known):
    # The other usual telling of the same: node by node along one way.
    for before, node, behind in zip(way, way[1:], way[2:]):
        if (before, node) in arrows and (behind, node) in arrows:
            if not below(arrows, node) & known:
                return False
        elif node in known:
            return False
    return True


def ways(arrows, way, goal):
    if way[-1] == goal:
        yield way
        return
    for i, j in arrows:
        for here, there in ((i, j), (j, i)):
            if here == way[-1] and there not in way:
                yield from ways(arrows, way + [there], goal)


def apart_by_ways(arrows, first, second, known):
    return not any(way_is_open(arrows, way, known)
                   for i in first for j in second for way in ways(arrows, [i], j))


def leads_round(arrows):
    return any(i in below(arrows, j) for i, j in arrows)


def all_graphs(n):
    pairs = list(itertools.combinations(range(n), 2))
    for choice in itertools.product((0, 1, 2), repeat=len(pairs)):
        arrows = [(i, j) if lead == 1 else (j, i) for (i, j), lead in zip(pairs, choice) if lead]
        if not leads_round(arrows):
            yield arrows


def all_subsets(nodes):
    nodes = sorted(nodes)
    for many in range(1 << len(nodes)):
        yield {node for place, node in enumerate(nodes) if many >> place & 1}


def least_by_ways(n, arrows, i, j):
    # The nodes are in order, so the sets come from the least number up.
    for known in all_subsets(set(range(n)) - {i, j}):
        if apart_by_ways(arrows, {i}, {j}, known):
            return sum(1 << node for node in known)
    return -2


def near_pairs(arrows):
    return {frozenset(pair) for pair in arrows}


def meetings(arrows):
    near = near_pairs(arrows)
    return {(frozenset((i, j)), k) for i, k in arrows for j, end in arrows
            if end == k and i != j and frozenset((i, j)) not in near}


def say_the_same(arrows, others):
    return near_pairs(arrows) == near_pairs(others) and meetings(arrows) == meetings(others)


def turned(arrows):
    # Every graph in which the same nodes are near, made one by one.
    pairs = sorted(sorted(pair) for pair in near_pairs(arrows))
    for choice in itertools.product((0, 1), repeat=len(pairs)):
        others = [(j, i) if back else (i, j) for (i, j), back in zip(pairs, choice)]
        if not leads_round(others):
            yield others


def table(arrows, always):
    found = [0] * 256
    for i, j in arrows:
        found[16 * i + j] = 1 if (i, j) in always else 3
        found[16 * j + i] = 2 if (i, j) in always else 3
    return found


def table_one_by_one(arrows):
    every = [others for others in turned(arrows) if say_the_same(arrows, others)]
    return table(arrows, {pair for pair in arrows if all(pair in others for others in every)})


def in_order(n, arrows):
    order = []
    while len(order) < n:
        order.append(min(node for node in range(n) if node not in order
                         and all(i in order for i, j in arrows if j == node)))
    return order


def table_by_labels(n, arrows):
    # The other usual way: node by node in the arrows' order, each arrow to it
    # is labelled once and for all by those to the node where it begins.
    order = in_order(n, arrows)
    sources = {node: [i for i in order if (i, node) in arrows] for node in order}
    always = {}
    for y in order:
        for x in reversed(sources[y]):
            if (x, y) not in always:
                label(sources, always, x, y)
    return table(arrows, {pair for pair, fixed in always.items() if fixed})


def label(sources, always, x, y):
    for w in sources[x]:
        if always[w, x]:
            if w not in sources[y]:
                always.update({(z, y): True for z in sources[y]})
                return
            always[w, y] = True
    fixed = any(z != x and z not in sources[x] for z in sources[y])
    for z in sources[y]:
        always.setdefault((z, y), fixed)


def some_numbers(seed):
    # Always the same ones, so that a failure comes back.
    while True:
        seed = (seed * 1103515245 + 12345) % 2147483648
        yield seed >> 16


def some_graph(n, count, seed):
    numbers = some_numbers(seed)
    order = sorted(range(n), key=lambda node: (next(numbers), node))
    pairs = sorted(itertools.combinations(order, 2), key=lambda pair: (next(numbers), pair))
    return pairs[:count]
