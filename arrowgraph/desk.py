"""The desk: it takes the calls on one graph of arrows and answers them.

A set of nodes is one whole number, the sum of 2 to each of its nodes.
"""

BEGIN = 0
NODES = 1
ARROW = 2
APART = 3
ROOTS = 4
SAME = 7

# By a call's number, how many whole numbers stand behind it. The one of same
# only says how long the row behind it is.
NUMBERS_BEHIND = (0, 1, 2, 3, 1, 1, 2, 1, 0)

MOST_NODES = 16

WRONG_NUMBER = -1
WRONG_ARROW = -2
NO_NODES = -4


class NotBuilt(Exception):
    pass


class Graph:

    def __init__(self):
        # For each node the set of those from which an arrow leads to it:
        # every question goes against the arrows, so they are kept that way.
        self.sources = []


def has(nodes, node):
    return (nodes >> node) & 1 == 1


def members(nodes):
    return [node for node in range(nodes.bit_length()) if has(nodes, node)]


def is_node(graph, number):
    return 0 <= number and number < len(graph.sources)


def is_set(graph, number):
    return number >> len(graph.sources) == 0


def count_arrows(graph):
    return sum([len(members(nodes)) for nodes in graph.sources])


def spread(steps, start):
    # A way that passes no node twice has fewer steps than there are nodes,
    # so as many rounds as nodes reach all there is to reach.
    reached = start
    for turn in range(len(steps)):
        known = members(reached)
        for node in known:
            reached = reached | steps[node]
    return reached


def comes_from(graph, nodes):
    return spread(graph.sources, nodes)


def links_within(graph, within):
    # A node and those with an arrow to it are all linked with one another.
    # Each is linked to itself here, too, which adds no way to anywhere.
    links = [0 for nodes in graph.sources]
    for node in members(within):
        family = (graph.sources[node] & within) | (1 << node)
        for relative in members(family):
            links[relative] = links[relative] | family
    return links


def held_apart(graph, first, second, third):
    links = links_within(graph, comes_from(graph, first | second | third))
    open_links = [nodes & ~third for nodes in links]
    return spread(open_links, first) & second == 0


def begin(graph):
    graph.sources = []
    return 0


def lay_nodes(graph, count):
    if count < 1 or count > MOST_NODES:
        return WRONG_NUMBER
    graph.sources = [0 for node in range(count)]
    return 0


def draw_arrow(graph, start, end):
    if not is_node(graph, start) or not is_node(graph, end) or start == end:
        return WRONG_NUMBER
    if has(graph.sources[end], start) or has(comes_from(graph, 1 << start), end):
        return WRONG_ARROW
    before = count_arrows(graph)
    graph.sources[end] = graph.sources[end] | (1 << start)
    return before


def ask_apart(graph, first, second, third):
    if not is_set(graph, first | second | third):
        return WRONG_NUMBER
    if (first & second) | (first & third) | (second & third) != 0:
        return WRONG_NUMBER
    if first == 0 or second == 0:
        return WRONG_NUMBER
    return 1 if held_apart(graph, first, second, third) else 0


def ask_roots(graph, nodes):
    if not is_set(graph, nodes):
        return WRONG_NUMBER
    return comes_from(graph, nodes)


def answer(graph, call, numbers):
    if call == BEGIN:
        return begin(graph)
    if call == NODES:
        return lay_nodes(graph, numbers[0])
    if len(graph.sources) == 0:
        return NO_NODES
    if call == ARROW:
        return draw_arrow(graph, numbers[0], numbers[1])
    if call == APART:
        return ask_apart(graph, numbers[0], numbers[1], numbers[2])
    if call == ROOTS:
        return ask_roots(graph, numbers[0])
    raise NotBuilt()


def call_end(calls, place):
    end = place + 1 + NUMBERS_BEHIND[calls[place]]
    if calls[place] == SAME:
        return end + calls[place + 1]
    return end


def answers(calls):
    graph = Graph()
    told = []
    place = 0
    while place < len(calls):
        end = call_end(calls, place)
        told.append(1)
        told.append(answer(graph, calls[place], calls[place + 1:end]))
        place = end
    return told
