"""The desk: it takes the calls on one graph of arrows and answers them.

A set of nodes is one whole number, the sum of 2 to each of its nodes.
"""

BEGIN = 0
NODES = 1
ARROW = 2
APART = 3
ROOTS = 4
ROUND = 5
LEAST = 6
SAME = 7
ALWAYS = 8

# By a call's number, how many whole numbers stand behind it. The one of same
# only says how long the row behind it is.
NUMBERS_BEHIND = (0, 1, 2, 3, 1, 1, 2, 1, 0)

MOST_NODES = 16
LONGEST_ROW = 240

WRONG_NUMBER = -1
WRONG_ARROW = -2
NO_SUCH_SET = -2
NO_NODES = -4

# What always tells of two nodes.
NOT_NEAR = 0
ALWAYS_TO = 1
ALWAYS_FROM = 2
EITHER_WAY = 3


class Graph:

    def __init__(self):
        # For each node the set of those from which an arrow leads to it:
        # most questions go against the arrows, so they are kept that way.
        self.sources = []


def has(nodes, node):
    return (nodes >> node) & 1 == 1


def members(nodes):
    return [node for node in range(nodes.bit_length()) if has(nodes, node)]


def is_node(graph, number):
    return 0 <= number and number < len(graph.sources)


def is_set(graph, number):
    return number >> len(graph.sources) == 0


def count_arrows(graph):
    return sum([len(members(nodes)) for nodes in graph.sources])


def spread(steps, start):
    reached = 0
    fresh = start
    while fresh != 0:
        reached = reached | fresh
        beyond = 0
        for node in members(fresh):
            beyond = beyond | steps[node]
        fresh = beyond & ~reached
    return reached


def comes_from(graph, nodes):
    return spread(graph.sources, nodes)


def links_within(graph, within):
    # A node and those with an arrow to it are all linked with one another.
    # Each is linked to itself here, too, which adds no way to anywhere.
    links = [0 for nodes in graph.sources]
    for node in members(within):
        family = (graph.sources[node] & within) | (1 << node)
        for relative in members(family):
            links[relative] = links[relative] | family
    return links


def held_apart(graph, first, second, third):
    links = links_within(graph, comes_from(graph, first | second | third))
    open_links = [nodes & ~third for nodes in links]
    return spread(open_links, first) & second == 0


def where_arrows_lead(graph):
    ends = [0 for nodes in graph.sources]
    for end, starts in enumerate(graph.sources):
        for start in members(starts):
            ends[start] = ends[start] | (1 << end)
    return ends


def nodes_near(graph):
    ends = where_arrows_lead(graph)
    return [starts | ends[node] for node, starts in enumerate(graph.sources)]


def nodes_round(graph, node):
    ends = where_arrows_lead(graph)[node]
    found = graph.sources[node] | ends
    for end in members(ends):
        found = found | graph.sources[end]
    return found & ~(1 << node)


def can_hold_apart(graph, first, second, free):
    # Asks whether any set of free nodes holds the two apart. If one does, then
    # so do all free ones where the two come from: a way past these stays where
    # the two come from, so it goes through no free node at all, and each link
    # of it is there with the other set, too.
    widest = comes_from(graph, first | second) & free
    return held_apart(graph, first, second, widest)


def least_between(graph, first, second):
    others = ((1 << len(graph.sources)) - 1) & ~first & ~second
    if not can_hold_apart(graph, first, second, others):
        return NO_SUCH_SET
    # A node counts for more than all below it together: so from the highest
    # down, each is left out that can be. Those that stay are in every set of
    # free nodes that holds the two apart.
    free = others
    for node in reversed(members(others)):
        without = free & ~(1 << node)
        if can_hold_apart(graph, first, second, without):
            free = without
    return free


def not_near(near, nodes, node):
    return nodes & ~near[node] & ~(1 << node)


def meeting_arrows(graph, near):
    found = []
    for end, starts in enumerate(graph.sources):
        for first in members(starts):
            for second in members(not_near(near, starts, first)):
                found.append((first, second, end))
    return found


def say_the_same(graph, other):
    near = nodes_near(graph)
    if nodes_near(other) != near:
        return False
    return meeting_arrows(graph, near) == meeting_arrows(other, near)


def must_lead(near, fixed, start, end):
    # Turned round, the arrow would meet one that always leads to start,
    if not_near(near, fixed[start], end) != 0:
        return True
    # or lead round by arrows that always lead so,
    if any([has(fixed[node], start) for node in members(fixed[end])]):
        return True
    # or make all of these lead to start, where two of them would meet.
    forced = near[start] & ~fixed[start] & fixed[end]
    return any([not_near(near, forced, node) != 0 for node in members(forced)])


def fixed_arrows(graph, near):
    # For each node the set of those from which an arrow always leads to it:
    # those that meet, and then, until there are no more, all that must lead so
    # because of others that do.
    fixed = [0 for nodes in graph.sources]
    for first, second, end in meeting_arrows(graph, near):
        fixed[end] = fixed[end] | (1 << first) | (1 << second)
    grown = True
    while grown:
        grown = False
        for end, starts in enumerate(graph.sources):
            loose = members(starts & ~fixed[end])
            for start in loose:
                if must_lead(near, fixed, start, end):
                    fixed[end] = fixed[end] | (1 << start)
                    grown = True
    return fixed


def way_between(fixed, node, other):
    if has(fixed[other], node):
        return ALWAYS_TO
    if has(fixed[node], other):
        return ALWAYS_FROM
    return EITHER_WAY


def begin(graph):
    graph.sources = []
    return 0


def lay_nodes(graph, count):
    if count < 1 or count > MOST_NODES:
        return WRONG_NUMBER
    graph.sources = [0 for node in range(count)]
    return 0


def draw_arrow(graph, start, end):
    if not is_node(graph, start) or not is_node(graph, end) or start == end:
        return WRONG_NUMBER
    if has(graph.sources[end], start) or has(comes_from(graph, 1 << start), end):
        return WRONG_ARROW
    before = count_arrows(graph)
    graph.sources[end] = graph.sources[end] | (1 << start)
    return before


def ask_apart(graph, first, second, third):
    if not is_set(graph, first | second | third):
        return WRONG_NUMBER
    if (first & second) | (first & third) | (second & third) != 0:
        return WRONG_NUMBER
    if first == 0 or second == 0:
        return WRONG_NUMBER
    return 1 if held_apart(graph, first, second, third) else 0


def ask_roots(graph, nodes):
    if not is_set(graph, nodes):
        return WRONG_NUMBER
    return comes_from(graph, nodes)


def ask_round(graph, node):
    if not is_node(graph, node):
        return WRONG_NUMBER
    return nodes_round(graph, node)


def ask_least(graph, first, second):
    if not is_node(graph, first) or not is_node(graph, second) or first == second:
        return WRONG_NUMBER
    return least_between(graph, 1 << first, 1 << second)


def graph_of_row(count, row):
    graph = Graph()
    lay_nodes(graph, count)
    for place in range(0, len(row), 2):
        if draw_arrow(graph, row[place], row[place + 1]) < 0:
            return None
    return graph


def ask_same(graph, row):
    if len(row) > LONGEST_ROW or len(row) % 2 == 1:
        return WRONG_NUMBER
    other = graph_of_row(len(graph.sources), row)
    if other is None:
        return WRONG_NUMBER
    return 1 if say_the_same(graph, other) else 0


def ask_always(graph):
    near = nodes_near(graph)
    fixed = fixed_arrows(graph, near)
    ways = [NOT_NEAR for place in range(MOST_NODES * MOST_NODES)]
    for node, others in enumerate(near):
        for other in members(others):
            ways[MOST_NODES * node + other] = way_between(fixed, node, other)
    return [0] + ways


def ask(graph, call, numbers):
    if call == ARROW:
        return draw_arrow(graph, numbers[0], numbers[1])
    if call == APART:
        return ask_apart(graph, numbers[0], numbers[1], numbers[2])
    if call == ROOTS:
        return ask_roots(graph, numbers[0])
    if call == ROUND:
        return ask_round(graph, numbers[0])
    if call == LEAST:
        return ask_least(graph, numbers[0], numbers[1])
    return ask_same(graph, numbers[1:])


def answer(graph, call, numbers):
    if call == BEGIN:
        return [begin(graph)]
    if call == NODES:
        return [lay_nodes(graph, numbers[0])]
    if len(graph.sources) == 0:
        return [NO_NODES]
    if call == ALWAYS:
        return ask_always(graph)
    return [ask(graph, call, numbers)]


def call_end(calls, place):
    end = place + 1 + NUMBERS_BEHIND[calls[place]]
    if calls[place] == SAME:
        return end + calls[place + 1]
    return end


def answers(calls):
    graph = Graph()
    told = []
    place = 0
    while place < len(calls):
        end = call_end(calls, place)
        numbers = answer(graph, calls[place], calls[place + 1:end])
        told.append(len(numbers))
        told.extend(numbers)
        place = end
    return told
