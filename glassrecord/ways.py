"""Ways along lines: which points they reach, and which they can't go round."""


def neighbours_of(drawing):
    rows = [[] for point in drawing.points]
    for a, b in drawing.lines:
        rows[a].append(b)
        rows[b].append(a)
    return rows


def first_loose(neighbours):
    for number, row in enumerate(neighbours):
        if len(row) < 2:
            return number
    return None


# Goes from point 0 as deep as it can before it turns back, and tells for each
# point that is reached, in that order, from which one it came.
def walk_deep(neighbours):
    came_from = {0: None}
    tried = [0 for row in neighbours]
    path = [0]
    while path:
        here = path[-1]
        if tried[here] == len(neighbours[here]):
            path.pop()
            continue
        there = neighbours[here][tried[here]]
        tried[here] += 1
        if there not in came_from:
            came_from[there] = here
            path.append(there)
    return came_from


def first_unreached(neighbours, came_from):
    for number in range(len(neighbours)):
        if number not in came_from:
            return number
    return None


# For each point the earliest one that a way reaches which goes on from it
# deeper and then takes one line back. A deep walk leaves no other lines.
def earliest_back(neighbours, came_from):
    order = list(came_from)
    rank = [0 for row in neighbours]
    for position, number in enumerate(order):
        rank[number] = position
    earliest = list(rank)
    for here in reversed(order):
        for there in neighbours[here]:
            back = earliest[there] if came_from[there] == here else rank[there]
            if back < earliest[here]:
                earliest[here] = back
    return (rank, earliest)


# Where all points are reached from point 0.
def first_cut(neighbours, came_from):
    ranks = earliest_back(neighbours, came_from)
    rank = ranks[0]
    earliest = ranks[1]
    begun_at_first = 0
    cuts = []
    for number in list(came_from)[1:]:
        above = came_from[number]
        if above == 0:
            begun_at_first += 1
        elif earliest[number] >= rank[above]:
            cuts.append(above)
    if begun_at_first > 1:
        return 0
    return min(cuts, default=None)
