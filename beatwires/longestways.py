"""Ways that go on from number to number: how long they can be, or a ring in which they never end."""


def longest_ways(graph, begins):
    """The dict from the numbers on ways to how many there are at most from each on, and None if no way is a ring.

    Otherwise the second thing is a way from one of the begins, the last number of which leads to the one told third.
    """
    heights = {}
    for begin in begins:
        if begin not in heights:
            way, back = follow_ways(graph, begin, heights)
            if way:
                return heights, way, back
    return heights, [], None


def follow_ways(graph, begin, heights):
    """Puts the heights from a number on into a dict; returns a way and what its last number leads back to."""
    behind = {begin: graph.later(begin)}
    left = {begin: list(behind[begin])}
    way = [begin]
    while way:
        number = way[-1]
        if not left[number]:
            heights[number] = 1 + max([heights[heir] for heir in behind[number]], default=0)
            del left[number], behind[number]
            way.pop()
            continue
        heir = left[number].pop()
        if heir in left:
            return way, heir
        if heir not in heights:
            behind[heir] = graph.later(heir)
            left[heir] = list(behind[heir])
            way.append(heir)
    return [], None


def falling_way(graph, heights, begin):
    """A way of as many numbers as the height of its first one is."""
    way = [begin]
    while heights[way[-1]] > 1:
        below = heights[way[-1]] - 1
        way.append([heir for heir in graph.later(way[-1]) if heights[heir] == below][0])
    return way
