"""Groups: places that lead to each other."""


def group_numbers(goals):
    """Returns the list that has for each place the number of its group.

    goals has for each place the list of the places to which its steps lead. Two places are of one group if each leads
    to the other. A step leads to the same group or to one with a greater number.
    """
    before = [[] for _ in goals]
    for at, found in enumerate(goals):
        for goal in found:
            before[goal].append(at)
    groups = [-1 for _ in goals]
    count = 0
    for first in finishing_order(goals)[::-1]:
        if groups[first] >= 0:
            continue
        groups[first] = count
        waiting = [first]
        while waiting:
            at = waiting.pop()
            for earlier in before[at]:
                if groups[earlier] < 0:
                    groups[earlier] = count
                    waiting.append(earlier)
        count += 1
    return groups


def finishing_order(goals):
    """Returns the list of the places in the order in which a search into the depth is finished with them."""
    order = []
    seen = [False for _ in goals]
    for first in range(len(goals)):
        if seen[first]:
            continue
        seen[first] = True
        waiting = [(first, 0)]
        while waiting:
            at, tried = waiting.pop()
            if tried == len(goals[at]):
                order.append(at)
                continue
            waiting.append((at, tried + 1))
            goal = goals[at][tried]
            if not seen[goal]:
                seen[goal] = True
                waiting.append((goal, 0))
    return order
