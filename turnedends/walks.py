"""Reading all texts of a kind at once: nodes that tell all that matters of what was read.

A walk is an object with these methods: `first()` is the node behind the empty text, `signs(node)` are the signs
that can come behind a node, `behind(node, sign)` is the node behind one of them, `is_fine(node)` tells whether
nothing is wrong there, and `is_node(node)` whether what somebody has handed in is a node at all.

Some walks have costs, too: `steps(node)` are triples of a node behind a node, what it costs to come there, 0 or 1,
and the sign that is read by this, or an empty text; and `is_end(node)` tells whether a walk may end there.
"""


def search(walk):
    """Returns the list of all nodes, each once, and None; or None and a shortest text behind which one is not fine."""
    found = {walk.first(): True}
    level = [(walk.first(), "")]
    while level:
        longer = []
        for node, text in level:
            if not walk.is_fine(node):
                return None, text
            for sign in walk.signs(node):
                behind = walk.behind(node, sign)
                if behind not in found:
                    found[behind] = True
                    longer.append((behind, text + sign))
        level = longer
    return list(found), None


def is_closed(walk, nodes):
    """Returns whether nodes are fine ones, the first one is among them, and all behind each of them are."""
    if not all([walk.is_node(node) for node in nodes]):
        return False
    # A dict, as a node may stand in the list more than once.
    found = {node: True for node in nodes}
    if walk.first() not in found:
        return False
    for node in found:
        if not walk.is_fine(node):
            return False
        for sign in walk.signs(node):
            if walk.behind(node, sign) not in found:
                return False
    return True


def _steps_ahead(walk):
    """Returns a dict from all nodes that come about to lists of the nodes directly ahead, each with its cost."""
    found = {walk.first(): []}
    waiting = [walk.first()]
    while waiting:
        node = waiting.pop()
        for behind, cost, _ in walk.steps(node):
            if behind not in found:
                found[behind] = []
                waiting.append(behind)
            found[behind].append((node, cost))
    return found


def costs_to_end(walk):
    """Returns a dict from all nodes that come about to the least cost to an end, None where none can be reached."""
    ahead = _steps_ahead(walk)
    found = {node: None for node in ahead}
    level = [node for node in ahead if walk.is_end(node)]
    cost = 0
    while level:
        costlier = []
        while level:
            node = level.pop()
            if found[node] is None:
                found[node] = cost
                level += [before for before, more in ahead[node] if more == 0]
                costlier += [before for before, more in ahead[node] if more == 1]
        level = costlier
        cost += 1
    return found
