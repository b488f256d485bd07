"""Reading all texts of a kind at once: nodes that tell all that matters of what was read.

A walk is an object with these methods: `first()` is the node behind the empty text, `signs(node)` are the signs
that can come behind a node, `behind(node, sign)` is the node behind one of them, `is_fine(node)` tells whether
nothing is wrong there, and `is_node(node)` whether what somebody has handed in is a node at all.
"""


def search(walk):
    """Returns the list of all nodes, each once, and None; or None and a shortest text behind which one is not fine."""
    found = {walk.first(): True}
    level = [(walk.first(), "")]
    while level:
        longer = []
        for node, text in level:
            if not walk.is_fine(node):
                return None, text
            for sign in walk.signs(node):
                behind = walk.behind(node, sign)
                if behind not in found:
                    found[behind] = True
                    longer.append((behind, text + sign))
        level = longer
    return list(found), None


def is_closed(walk, nodes):
    """Returns whether nodes are fine ones, the first one is among them, and all behind each of them are."""
    if not all([walk.is_node(node) for node in nodes]):
        return False
    # A dict, as a node may stand in the list more than once.
    found = {node: True for node in nodes}
    if walk.first() not in found:
        return False
    for node in found:
        if not walk.is_fine(node):
            return False
        for sign in walk.signs(node):
            if walk.behind(node, sign) not in found:
                return False
    return True
