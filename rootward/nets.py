"""Nets: nodes that ask one another, each told with the list of its ups, None among these for the source."""

from rootward.checks import is_node, is_policy


def are_nodes(value):
    """Return whether any object is a dict, not empty, with nodes as its keys."""
    return isinstance(value, dict) and len(value) > 0 and all([is_node(node) for node in value])


def are_ups(value, net, node):
    """Return whether any object is the ups of a node: others of the net, ascending, perhaps None ahead of them."""
    if not isinstance(value, list) or len(value) == 0:
        return False
    others = value[1:] if value[0] is None else value
    if not all([is_node(up) and up in net and up != node for up in others]):
        return False
    return all([up < behind for up, behind in zip(others, others[1:])])


def led_to(ups):
    """Return a dict: to each node the list of the nodes that lead to it, itself only if it does so by others."""
    found = {node: [up for up in ups[node] if up is not None] for node in ups}
    for _ in ups:
        for node in ups:
            further = {other: True for up in found[node] for other in found[up] + [up]}
            found[node] = list(further)
    return found


def shortest_list(ups, begins, node):
    """Return a shortest list of nodes from one of some to a node, each among the ups of the next one; None without."""
    lists = [[node]]
    seen = {node: True}
    at = 0
    while at < len(lists):
        row = lists[at]
        if row[0] in begins:
            return list(row)
        for up in ups[row[0]]:
            if up is not None and up not in seen:
                seen[up] = True
                lists.append([up] + row)
        at += 1
    return None


def are_resolvers(value):
    """Return whether any object is a net of resolvers."""
    return are_nodes(value) and all([_is_resolver(row, value, node) for node, row in value.items()])


def _is_resolver(value, net, node):
    """Return whether any object is what a net of resolvers can have for a node."""
    if not isinstance(value, tuple) or len(value) != 2 or not is_policy(value[0]):
        return False
    ups = value[1]
    if not isinstance(ups, list) or len(ups) == 0:
        return False
    if not all([up is None or (is_node(up) and up in net and up != node) for up in ups]):
        return False
    return len({up: True for up in ups}) == len(ups)
