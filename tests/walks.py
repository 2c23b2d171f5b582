"""Rows that change what is being walked, told by a look at the syntax (L23 of the language, and L5 Iteration)."""

import ast

CHANGING = set("append clear extend insert pop remove reverse setdefault update sort add discard appendleft popleft "
               "extendleft rotate".split())
TAKING = {"extend", "update", "extendleft"}
SEEN_THROUGH = {"enumerate", "zip", "reversed", "iter"}
VIEWS = {"items", "keys", "values"}


def root_of(node):
    """The name, or the name and attributes, that an expression is a part of; None if it is a part of neither."""
    if isinstance(node, (ast.Subscript, ast.Starred)):
        return root_of(node.value)
    if isinstance(node, ast.Attribute):
        above = root_of(node.value)
        return None if above is None else above + "." + node.attr
    return node.id if isinstance(node, ast.Name) else None


def walked_roots(node):
    """The roots of all that a loop over this expression goes over without a copy."""
    if isinstance(node, ast.IfExp):
        return walked_roots(node.body) | walked_roots(node.orelse)
    if isinstance(node, ast.BoolOp):
        return set().union(*[walked_roots(value) for value in node.values])
    if isinstance(node, ast.Call):
        if isinstance(node.func, ast.Name) and node.func.id in SEEN_THROUGH:
            return set().union(*[walked_roots(value) for value in node.args])
        if isinstance(node.func, ast.Attribute) and node.func.attr in VIEWS:
            return walked_roots(node.func.value)
        return set()
    return {root_of(node)} - {None}


def is_called(node, names):
    return isinstance(node, ast.Call) and isinstance(node.func, ast.Attribute) and node.func.attr in names


def changes_in(nodes):
    """Pairs (root, line) of all that is changed in these nodes."""
    found = []
    for top in nodes:
        for node in ast.walk(top):
            targets = []
            if isinstance(node, ast.AugAssign):
                targets = [node.target]
            elif isinstance(node, (ast.Assign, ast.Delete)):
                targets = [target for target in node.targets if isinstance(target, ast.Subscript)]
            elif is_called(node, CHANGING):
                targets = [node.func.value]
            found.extend([(root_of(target), node.lineno) for target in targets])
    return found


def pairs_assigned(function):
    """Pairs (target, value) of plain assignments, those of tuples by their places."""
    for node in ast.walk(function):
        if isinstance(node, ast.Assign):
            for target in node.targets:
                if isinstance(target, ast.Tuple) and isinstance(node.value, ast.Tuple):
                    yield from zip(target.elts, node.value.elts)
                else:
                    yield target, node.value


def aliases(function):
    """The dict from each root to all roots that come under one another's names in the function."""
    groups = {}
    for target, value in pairs_assigned(function):
        one = root_of(target)
        # What stands in an item may be a list of its own: two names of one list are what counts here.
        for other in walked_roots(value) if isinstance(value, (ast.Name, ast.IfExp, ast.BoolOp)) else ():
            if one is not None:
                both = groups.get(one, {one}) | groups.get(other, {other})
                groups.update({name: both for name in both})
    return groups


def changed_walks(function):
    """The lines of a function that change what a loop or comprehension around them goes over."""
    groups, lines = aliases(function), []
    for node in ast.walk(function):
        walks = []
        if isinstance(node, ast.For):
            walks, inside = [node.iter], node.body
        elif isinstance(node, (ast.ListComp, ast.SetComp, ast.DictComp, ast.GeneratorExp)):
            walks, inside = [part.iter for part in node.generators], [node]
        walked = set().union(*[walked_roots(walk) for walk in walks])
        walked = set().union(*[groups.get(name, {name}) for name in walked])
        if walked:
            lines.extend([line for name, line in changes_in(inside) if name in walked])
    return lines


def named_bare(node):
    """The roots in an expression that stand in no call's arguments: these are walked as they are, not copies."""
    if isinstance(node, ast.Call):
        return named_bare(node.func.value) if isinstance(node.func, ast.Attribute) else set()
    own = {root_of(node)} - {None}
    return own.union(*[named_bare(piece) for piece in ast.iter_child_nodes(node)])


def fed_with_itself(function):
    """The lines in which extend, update, += or |= get what they change."""
    lines = []
    for node in ast.walk(function):
        if isinstance(node, ast.AugAssign) and root_of(node.target) in named_bare(node.value):
            lines.append(node.lineno)
        if is_called(node, TAKING):
            if root_of(node.func.value) in set().union(*[named_bare(value) for value in node.args]):
                lines.append(node.lineno)
    return lines


def faults(tree):
    """All such lines of a file, ascending."""
    found = set()
    for node in ast.walk(tree):
        if isinstance(node, ast.FunctionDef):
            found |= set(changed_walks(node)) | set(fed_with_itself(node))
    return sorted(found)
