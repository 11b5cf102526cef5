"""Where ranges, zips and views stand in code: what rule L23 lists, here a little narrower."""

import ast

VIEWS = ("items", "keys", "values")
ITERATORS = ("range", "zip", "enumerate", "reversed")
# Calls that iterate over their first argument, or over their only one.
ON_THE_SPOT = ("list", "tuple", "dict", "sorted", "sum", "any", "all", "enumerate", "zip", "bytes")
ALONE = ("min", "max")
# Rule L2, Products: these iterate over what they are passed.
PRODUCTS = ("combinations", "permutations", "product")


def kind_of(node):
    """Which of the iterators a node calls, "view" for one of a dict; or None."""
    if isinstance(node, ast.Call) and isinstance(node.func, ast.Name) and node.func.id in ITERATORS:
        return node.func.id
    if isinstance(node, ast.Call) and isinstance(node.func, ast.Attribute) and node.func.attr in VIEWS:
        return "view"
    return None


def is_iterated_by_call(node, kind, call):
    """True if a call iterates over a node at once, or is one of the others that the rule lists."""
    if isinstance(call.func, ast.Attribute):
        return call.func.attr == "join" and isinstance(call.func.value, ast.Constant) and call.args == [node]
    word = call.func.id if isinstance(call.func, ast.Name) else ""
    if word in ON_THE_SPOT:
        return call.args[:1] == [node]
    if word in ALONE or (word == "len" and kind in ("range", "view")) or (word == "reversed" and kind == "range"):
        return call.args == [node]
    return word in PRODUCTS and node in call.args


def is_iterated(node, kind, parents):
    """True if a node stands where the rule lets one of its kind stand."""
    parent = parents[node]
    if isinstance(parent, (ast.For, ast.comprehension)):
        return parent.iter is node
    if isinstance(parent, ast.Call):
        return is_iterated_by_call(node, kind, parent)
    if isinstance(parent, ast.Compare) and isinstance(parent.ops[-1], (ast.In, ast.NotIn)):
        is_keys = kind == "view" and isinstance(node, ast.Call) and node.func.attr == "keys"
        return parent.comparators == [node] and (kind == "range" or is_keys)
    return False


def scopes(node, parents):
    """The functions, lambdas and generator expressions around a node, from within."""
    found = []
    while node in parents:
        node = parents[node]
        if isinstance(node, (ast.FunctionDef, ast.Lambda, ast.GeneratorExp)):
            found.append(node)
    return found


def is_used_well(name, function, parents):
    """True if a use of a kept range stands where the rule lets one stand."""
    parent = parents[name]
    in_zip = isinstance(parent, ast.Call) and isinstance(parent.func, ast.Name) and parent.func.id == "zip"
    by_index = isinstance(parent, ast.Subscript) and parent.value is name and not isinstance(parent.slice, ast.Slice)
    well = in_zip or by_index or is_iterated(name, "range", parents)
    return well and scopes(name, parents)[0] is function


def is_kept_well(node, parents):
    """True if a range is assigned once to a local variable, and all uses of that are as the rule says."""
    parent = parents[node]
    around = scopes(node, parents)
    if kind_of(node) != "range" or not isinstance(parent, ast.Assign) or not around:
        return False
    if len(parent.targets) != 1 or not isinstance(parent.targets[0], ast.Name):
        return False
    word = parent.targets[0].id
    names = [name for name in ast.walk(around[0]) if isinstance(name, ast.Name) and name.id == word]
    stored = [name for name in names if not isinstance(name.ctx, ast.Load)]
    parameters = [arg for arg in ast.walk(around[0]) if isinstance(arg, ast.arg) and arg.arg == word]
    return len(stored) == 1 and not parameters and all(
        is_used_well(name, around[0], parents) for name in names if isinstance(name.ctx, ast.Load))


def misplaced(text):
    """The rows of a text of code, ascending, in which a range, zip, enumerate, reversed or view is out of place."""
    tree = ast.parse(text)
    parents = {child: node for node in ast.walk(tree) for child in ast.iter_child_nodes(node)}
    return sorted([node.lineno for node in ast.walk(tree) if kind_of(node) and
                   not is_iterated(node, kind_of(node), parents) and not is_kept_well(node, parents)])
