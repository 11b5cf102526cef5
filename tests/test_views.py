"""The look at ranges, zips and views of tests/views.py itself: what rule L23 lists, and what it does not."""

from support import Case
from views import misplaced

# Lines of a function that has the lists xs and ys, the dict d and the number k.
IN_PLACE = [
    "for x in range(k): pass", "for x, y in zip(xs, ys): pass", "xs = [x for x in reversed(xs)]",
    "xs = {x: y for x, y in d.items()}", "xs.extend(list(range(0, k, 2)))", "xs = list(d.values())", "xs = tuple(range(k))",
    "xs = dict(zip(xs, ys))", "xs = sorted(d.items())", "k = sum(range(k))", "k = any(d.values())", "k = all(d.values())",
    "for k, (x, y) in enumerate(zip(xs, ys)): pass", "for x, y in zip(range(k), ys): pass", "k = min(d.values())",
    "k = max(range(1, k))", "xs = ''.join(d.keys())", "k = len(range(k))", "k = len(d.items())",
    "for x in reversed(range(k)): pass", "k = 3 in range(k)", "k = 3 not in range(k)", "k = 3 in d.keys()",
    "for x in permutations(range(k)): pass", "for x in product(range(k), range(3)): pass",
    "r = range(k)\n    for x in r: ys.append(r[x] in r)\n    xs = list(zip(ys, r))"]
OUT_OF_PLACE = [
    "xs.extend(range(0, k, 2))", "xs.extend(d.values())", "xs.extend(zip(xs, ys))", "xs.extend(reversed(xs))",
    "xs.extend(enumerate(xs))", "xs += range(k)", "return range(k)", "return d.items()", "xs = [range(k)]",
    "xs = [*range(k)]", "xs = (*d.values(), 1)", "xs[1:2] = range(k)", "k = set(d.values())", "k = len(zip(xs, ys))",
    "k = len(list(xs), range(k))", "for x in reversed(d.items()): pass", "for x in reversed(enumerate(xs)): pass",
    "k = range(k) == range(3)", "k = d.keys() == xs", "k = 3 in d.values()", "k = 3 in zip(xs, ys)",
    "k = min(range(k), xs)", "for x in zip(xs, range(k)): pass", "k = other(range(k))", "k = ys.join(d.keys())",
    "a, b = zip(xs, ys)", "a, b = range(2)", "k = d.items() or 1", "r = s = range(k)", "xs[0] = range(k)",
    "r = zip(xs, ys)\n    return r", "r = range(k)\n    return r", "r = range(k)\n    xs = r[1:2]",
    "r = range(k)\n    r = 3", "r = range(k)\n    xs.extend(r)", "r = range(k)\n    return any(x in r for x in xs)",
    "r = range(k)\n    return lambda x: x in r", "k = range(4)", "if range(k): pass", "xs = xs + list(xs, d.keys())"]


def function_of(line):
    """A function with this line as its second row."""
    return f"def f(xs, ys, d, k):\n    {line}\n"


class ViewsTest(Case):
    """Rule L23."""

    def test_in_place(self):
        for line in IN_PLACE:
            self.assertEqual(misplaced(function_of(line)), [], line)

    def test_out_of_place(self):
        for line in OUT_OF_PLACE:
            self.assertEqual(sorted(set(misplaced(function_of(line)))), [2], line)

    def test_module_level(self):
        self.assertEqual(misplaced("ROWS = range(3)\n"), [1])
        self.assertEqual(misplaced("ROWS = 3\n\n\ndef f():\n    return zip()\n"), [5])
