"""Many kinds and terms, made without chance, and a slow reading of points 4 to 6 beside the program."""

from itertools import product

A_B, K_C = (("a", 2), ("b", 3)), (("k", (("a", 2), ("b", 3))), ("c", 2))

KINDS = [0, 1, 2, 3, A_B, K_C, (("a", 2), ("b", 0)), (("x", 1), ("y", 2)), (("a", 1),), (("p", (("a", 2),)), ("q", 2)),
         (("m", (("n", (("o", 2), ("i", 1))),)), ("l", 3)), (("a", 2), ("b", 2), ("c", 2))]


def slow_things(kind):
    """Return all things of a kind, sorted by Python."""
    if isinstance(kind, int):
        return list(range(kind))
    return sorted(product(*[slow_things(part) for _, part in kind]))


def slow_leaves(kind, path=()):
    """Return all leaves of a kind, sorted by Python."""
    if isinstance(kind, int):
        return [path]
    return sorted(leaf for index, (_, part) in enumerate(kind) for leaf in slow_leaves(part, path + (index,)))


def at_path(thing, path):
    """Return what stands at a path in a thing."""
    for index in path:
        thing = thing[index]
    return thing


def slow_kind(kind, term):
    """Return the kind of the worths of a term."""
    word = term[0]
    if word == "whole":
        return kind
    if word == "part":
        return dict(kind)[term[1]]
    if word in ("fixed", "table"):
        return term[2]
    if word == "parts":
        return tuple((name, slow_kind(kind, inner)) for name, inner in term[1])
    if word == "then":
        return slow_kind(slow_kind(kind, term[1]), term[2])
    return slow_kind(kind, term[3 if word == "test" else 1])


def slow_shown(kind, term, thing):
    """Return what a term shows of a thing."""
    word = term[0]
    if word == "whole":
        return thing
    if word == "part":
        return thing[[name for name, _ in kind].index(term[1])]
    if word == "fixed":
        return term[1]
    if word == "table":
        return term[1][thing]
    if word == "parts":
        return tuple(slow_shown(kind, inner, thing) for _, inner in term[1])
    one = slow_shown(kind, term[1], thing)
    if word == "then":
        return slow_shown(slow_kind(kind, term[1]), term[2], one)
    if word == "test":
        return slow_shown(kind, term[3] if one in term[2] else term[4], thing)
    two = slow_shown(kind, term[2], thing)
    return (one + two if word == "sum" else one - two) % slow_kind(kind, term)


class Refused(Exception):
    """A put is refused at a path."""


def slow_inner(kind, term, place, inner, thing, worth):
    """Return what a put by a term in a term comes to."""
    try:
        return slow_come(kind, inner, thing, worth)
    except Refused as refused:
        raise Refused((place,) + refused.args[0]) from None


def slow_come(kind, term, thing, worth):
    """Return what a put comes to; raise Refused with the path where it is refused."""
    word = term[0]
    if word == "whole":
        return worth
    if word == "part":
        return tuple(worth if name == term[1] else part for (name, _), part in zip(kind, thing))
    if word in ("fixed", "table"):
        for other in [thing] + (slow_things(kind) if word == "table" else []):
            if slow_shown(kind, term, other) == worth:
                return other
        raise Refused(())
    if word == "then":
        middle = slow_kind(kind, term[1])
        part = slow_inner(middle, term[2], 1, term[2], slow_shown(kind, term[1], thing), worth)
        return slow_inner(kind, term, 0, term[1], thing, part)
    if word == "parts":
        came = thing
        for place, (_, inner) in enumerate(term[1]):
            came = slow_inner(kind, term, place, inner, came, worth[place])
    elif word == "test":
        place = 1 if slow_shown(kind, term[1], thing) in term[2] else 2
        came = slow_inner(kind, term, place, term[place + 2], thing, worth)
    else:
        two, many = slow_shown(kind, term[2], thing), slow_kind(kind, term)
        [number] = [number for number in range(many)
                    if (number + two if word == "sum" else number - two) % many == worth]
        came = slow_inner(kind, term, 0, term[1], thing, number)
    if slow_shown(kind, term, came) != worth:
        raise Refused(())
    return came


def slow_put(kind, term, thing, worth):
    """Return what a put comes to, as put_back tells it."""
    try:
        return ("thing", slow_come(kind, term, thing, worth))
    except Refused as refused:
        return ("refused", refused.args[0])


def tables_over(many):
    """Return some tables over an integer."""
    rows = [(tuple(number % to for number in range(many)), to) for to in (1, 2, 3)]
    rows += [(tuple((number * number + 1) % 3 for number in range(many)), 3), (tuple(reversed(range(many))), many)]
    return [("table", row, to) for row, to in rows] + ([("table", (), 0)] if many == 0 else [])


def small_terms(kind):
    """Return the terms of one word over a kind, that is some of them."""
    terms = [("whole",), ("fixed", 0, 1), ("fixed", 1, 2), ("fixed", 2, 3)]
    return terms + (tables_over(kind) if isinstance(kind, int) else [("part", word) for word, _ in kind])


def greater_terms(kind, inner):
    """Return the terms over a kind that have some terms directly in them."""
    terms = []
    shown = {term: slow_kind(kind, term) for term in inner}
    for one in inner:
        terms += [("then", one, two) for two in small_terms(shown[one])]
        terms.append(("parts", (("v", one),)))
        for two in inner:
            if shown[one] == shown[two] and isinstance(shown[one], int) and shown[one] > 0:
                terms += [("sum", one, two), ("less", one, two)]
            if not isinstance(shown[one], tuple) or not isinstance(shown[two], tuple):
                terms.append(("parts", (("v", one), ("u", two))))
            if isinstance(shown[one], int):
                numbers = [(), (0,), tuple(range(0, shown[one], 2))][:shown[one] + 1]
                terms += [("test", one, told, two, three) for told in numbers[-1:] for three in inner
                          if shown[two] == shown[three]]
    return terms


def every(values, most):
    """Return at most so many of some values, spread over all of them."""
    step = max(1, -(-len(values) // most))
    return values[::step]


def terms_over(kind, most=60):
    """Return many terms over a kind, of three sizes."""
    one = small_terms(kind)
    two = greater_terms(kind, one)
    three = greater_terms(kind, every(one, 4) + every(two, 12))
    return one + every(two, most) + every(three, most)


def slow_is_kind(value):
    """Return whether what is built of integers and pairs of words is a kind."""
    def depth(kind):
        return 0 if isinstance(kind, int) else 1 + max(depth(part) for _, part in kind)

    def count(kind):
        many = 1
        if isinstance(kind, int):
            return kind
        for _, part in kind:
            many *= count(part)
        return many

    parts = [] if isinstance(value, int) else [part for _, part in value]
    return depth(value) <= 3 and count(value) <= 512 and all(slow_is_kind(part) for part in parts)


def all_inner(kind, term):
    """Yield the pairs of each term in a term, itself too, with its path, and of the kind over which it stands."""
    yield (), term, kind
    word = term[0]
    inner = {"then": [1, 2], "sum": [1, 2], "less": [1, 2], "test": [1, 3, 4]}.get(word, [])
    parts = [part for _, part in term[1]] if word == "parts" else [term[index] for index in inner]
    for place, part in enumerate(parts):
        over = slow_kind(kind, term[1]) if word == "then" and place == 1 else kind
        for path, deeper, deeper_kind in all_inner(over, part):
            yield (place,) + path, deeper, deeper_kind


def slow_is_term(kind, term):
    """Return whether what is built as a term over a kind is none just for the kind of some worths."""
    return all(slow_is_kind(slow_kind(over, inner)) for _, inner, over in all_inner(kind, term))


def good_terms(kind, most=60):
    """Return many terms over a kind that surely are ones."""
    return [term for term in terms_over(kind, most) if slow_is_term(kind, term)]
