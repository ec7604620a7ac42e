import unittest
from functools import lru_cache

from puttingback.errors import InvalidItem, InvalidItemText, InvalidSort
from puttingback.itemtexts import item_text, read_item
from puttingback.sorts import count_items, item_at
from tests.asking import Asking
from tests.samples import every
from tests.sortsamples import GREAT, SORTS, U, V, slow_items, slow_text, spread
from tests.values import odd_values

SIGNS = "0123456789()[] :abcxyz,-\n~A"


def slow_read(texts, text):
    """Return what reading a string comes to: an item, or the index of the sign that goes wrong."""
    if text in texts:
        return ("item", texts[text])
    for end in range(1, len(text) + 1):
        if not any(one.startswith(text[:end]) for one in texts):
            return ("wrong", end - 1)
    return ("wrong", len(text))


def reach(sort, text, at):
    """Return where items of a sort, one with items, may end in a string from an index on, and how far one may go.

    All ways are gone through, whatever comes first, in sorts of any number of items.
    """
    if isinstance(sort, int):
        return reach_strings([str(number) for number in range(sort)], text, at)
    if sort[0] == "set":
        return reach_set(sort[1], text, at)
    if sort[0] == "one":
        ends, far = set(), at
        for word, inner in sort[1]:
            if count_items(inner):
                heads, head_far = reach_strings([word + ":"], text, at)
                tails = [reach(inner, text, head) for head in heads]
                ends |= {end for tail in tails for end in tail[0]}
                far = max([far, head_far] + [tail[1] for tail in tails])
        return ends, far
    heads, far = reach_strings(["("], text, at)
    for index, inner in enumerate(sort[1]):
        heads, far = reach_next(lambda head: reach(inner, text, head), heads, far)
        sign = ")" if index == len(sort[1]) - 1 else " "
        heads, far = reach_next(lambda head: reach_strings([sign], text, head), heads, far)
    return (heads, far) if sort[1] else reach_strings(["()"], text, at)


def reach_next(step, heads, far):
    """Return where one more step may end, and how far it may go."""
    tails = [step(head) for head in heads]
    return {end for tail in tails for end in tail[0]}, max([far] + [tail[1] for tail in tails])


def shared_signs(one, text, at):
    """Return with how many signs a string from an index on begins as another one."""
    many = 0
    while many < len(one) and at + many < len(text) and one[many] == text[at + many]:
        many += 1
    return many


def reach_strings(strings, text, at):
    """Return where some strings may end in a string from an index on, and how far one may go."""
    shared = [shared_signs(one, text, at) for one in strings]
    return {at + len(one) for one, many in zip(strings, shared) if many == len(one)}, at + max(shared)


@lru_cache(maxsize=None)
def member_texts(sort):
    """Return the texts of all items of a sort."""
    return [slow_text(sort, item_at(sort, number)) for number in range(count_items(sort))]


def reach_set(inner, text, at):
    """Return where sets of items of a sort may end, and how far one may go."""
    texts = member_texts(inner)
    heads, far = reach_strings(["["], text, at)
    ends, tail_far = reach_strings(["[]"], text, at)
    far = max(far, tail_far)
    states = [(head, 0) for head in heads]
    while states:
        head, least = states.pop()
        for number in range(least, len(texts)):
            stops, stop_far = reach_strings([texts[number] + "]"], text, head)
            ends |= stops
            far = max(far, stop_far)
            if number + 1 < len(texts):
                steps, step_far = reach_strings([texts[number] + " "], text, head)
                states += [(step, number + 1) for step in steps]
                far = max(far, step_far)
    return ends, far


class Texts(Asking):
    def reads(self, sort, text, expected):
        """Hold that reading a string comes to what is expected."""
        if expected[0] == "item":
            self.assertEqual(repr(read_item(sort, text)), repr(expected[1]))
        else:
            self.assertEqual(self.refused(InvalidItemText, read_item, sort, text).at, expected[1], (sort, text))


class Examples(Texts):
    def test_as_they_stand(self):
        self.assertEqual([item_text(U, (1, ("b", ()))), item_text(V, ("", 0, 2)), read_item(U, "(1 a:2)"),
                          read_item(V, "[]")], ["(1 b:())", "[0 2]", (1, ("a", 2)), ("",)])
        self.reads(V, "[2 0]", ("wrong", 2))


class SmallSorts(Texts):
    def test_texts_are_read_back(self):
        for sort in SORTS:
            texts = set()
            for item in slow_items(sort):
                text = item_text(sort, item)
                self.assertEqual(text, slow_text(sort, item))
                self.assertNotIn(text, texts)
                texts.add(text)
                self.reads(sort, text, ("item", item))

    def test_short_strings(self):
        strings = [""]
        for _ in range(3):
            strings += [text + sign for text in strings if len(text) == len(strings[-1]) for sign in "019()[ :a]b"]
        for sort in SORTS:
            texts = {slow_text(sort, item): item for item in slow_items(sort)}
            if len(texts) <= 260:
                for text in strings:
                    self.reads(sort, text, slow_read(texts, text))

    def test_texts_that_end_early_go_on_or_go_wrong(self):
        for sort in SORTS:
            items = slow_items(sort)
            texts = {slow_text(sort, item): item for item in items}
            for number in spread(len(items), 4) if len(items) <= 260 else []:
                text = slow_text(sort, items[number])
                for at in range(len(text) + 1):
                    self.reads(sort, text[:at], slow_read(texts, text[:at]))
                    for sign in SIGNS:
                        for changed in (text[:at] + sign, text[:at] + sign + text[at:], text[:at] + sign + text[at + 1:]):
                            self.reads(sort, changed, slow_read(texts, changed))


class GreatSorts(Texts):
    def test_texts_are_read_back(self):
        for sort in GREAT:
            for number in spread(count_items(sort), 8):
                item = item_at(sort, number)
                text = item_text(sort, item)
                self.assertEqual(text, slow_text(sort, item))
                self.reads(sort, text, ("item", item))

    def test_texts_that_end_early_go_on_or_go_wrong(self):
        for sort in GREAT:
            for number in [count_items(sort) // 3 + 1, count_items(sort) - 2]:
                text = item_text(sort, item_at(sort, number))
                for at in every(list(range(len(text) + 1)), 12):
                    self.slowly(sort, text[:at])
                    for sign in SIGNS[at % 2::4] + "] )1":
                        self.slowly(sort, text[:at] + sign + text[at:])
                        self.slowly(sort, text[:at] + sign + text[at + 1:])

    def slowly(self, sort, text):
        """Hold that reading a string comes to what a slow search tells."""
        ends, far = reach(sort, text, 0)
        if len(text) in ends:
            self.assertEqual(item_text(sort, read_item(sort, text)), text)
        else:
            self.reads(sort, text, ("wrong", far))

    def test_the_slow_search_tells_as_all_texts_do(self):
        for sort in SORTS:
            texts = {slow_text(sort, item): item for item in slow_items(sort)}
            for text in every(list(texts), 5) if len(texts) <= 64 else []:
                for changed in [text[:2], text + " ", text[:-1] + "1", "1" + text[1:], text[1:], text.replace("1", "2")]:
                    ends, far = reach(sort, changed, 0)
                    told = slow_read(texts, changed)
                    self.assertEqual(told[0] == "item", len(changed) in ends)
                    if told[0] == "wrong":
                        self.assertEqual(told[1], far)


class Edges(Texts):
    def test_figures(self):
        for text, at in [("00", 1), ("01", 1), ("13", 1), ("120", 2), ("1 ", 1), ("", 0), ("-1", 0), ("+1", 0), (" 1", 0),
                         ("1\n", 1), ("a", 0), ("_", 0), ("1_0", 1)]:
            self.reads(13, text, ("wrong", at))
        for text in ("0", "9", "10", "12"):
            self.reads(13, text, ("item", int(text)))
        for limit, text, at in [(1, "1", 0), (10, "10", 1), (11, "11", 1), (30, "30", 1), (30, "29", None), (20, "20", 1)]:
            self.reads(limit, text, ("item", int(text)) if at is None else ("wrong", at))

    def test_figures_in_sets(self):
        sort = ("set", 13)
        for text, at in [("[3 1]", 4), ("[3 2]", 3), ("[3 12 ", 5), ("[12 ", 3), ("[3 13", 4), ("[3  4]", 3), ("[3 ]", 3),
                         ("[3 3]", 3), ("[ 3]", 1), ("[3", 2), ("[3 1", 4), ("[", 1), ("[]]", 2), ("[3,4]", 2), ("[10 1", 5),
                         ("[10 1]", 5), ("[10 10]", 5), ("[11 0", 4), ("[9 1", 4), ("[9 2", 3), ("[1 10 11 12]x", 12)]:
            self.reads(sort, text, ("wrong", at))
        self.reads(sort, "[1 10 11 12]", ("item", ("", 1, 10, 11, 12)))

    def test_words(self):
        sort = ("one", (("ab", 2), ("a", 12), ("abc", 1), ("bc", ("row", (2, 0)))))
        for text, at in [("b:0", 0), ("bc:", 0), ("a", 1), ("ab", 2), ("abcd", 3), ("ac", 1), ("a:", 2), ("a:2", None),
                         ("ab:2", 3), ("abc:1", 4), ("abc0", 3), ("a:12", 3), ("A:0", 0), ("ab :0", 2), ("a0", 1)]:
            self.reads(sort, text, ("item", ("a", 2)) if at is None else ("wrong", at))

    def test_sorts_without_items(self):
        for sort in (0, ("row", (2, 0)), ("one", ()), ("one", (("a", 0),)), ("row", (("set", 3), ("one", ())))):
            for text in ("", "(", "0", "a:0", "(0"):
                self.reads(sort, text, ("wrong", 0))

    def test_empty_ones(self):
        self.assertEqual([read_item(("row", ()), "()"), read_item(("set", 0), "[]"), item_text(("row", ()), ())],
                         [(), ("",), "()"])
        for sort, text, at in [(("row", ()), "( )", 1), (("row", ()), "(", 1), (("set", 0), "[0]", 1), (("set", 0), "[ ]", 1),
                               (("row", (1,)), "()", 1), (("row", (1,)), "(0 0)", 2), (("row", (1, 1)), "(0)", 2)]:
            self.reads(sort, text, ("wrong", at))

    def test_longest_strings(self):
        self.reads(V, "[" * 4000, ("wrong", 1))
        self.reads(("row", (V,) * 6), "([] " + "[0 1 2] " * 400, ("wrong", 43))

    def test_what_is_no_string(self):
        for value in odd_values():
            if not isinstance(value, str):
                self.reads(V, value, ("wrong", 0))
                self.reads(0, value, ("wrong", 0))


class Errors(Asking):
    def test_order(self):
        for sort in (None, True, 31, ("row", [2])):
            self.refused(InvalidSort, item_text, sort, None)
            self.refused(InvalidSort, read_item, sort, None)
        for item in (None, True, ("", 1, 0), ["", 1], ()):
            self.refused(InvalidItem, item_text, V, item)


if __name__ == "__main__":
    unittest.main()
