"""[0.1], [0.2] and [0.3], over the whole program: what its files promise together."""

import copy
import importlib
import inspect
import unittest

from plainglass.asking import inner, item, many, member
from plainglass.edits import add, add_member, cut, put
from plainglass.eights import eights, points
from plainglass.endings import ending
from plainglass.errors import Fault
from plainglass.feeds import Feed
from plainglass.grammar import fault
from plainglass.lines import line
from plainglass.nodes import nodes
from plainglass.numbers import exact, told_number, whole
from plainglass.patches import patched, size
from plainglass.pointers import node_there, parts, pointer, there
from plainglass.smalls import marks, small
from plainglass.strings import meant, told
from plainglass.values import alike, is_clean, is_value, value
from plainglass.writing import laid, written
from tests.model import TEXTS, changed_rows, cleaned, fault_of, made_texts, made_values, ordered, places, read

INTERFACE = {
    "eights": ("points row", "is_point point", "eight point", "eights numbers"),
    "grammar": ("fault row",),
    "endings": ("ending row",),
    "nodes": ("nodes row",),
    "asking": ("inner tree i", "many tree i", "item tree i k", "member row tree i name"),
    "strings": ("meant row tree i", "told numbers"),
    "numbers": ("exact row tree i", "whole number power", "told_number number power"),
    "values": ("value row", "is_value thing", "is_clean thing", "alike one other"),
    "writing": ("written thing", "laid thing step"),
    "pointers": ("parts numbers", "pointer names", "there thing names", "node_there row tree names"),
    "edits": ("put row names other", "cut row names", "add row names other", "add_member row names name other"),
    "patches": ("patched thing deeds", "size thing"),
    "differing": ("between one other",),
    "merging": ("merged one other", "merge_for one other"),
    "feeds": ("Feed",),
    "lines": ("line row at",),
    "smalls": ("small row", "marks row"),
}


class Interface(unittest.TestCase):
    def test_names_and_arguments(self):
        for file, rows in INTERFACE.items():
            module = importlib.import_module(f"plainglass.{file}")
            for row in rows:
                name, *arguments = row.split()
                self.assertEqual(list(inspect.signature(getattr(module, name)).parameters), arguments)


class Agreement(unittest.TestCase):
    # What is asked of nodes, of pointers and of values, at every node.
    def assert_agrees(self, row):
        row = list(row)
        tree = nodes(row)
        thing, model_tree = read(row)
        self.assertEqual(tree, model_tree)
        self.assertEqual(value(row), thing)
        self.assertTrue(is_value(thing))
        self.assertEqual(size(thing), len([node for node in tree if node[0] != "name"]))
        self.assertEqual(is_clean(thing), cleaned(thing) == thing)
        for names, found in places(thing):
            self.assertEqual(there(thing, names), found)
            self.assertEqual(parts(pointer(names)), list(names))
            self.assert_node(row, tree, node_there(row, tree, names), found)

    def assert_node(self, row, tree, i, found):
        kind, at, end, after = tree[i]
        self.assertEqual(value(row[at:end]), found)
        if kind == "number":
            self.assertEqual(("number",) + exact(row, tree, i), found)
            self.assertEqual(pair_in(told_number(*found[1:])), found[1:])
            if 0 <= found[2] <= 1000:
                self.assertEqual(whole(*found[1:]), found[1] * 10 ** found[2])
        elif kind == "text":
            self.assertEqual(("text", tuple(meant(row, tree, i))), found)
            self.assertEqual(points(eights(found[1])), list(found[1]))
        elif kind in ("row", "fields"):
            self.assertEqual((kind, many(tree, i), len(inner(tree, i))), (found[0], len(found[1]), len(found[1])))
            for k, within in enumerate(found[1]):
                node = tree[item(tree, i, k)]
                self.assertEqual(value(row[node[1]:node[2]]), within if kind == "row" else within[1])
                if kind == "fields":
                    first = [name for name, worth in found[1]].index(within[0])
                    self.assertEqual(member(row, tree, i, within[0]), item(tree, i, first))

    def test_texts(self):
        for text in TEXTS + tuple(made_texts(200, seed=31)):
            self.assert_agrees(text)

    def test_one_byte_changed(self):
        for text in TEXTS[20:38:5]:
            for row in changed_rows(text):
                if fault_of(row) is None:
                    self.assert_agrees(row)

    def test_what_is_written_is_read_to_the_same_value(self):
        for thing in [read(text)[0] for text in TEXTS] + made_values(300, seed=32):
            for step in range(9):
                self.assertEqual(value(laid(thing, step)), thing)
                self.assertEqual(small(laid(thing, step)), written(thing))
            self.assertEqual(value(written(thing)), thing)
            self.assertEqual(alike(cleaned(thing), ordered(cleaned(thing))), True)

    def test_endings_end(self):
        for text in made_texts(100, seed=33):
            for length in range(len(text)):
                cut_row = list(text[:length])
                whole_row = cut_row + ending(cut_row)
                self.assertIsNone(fault(whole_row))
                self.assertEqual(value(whole_row), read(whole_row)[0])

    def test_long_numbers(self):
        for number in (10 ** 3998 - 1, 1 - 10 ** 3998, 7 * 10 ** 3000 + 1):
            row = told_number(number, 0)
            self.assertLessEqual(len(row), 4000)
            self.assertEqual(value(row), ("number", number, 0))
            self.assertEqual(written(value(row)), row)
            self.assertTrue(is_value(("number", number, number)))
            feed = Feed()
            feed.take(row)
            feed.finish()
            self.assertEqual(feed.found, [("number", number, 0)])


def pair_in(row):
    return exact(row, nodes(row), 0)


class Faults(unittest.TestCase):
    def refused_at(self, function, *handed):
        try:
            function(*handed)
        except Fault as refusal:
            return refusal.at
        return None

    def feed_at(self, row):
        feed = Feed()
        at = self.refused_at(feed.take, row)
        return self.refused_at(feed.finish) if at is None else at

    def assert_one_place(self, row):
        row = list(row)
        at = fault_of(row)
        self.assertEqual(fault(row), at)
        self.assertEqual(self.refused_at(ending, row), at if at != len(row) else None)
        for function in (nodes, value):
            self.assertEqual(self.refused_at(function, row), at)
        one = list(b'{"a":[1]}')
        self.assertEqual(self.refused_at(put, one, [], row), at)
        self.assertEqual(self.refused_at(add, one, [(97,)], row), at)
        self.assertEqual(self.refused_at(add_member, one, [], [98], row), at)
        if at is not None:
            for function, rest in ((put, ([], [49])), (cut, ([(48,)],)), (add, ([], [49])), (add_member, ([], [97], [49]))):
                self.assertEqual(self.refused_at(function, row, *rest), at)
        # With no line end a run is one text, or none at all.
        if 10 not in row and not bytes(row).isspace() and row:
            self.assertEqual(self.feed_at(row), at)

    def test_one_byte_changed(self):
        for text in TEXTS[2:38:7] + tuple(made_texts(2, seed=34)):
            for row in changed_rows(text):
                self.assert_one_place(row)

    def test_cut(self):
        for text in TEXTS[:40] + tuple(made_texts(50, seed=35)):
            for length in range(len(text) + 1):
                self.assert_one_place(text[:length])

    def test_the_line_of_a_fault(self):
        row = list(b'{\n  "a": 1,\n  "b": 01\n}')
        self.assertEqual(line(row, fault(row)), (3, 9))


class Handed(unittest.TestCase):
    def calls(self):
        row = list(b' {"a":[1,{"b":null}],"c":"x"} ')
        tree = nodes(row)
        thing = value(row)
        names = [(97,), (48,)]
        return [
            (points, [row]), (eights, [[97, 233]]), (fault, [row]), (ending, [row[:9]]), (nodes, [row]), (inner, [tree, 0]),
            (many, [tree, 0]), (item, [tree, 0, 1]), (member, [row, tree, 0, [99]]), (meant, [row, tree, 1]), (told, [[97, 10]]),
            (exact, [row, tree, 3]), (value, [row]), (is_value, [["row", [thing]]]), (written, [thing]), (laid, [thing, 2]),
            (parts, [[47, 97]]), (pointer, [names]), (there, [thing, names]), (node_there, [row, tree, names]),
            (put, [row, names, [49]]), (cut, [row, names]), (add, [row, [(97,)], [49]]), (add_member, [row, [], [98], [49]]),
            (patched, [thing, [("remove", ((97,),))]]), (small, [row]), (marks, [row]), (line, [row, 3]), (Feed().take, [row]),
        ]

    def test_nothing_is_changed(self):
        for function, handed in self.calls():
            kept = copy.deepcopy(handed)
            function(*handed)
            self.assertEqual(handed, kept, function)

    def test_lists_that_are_given_are_new(self):
        for function, shared in self.calls():
            handed = copy.deepcopy(shared)
            given = function(*handed)
            if isinstance(given, list):
                self.assertFalse(any([given is part for part in handed]), function)
                kept = list(given)
                for part in handed:
                    if isinstance(part, list):
                        part.clear()
                self.assertEqual(given, kept, function)
                given.clear()
                self.assertEqual(function(*copy.deepcopy(shared)), kept, function)


if __name__ == "__main__":
    unittest.main()
