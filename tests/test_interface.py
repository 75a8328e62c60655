"""The names, the arguments and the places of all that the document's interface lists so far."""

import importlib
import inspect
import unittest

from galloon.deeds import Deed
from galloon.mends import Mend
from galloon.passes import Pass

# For each module the functions and classes with their arguments; `class` lists a class with its methods.
INTERFACE = """
schemes: class Scheme(rows, colours) spots(column) column(spots) picture(strip) of_picture(lines) is_strip(text)
schemes: class Scheme(rows, colours) colour_at(strip, row, at) recoloured(strip, row, at, colour) check(text)
schemes: class Scheme(rows, colours) __eq__(other) __len__()
strips: shortlex(strips) strips_of(scheme, length) mirrored(strip) turned(strip, by) least_turn(strip)
strips: rings_of(scheme, length)
bales: class Bale(scheme, rows, goods) every(scheme) none(scheme) listed(scheme, strips) shaped(scheme, pattern)
bales: class Bale(scheme, rows, goods) showing(scheme, strip, at, *, from_end) first() strips(most) how_many(length)
bales: class Bale(scheme, rows, goods) of_length(length) within(other) mirrored() starred() cut(front, back) parts()
bales: class Bale(scheme, rows, goods) lengths() __eq__(other) __contains__(text) __and__(other) __or__(other)
bales: class Bale(scheme, rows, goods) __sub__(other) __xor__(other) __invert__() __add__(other) __bool__()
bales: differing(first, second)
looms: class Loom(scheme, arcs, goods) identity(scheme) every(scheme) none(scheme) of_pairs(scheme, pairs)
looms: class Loom(scheme, arcs, goods) crossed(first, second) on(bale) into(bale) image(bale) source(bale) domain()
looms: class Loom(scheme, arcs, goods) mirrored() repeated(times) framed(front, back) says(before, after)
looms: class Loom(scheme, arcs, goods) count_outs(strip) outs(strip) first_out(strip) sure_lines(strip) within(other)
looms: class Loom(scheme, arcs, goods) __eq__(other) __len__() __bool__() __mul__(other) __or__(other) __and__(other)
looms: class Loom(scheme, arcs, goods) __sub__(other) __invert__()
questions: several(loom) melted(loom, bale) lost_row(loom, bale, row) left_out(loom, bale)
questions: unreached(loom, bale, wanted) parted(first, second, bale) cycle(loom, most)
closed: pairs_hold(first, second, rows) pair_rows(first, second) certain_holds(loom, rows) certain_rows(loom)
weights: changed(scheme, before, after) slope(loom) weights(loom, top, bottom)
weights: weights_hold(loom, top, bottom, numbers) worst_turn(loom)
paints: class Paint(scheme, maps) still(scheme) read(scheme, text) undoing() __call__(strip) __eq__(other)
paints: class Paint(scheme, maps) __mul__(other) __str__()
masks: class Mask(start, loop) every() none() read(text) menu(starts, loops) marks(length) __getitem__(at)
masks: class Mask(start, loop) __eq__(other) __and__(other) __or__(other) __xor__(other) __invert__() __str__()
masks: masks_apart(first, second)
deeds: class Deed(scheme) outs(strip) makes(before, after) image(bale) source(bale)
passes: class Pass(paint, mask) loom() played(strip) __str__()
passes: class FreePass(paint, *, gap) loom() played(strip) __str__()
passes: class Stamp(scheme, old, new) loom() played(strip) __str__()
passes: class Border(scheme, front, back) loom() played(strip) __str__()
passes: class Gate(scheme, pattern) loom() played(strip) __str__()
passes: class Turn(scheme, by) loom() played(strip) __str__()
passes: mask_menu(paint, masks) masks_fitting(paint, masks, pairs) mask_known(paint, masks, pairs, length)
passes: mask_parting(paint, first, second)
rules: class Rule(scheme, row, clauses) read(scheme, text) value(left, column, right) mirrored() __eq__(other) __str__()
rules: spare_clauses(rule) mended(rule, strip, place) restless(rule, strip) at_rest(rule)
mends: class Once(rule) loom() played(strip) __str__()
mends: class Sweep(rule, *, back) loom() played(strip) __str__()
mends: class Rest(rule) loom() played(strip) __str__()
mends: class Mend(rule)
orders: ends_alike(rule, bale) schedule(rule, before, after) span(rule, strip) settle(rule, strip)
fonts: class Font(scheme, gap, glyphs) read(scheme, text) printed(text) bale() __getitem__(letter)
fonts: class Font(scheme, gap, glyphs) __contains__(letter) __len__() __eq__(other) __str__()
readings: how_many_readings(font, strip) readings(font, strip) first_reading(font, strip) first_text(font, bale)
readings: ambiguous(font) sure_letters(font, strip, *, torn)
faces: class Face(scheme, gap, letters) fonts() fitting(strips) widths(letter, strips) parting(one, other)
faces: class Face(scheme, gap, letters) shown(strips, length) __len__()
prints: class Overprint(font, text, at) loom() played(strip) __str__()
prints: class FreePrint(font) loom() played(strip) __str__()
prints: class Recast(old, new) loom() played(strip) __str__()
prints: print_menu(face, text, at)
endless: class Endless(scheme, left, middle, right, *, start) column_at(index) window(begin, stop) moved(by) __eq__(other)
endless: endless_apart(first, second)
blocks: class Block(scheme, left, right, results) identity(scheme) shift(scheme, by) of_paint(paint) of_rule(rule)
blocks: class Block(scheme, left, right, results) inner(strip) around(strip) mirrored() __call__(endless) __eq__(other)
blocks: class Block(scheme, left, right, results) __mul__(other)
gardens: orphan(block) cover(block, strip) twins(block) twin_strips(block) fused(block) undone(block)
rings: ring_sources(block, strip) how_many_sources(block, strip) barren_ring(block, length) ring_rounds(block, strip)
"""
KINDS = {
    "passes": {"Pass": "pass", "FreePass": "free", "Stamp": "stamp", "Border": "border", "Gate": "gate", "Turn": "turn"},
    "mends": {"Once": "once", "Sweep": "sweep", "Rest": "rest"},
    "prints": {"Overprint": "print", "FreePrint": "letters", "Recast": "recast"},
}


def listed():
    """For each entry its module, its class or None, its name and its arguments."""
    for line in INTERFACE.strip().splitlines():
        module, _, rest = line.partition(": ")
        owner = None
        if rest.startswith("class "):
            name, _, rest = rest[len("class "):].partition("(")
            told, _, rest = rest.partition(")")
            owner = name
            yield module, None, name, told
        for entry in rest.strip().split(") ") if rest.strip() else []:
            name, _, told = entry.rstrip(")").partition("(")
            yield module, owner, name.strip(), told


def arguments(call, own):
    """The arguments of a function as the document writes them, without the object itself."""
    parts = []
    for parameter in list(inspect.signature(call).parameters.values())[own:]:
        if parameter.kind == parameter.KEYWORD_ONLY and "*" not in parts:
            parts.append("*")
        parts.append(parameter.name)
        # Only what is passed by keyword may be left out.
        assert (parameter.default is parameter.empty) == (parameter.kind != parameter.KEYWORD_ONLY)
    return ", ".join(parts)


class InterfaceTest(unittest.TestCase):
    def test_names_arguments_and_places(self):
        many = 0
        for module, owner, name, told in listed():
            with self.subTest(module=module, owner=owner, name=name):
                home = importlib.import_module("galloon." + module)
                if owner is None:
                    found = getattr(home, name)
                    self.assertEqual(found.__module__, "galloon." + module)
                    self.assertEqual(arguments(found, 0), told)
                else:
                    found = vars(getattr(home, owner))[name]
                    call = getattr(found, "__func__", found)
                    own = arguments(call, 1)
                    if name.startswith("__"):
                        self.assertEqual(own.count(",") + bool(own), told.count(",") + bool(told))
                    else:
                        self.assertEqual(own, told)
                many += 1
        self.assertGreater(many, 200)

    def test_deeds(self):
        for module, kinds in KINDS.items():
            home = importlib.import_module("galloon." + module)
            for name, kind in kinds.items():
                made = getattr(home, name)
                self.assertTrue(issubclass(made, Deed))
                self.assertEqual(vars(made)["KIND"], kind)
                self.assertEqual(issubclass(made, Mend), module == "mends")
                self.assertEqual(issubclass(made, Pass), name in ("Pass", "FreePass"))

    def test_properties(self):
        rules = importlib.import_module("galloon.rules")
        for name in ("drift", "monotone"):
            self.assertIsInstance(vars(rules.Rule)[name], property)
            self.assertIsNone(vars(rules.Rule)[name].fset)
