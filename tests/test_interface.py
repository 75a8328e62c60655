"""The names, the arguments and the places of all that the document's interface lists so far."""

import importlib
import inspect
import unittest

from galloon.deeds import Deed
from galloon.mends import Mend
from galloon.passes import Pass

# For each module the functions and classes with their arguments; `class` lists a class with its methods.
INTERFACE = """
schemes: class Scheme(rows, colours) spots(column) column(spots) picture(strip) of_picture(lines) is_strip(text)
schemes: class Scheme(rows, colours) colour_at(strip, row, at) recoloured(strip, row, at, colour) check(text)
schemes: class Scheme(rows, colours) __eq__(other) __len__()
strips: shortlex(strips) strips_of(scheme, length) mirrored(strip) turned(strip, by) least_turn(strip)
strips: rings_of(scheme, length)
bales: class Bale(scheme, rows, goods) every(scheme) none(scheme) listed(scheme, strips) shaped(scheme, pattern)
bales: class Bale(scheme, rows, goods) showing(scheme, strip, at, *, from_end) first() strips(most) how_many(length)
bales: class Bale(scheme, rows, goods) of_length(length) within(other) mirrored() starred() cut(front, back) parts()
bales: class Bale(scheme, rows, goods) lengths() __eq__(other) __contains__(text) __and__(other) __or__(other)
bales: class Bale(scheme, rows, goods) __sub__(other) __xor__(other) __invert__() __add__(other) __bool__()
bales: differing(first, second)
looms: class Loom(scheme, arcs, goods) identity(scheme) every(scheme) none(scheme) of_pairs(scheme, pairs)
looms: class Loom(scheme, arcs, goods) crossed(first, second) on(bale) into(bale) image(bale) source(bale) domain()
looms: class Loom(scheme, arcs, goods) mirrored() repeated(times) framed(front, back) says(before, after)
looms: class Loom(scheme, arcs, goods) count_outs(strip) outs(strip) first_out(strip) sure_lines(strip) within(other)
looms: class Loom(scheme, arcs, goods) __eq__(other) __len__() __bool__() __mul__(other) __or__(other) __and__(other)
looms: class Loom(scheme, arcs, goods) __sub__(other) __invert__()
questions: several(loom) melted(loom, bale) lost_row(loom, bale, row) left_out(loom, bale)
questions: unreached(loom, bale, wanted) parted(first, second, bale) cycle(loom, most)
closed: pairs_hold(first, second, rows) pair_rows(first, second) certain_holds(loom, rows) certain_rows(loom)
weights: changed(scheme, before, after) slope(loom) weights(loom, top, bottom)
weights: weights_hold(loom, top, bottom, numbers) worst_turn(loom)
paints: class Paint(scheme, maps) still(scheme) read(scheme, text) undoing() __call__(strip) __eq__(other)
paints: class Paint(scheme, maps) __mul__(other) __str__()
masks: class Mask(start, loop) every() none() read(text) menu(starts, loops) marks(length) __getitem__(at)
masks: class Mask(start, loop) __eq__(other) __and__(other) __or__(other) __xor__(other) __invert__() __str__()
masks: masks_apart(first, second)
deeds: class Deed(scheme) outs(strip) makes(before, after) image(bale) source(bale)
passes: class Pass(paint, mask) loom() played(strip) __str__()
passes: class FreePass(paint, *, gap) loom() played(strip) __str__()
passes: class Stamp(scheme, old, new) loom() played(strip) __str__()
passes: class Border(scheme, front, back) loom() played(strip) __str__()
passes: class Gate(scheme, pattern) loom() played(strip) __str__()
passes: class Turn(scheme, by) loom() played(strip) __str__()
passes: mask_menu(paint, masks) masks_fitting(paint, masks, pairs) mask_known(paint, masks, pairs, length)
passes: mask_parting(paint, first, second)
rules: class Rule(scheme, row, clauses) read(scheme, text) value(left, column, right) mirrored() __eq__(other) __str__()
rules: spare_clauses(rule) mended(rule, strip, place) restless(rule, strip) at_rest(rule)
mends: class Once(rule) loom() played(strip) __str__()
mends: class Sweep(rule, *, back) loom() played(strip) __str__()
mends: class Rest(rule) loom() played(strip) __str__()
mends: class Mend(rule)
orders: ends_alike(rule, bale) schedule(rule, before, after) span(rule, strip) settle(rule, strip)
fonts: class Font(scheme, gap, glyphs) read(scheme, text) printed(text) bale() __getitem__(letter)
fonts: class Font(scheme, gap, glyphs) __contains__(letter) __len__() __eq__(other) __str__()
readings: how_many_readings(font, strip) readings(font, strip) first_reading(font, strip) first_text(font, bale)
readings: ambiguous(font) sure_letters(font, strip, *, torn)
faces: class Face(scheme, gap, letters) fonts() fitting(strips) widths(letter, strips) parting(one, other)
faces: class Face(scheme, gap, letters) shown(strips, length) __len__()
prints: class Overprint(font, text, at) loom() played(strip) __str__()
prints: class FreePrint(font) loom() played(strip) __str__()
prints: class Recast(old, new) loom() played(strip) __str__()
prints: print_menu(face, text, at)
endless: class Endless(scheme, left, middle, right, *, start) column_at(index) window(begin, stop) moved(by) __eq__(other)
endless: endless_apart(first, second)
blocks: class Block(scheme, left, right, results) identity(scheme) shift(scheme, by) of_paint(paint) of_rule(rule)
blocks: class Block(scheme, left, right, results) inner(strip) around(strip) mirrored() __call__(endless) __eq__(other)
blocks: class Block(scheme, left, right, results) __mul__(other)
gardens: orphan(block) cover(block, strip) twins(block) twin_strips(block) fused(block) undone(block)
rings: ring_sources(block, strip) how_many_sources(block, strip) barren_ring(block, length) ring_rounds(block, strip)
shapes: class Mirror(scheme) loom() played(strip) __str__()
shapes: class Cut(scheme, front, back) loom() played(strip) __str__()
workshops: class Workshop(scheme, deeds) of(scheme, *deeds) without(place) __len__() __add__(other) loom() played(strip)
workshops: class Workshop(scheme, deeds) __str__()
sameness: same(first, second, bale) unsure(deed, bale) lost(deed, bale) unmade(deed, bale, wanted)
sameness: not_returned(deed, bale) idle(workshop, bale) swappable(workshop, bale) fewest(workshop, bale)
folds: folded_scheme(scheme) fold(scheme, strip) unfold(scheme, strip) fold_bale(bale) folding_onto(bale, folded)
folds: symmetric(bale)
halls: class Hidden(deeds) __len__()
halls: class Hall(scheme, **tools) put(letter, tool) remove(letter) change_limit(limit) letters() hidden_letters() worlds()
halls: class Hall(scheme, **tools) workshop(plan, world) __getitem__(letter) __setitem__(letter, tool)
halls: class Hall(scheme, **tools) __contains__(letter) __len__()
searches: least_plan(hall, goal, bale, most) plan_between(hall, before, after, most, *, surely)
searches: undoing_plan(hall, plan, bale, most) swaps(hall, bale) tool_classes(hall, letter, bale)
telling: parting(hall, plan, one, two, bale) telling(hall, plan, worlds, bale) mistaken(hall, plan, one, two, bale)
cases: class Case(hall) lay(name, bale) work(name, plan) see(name, bale) recall(name, bale) among(letter, indexes)
cases: class Case(hall) alike(one, two, *, unlike) can(plan, before, after, *, never) withdraw(number) facts()
cases: class Case(hall) worlds_left() indexes(letter) sheets() steps(name) now(name) origin(name) origin_of(name, bale)
cases: class Case(hall) sure_spot(name, row, at, *, from_end) verdict(name, bale) loss(name) refuting(world)
cases: class Case(hall) grounds(letter, index) undo() redo() twin() __len__()
attempts: attempt(case, requests)
notes: read_deed(scheme, text) read_workshop(scheme, text)
lines: drawn(scheme, strip, *, signs) hall_lines(hall) case_lines(case)
plain: plain_same(first, second, bale, most) plain_lost(deed, bale, most) plain_images(deed, bale, most)
plain: plain_now(case, name, most)
"""
KINDS = {
    "passes": {"Pass": "pass", "FreePass": "free", "Stamp": "stamp", "Border": "border", "Gate": "gate", "Turn": "turn"},
    "mends": {"Once": "once", "Sweep": "sweep", "Rest": "rest"},
    "prints": {"Overprint": "print", "FreePrint": "letters", "Recast": "recast"},
    "shapes": {"Mirror": "mirror", "Cut": "cut"},
    "workshops": {"Workshop": "workshop"},
}
STARS = {inspect.Parameter.VAR_POSITIONAL: "*", inspect.Parameter.VAR_KEYWORD: "**"}
# For each class its read-only properties, and those that can be assigned.
PROPERTIES = {
    ("rules", "Rule"): (("drift", "monotone"), ()), ("halls", "Hall"): ((), ("limit",)),
    ("cases", "Case"): (("many", "past", "future"), ()),
}
CLASS_VALUES = {
    ("schemes", "Scheme"): {"MOST": 9, "BLANK": "a"}, ("looms", "Loom"): {"MOST_OUTS": 200}, ("fonts", "Font"): {"MOST": 6},
    ("blocks", "Block"): {"MOST": 729}, ("workshops", "Workshop"): {"MOST": 8}, ("halls", "Hidden"): {"MOST": 12},
}
MODULES = (
    "errors", "schemes", "strips", "bales", "looms", "questions", "closed", "weights", "paints", "masks", "deeds", "passes", "rules",
    "mends", "orders", "fonts", "readings", "faces", "prints", "endless", "blocks", "gardens", "rings", "shapes", "workshops",
    "sameness", "folds", "halls", "searches", "telling", "cases", "attempts", "notes", "lines", "plain",
)


def listed():
    """For each entry its module, its class or None, its name and its arguments."""
    for line in INTERFACE.strip().splitlines():
        module, _, rest = line.partition(": ")
        owner = None
        if rest.startswith("class "):
            name, _, rest = rest[len("class "):].partition("(")
            told, _, rest = rest.partition(")")
            owner = name
            yield module, None, name, told
        for entry in rest.strip().split(") ") if rest.strip() else []:
            name, _, told = entry.rstrip(")").partition("(")
            yield module, owner, name.strip(), told


def arguments(call, own):
    """The arguments of a function as the document writes them, without the object itself."""
    parts = []
    for parameter in list(inspect.signature(call).parameters.values())[own:]:
        if parameter.kind == parameter.KEYWORD_ONLY and "*" not in parts:
            parts.append("*")
        if parameter.kind in STARS:
            parts.append(STARS[parameter.kind] + parameter.name)
            continue
        parts.append(parameter.name)
        # Only what is passed by keyword may be left out.
        assert (parameter.default is parameter.empty) == (parameter.kind != parameter.KEYWORD_ONLY)
    return ", ".join(parts)


class InterfaceTest(unittest.TestCase):
    def test_names_arguments_and_places(self):
        many = 0
        for module, owner, name, told in listed():
            with self.subTest(module=module, owner=owner, name=name):
                home = importlib.import_module("galloon." + module)
                if owner is None:
                    found = getattr(home, name)
                    self.assertEqual(found.__module__, "galloon." + module)
                    self.assertEqual(arguments(found, 0), told)
                else:
                    found = vars(getattr(home, owner))[name]
                    call = getattr(found, "__func__", found)
                    own = arguments(call, 1)
                    if name.startswith("__"):
                        self.assertEqual(own.count(",") + bool(own), told.count(",") + bool(told))
                    else:
                        self.assertEqual(own, told)
                many += 1
        self.assertGreater(many, 200)

    def test_deeds(self):
        for module, kinds in KINDS.items():
            home = importlib.import_module("galloon." + module)
            for name, kind in kinds.items():
                made = getattr(home, name)
                self.assertTrue(issubclass(made, Deed))
                self.assertEqual(vars(made)["KIND"], kind)
                self.assertEqual(issubclass(made, Mend), module == "mends")
                self.assertEqual(issubclass(made, Pass), name in ("Pass", "FreePass"))

    def test_properties(self):
        for (module, owner), (read_only, settable) in PROPERTIES.items():
            made = vars(getattr(importlib.import_module("galloon." + module), owner))
            for name in read_only + settable:
                self.assertIsInstance(made[name], property)
                self.assertEqual(made[name].fset is None, name in read_only)
            found = {name for name in made if isinstance(made[name], property)}
            self.assertEqual(found, set(read_only + settable))

    def test_class_values(self):
        for (module, owner), told in CLASS_VALUES.items():
            made = vars(getattr(importlib.import_module("galloon." + module), owner))
            self.assertEqual({name: made[name] for name in told}, told)

    def test_all_modules_are_asked_about(self):
        self.assertEqual({module for module, _, _, _ in listed()} | {"errors"}, set(MODULES))
        for module in MODULES:
            self.assertEqual(importlib.import_module("galloon." + module).__name__, "galloon." + module)
