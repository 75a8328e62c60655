"""The examples of the document's interface, as they stand there."""

import unittest

EXAMPLES = r"""
>>> from galloon.schemes import Scheme
>>> Scheme(2, 2).picture('abd')
['001', '011']

>>> from galloon.bales import Bale
>>> from galloon.schemes import Scheme
>>> scheme = Scheme(1, 2)
>>> [list(Bale.shaped(scheme, 'a*b').strips(2)), Bale.shaped(scheme, '(aa)*').lengths()]
[['b', 'ab'], (0, 2, [], [0])]

>>> from galloon.bales import Bale
>>> from galloon.schemes import Scheme
>>> Bale.shaped(Scheme(1, 2), '[ba]')
raises BadPattern(place=2)

>>> from galloon.looms import Loom
>>> from galloon.schemes import Scheme
>>> from galloon.weights import slope, weights
>>> loom = Loom(Scheme(2, 2), [[('a', 'd', 1)], [('a', 'a', 0)]], [True, False])
>>> [slope(loom), weights(loom, 1, 1), weights(loom, 1, 2)]
[(1, 1), [0, 1], None]

>>> from galloon.masks import Mask
>>> [str(Mask.read('+-(+-+-)')), len(Mask.menu(0, 2)), str(Mask.menu(0, 2)[2])]
['(+-)', 4, '(+-)']

>>> from galloon.masks import Mask
>>> from galloon.paints import Paint
>>> from galloon.passes import FreePass, Stamp, mask_known
>>> from galloon.schemes import Scheme
>>> scheme = Scheme(1, 2)
>>> paint = Paint(scheme, ['11'])
>>> [FreePass(paint, gap=1).outs('aa'), Stamp(scheme, 'aa', 'ba').outs('aaaaa'), mask_known(paint, Mask.menu(0, 2), [('ab', 'ab')], 3)]
[['aa', 'ab', 'ba'], ['babaa'], '-?-']

>>> from galloon.mends import Once, Rest, Sweep
>>> from galloon.rules import Rule
>>> from galloon.schemes import Scheme
>>> rule = Rule.read(Scheme(1, 2), '0:#0,0,#0>1')
>>> [Once(rule).outs('aaa'), Sweep(rule).outs('aaa'), Rest(rule).outs('aaa')]
[['bbb'], ['bab'], ['aba', 'bab']]

>>> from galloon.bales import Bale
>>> from galloon.orders import ends_alike, settle, span
>>> from galloon.rules import Rule
>>> from galloon.schemes import Scheme
>>> scheme = Scheme(1, 2)
>>> rule = Rule.read(scheme, '0:#0,0,#0>1')
>>> [ends_alike(rule, Bale.every(scheme)), span(rule, 'aaa'), settle(rule, 'aaa')]
[('aa', 'ab', 'ba'), (1, 2), ('bbb', 1)]

>>> from galloon.fonts import Font
>>> from galloon.readings import ambiguous, sure_letters
>>> from galloon.schemes import Scheme
>>> font = Font(Scheme(1, 2), '', [('A', 'a'), ('B', 'ab'), ('C', 'ba')])
>>> [ambiguous(font), sure_letters(font, 'abaa'), sure_letters(font, 'ba', torn=True)]
[('aba', 'AC', 'BA'), '???A', '??']

>>> from galloon.blocks import Block
>>> from galloon.gardens import fused, orphan, twins, undone
>>> from galloon.paints import Paint
>>> from galloon.schemes import Scheme
>>> scheme = Scheme(1, 2)
>>> block = Block.of_paint(Paint(scheme, ['00']))
>>> moving = Block.shift(scheme, 1)
>>> [orphan(block), twins(block), fused(block), undone(moving) == Block.shift(scheme, -1)]
['b', ('a', 'b'), ('a', 'b'), True]

>>> from galloon.bales import Bale
>>> from galloon.sameness import not_returned, same
>>> from galloon.schemes import Scheme
>>> from galloon.shapes import Cut, Mirror
>>> from galloon.workshops import Workshop
>>> scheme = Scheme(1, 2)
>>> first = Workshop.of(scheme, Cut(scheme, 1, 0), Mirror(scheme))
>>> second = Workshop.of(scheme, Mirror(scheme), Cut(scheme, 0, 1))
>>> [same(first, second, Bale.every(scheme)), same(first, Cut(scheme, 0, 1), Bale.every(scheme)), not_returned(Mirror(scheme), Bale.every(scheme))]
[None, ('ab', 'a'), 'ab']

>>> from galloon.bales import Bale
>>> from galloon.folds import fold, symmetric
>>> from galloon.schemes import Scheme
>>> scheme = Scheme(1, 2)
>>> [fold(scheme, 'abbb'), symmetric(Bale.shaped(scheme, 'ab.*'))]
['bd', 'aba']

>>> from galloon.bales import Bale
>>> from galloon.cases import Case
>>> from galloon.halls import Hall, Hidden
>>> from galloon.masks import Mask
>>> from galloon.paints import Paint
>>> from galloon.passes import mask_menu
>>> from galloon.schemes import Scheme
>>> scheme = Scheme(1, 2)
>>> masks = [Mask.every(), Mask.read('(+-)'), Mask.none()]
>>> case = Case(Hall(scheme, H=Hidden(mask_menu(Paint(scheme, ['10']), masks))))
>>> case.lay('sheet', Bale.listed(scheme, ['aaa']))
>>> case.work('sheet', 'H')
>>> number = case.see('sheet', Bale.showing(scheme, 'a', 1))
>>> [case.worlds_left(), case.sure_spot('sheet', 0, 1), case.sure_spot('sheet', 0, 2), case.refuting((0,))]
[[(1,), (2,)], '0', None, [0]]

>>> from galloon.notes import read_deed, read_workshop
>>> from galloon.schemes import Scheme
>>> [str(read_workshop(Scheme(1, 2), 'turn -1 ; once 0: ; cut 0 1')), str(read_workshop(Scheme(1, 2), 'keep'))]
['turn -1 ; once 0: ; cut 0 1', 'keep']

>>> from galloon.notes import read_deed
>>> from galloon.schemes import Scheme
>>> read_deed(Scheme(1, 2), 'turn 2')
raises BadDeed(index=1)
"""


def told(error):
    """An error as the document writes it."""
    parts = ", ".join(f"{name}={value!r}" for name, value in vars(error).items())
    return f"raises {error.__class__.__name__}({parts})"


class ExamplesTest(unittest.TestCase):
    def test_examples(self):
        blocks = EXAMPLES.strip().split("\n\n")
        for block in blocks:
            with self.subTest(block=block):
                lines, names = block.split("\n"), {}
                code = [line[len(">>> "):] for line in lines[:-1]]
                for line in code[:-1]:
                    exec(line, names)
                try:
                    answer = repr(eval(code[-1], names))
                except ValueError as error:
                    answer = told(error)
                self.assertEqual(answer, lines[-1])
        self.assertEqual(len(blocks), 15)
