"""Points 38 to 42: rules, their written forms and values, resting strips, drift."""

import itertools
import random

from galloon.bales import Bale
from galloon.errors import (
    BadClause, BadColour, BadColumn, BadIndex, BadRow, BadRule, BadStrip, NoDrift, TooMany,
)
from galloon.rules import Rule, at_rest, check_drift, mended, restless, spare_clauses
from galloon.schemes import Scheme
from tests.helpers import ONE, OTHER_KINDS, SCHEMES, Checked, check_least_bale, members, words

TWO = Scheme(2, 2)
THREE = Scheme(1, 3)
MOST = {2: 6, 3: 4, 4: 4, 8: 2, 9: 2}


def random_signs(rng, scheme):
    signs = "#012"[:scheme.colours + 1]
    return "".join(sign for sign in signs if rng.random() < 0.5) or rng.choice(signs)


def random_rule(rng, scheme, most=6):
    """Any rule with at most so many clauses."""
    colours = "012"[:scheme.colours]
    return Rule(scheme, rng.randrange(scheme.rows), [
        (random_signs(rng, scheme), "".join(rng.choice("." + colours) for _ in range(scheme.rows)),
         random_signs(rng, scheme), rng.choice(colours))
        for _ in range(rng.randrange(most + 1))
    ])


def drifting_rule(rng, scheme, up, most=6):
    """A rule whose colours only rise, or only fall."""
    colours = "012"[:scheme.colours]
    row = rng.randrange(scheme.rows)
    clauses = []
    for _ in range(rng.randrange(most + 1)):
        low, high = sorted(rng.sample(colours, 2))
        here = [rng.choice("." + colours) for _ in range(scheme.rows)]
        here[row] = low if up else high
        clauses.append((random_signs(rng, scheme), "".join(here), random_signs(rng, scheme), high if up else low))
    return Rule(scheme, row, clauses)


def plain_value(rule, left, column, right):
    """The new colour, found by trying the clauses one after the other."""
    spots = rule.scheme.spots(column)
    for before, here, behind, new in rule.clauses:
        if left in before and right in behind and all(w in ("." + spot) for w, spot in zip(here, spots)):
            return new
    return spots[rule.row]


def plain_mended(rule, strip, place):
    """The strip after one mending, from its picture."""
    lines = rule.scheme.picture(strip)
    line = lines[rule.row]
    left = line[place - 1] if place > 0 else "#"
    right = line[place + 1] if place + 1 < len(strip) else "#"
    new = plain_value(rule, left, strip[place], right)
    lines[rule.row] = line[:place] + new + line[place + 1:]
    return rule.scheme.of_picture(lines)


def looks(scheme):
    """All left neighbours, columns and right neighbours."""
    signs = "#012"[:scheme.colours + 1]
    return list(itertools.product(signs, scheme.columns, signs))


class ClausesTest(Checked):
    def test_attributes(self):
        clauses = [("#0", ".1", "1", "1"), ("1", "0.", "#", "0")]
        rule = Rule(TWO, 0, clauses)
        clauses.append(("0", "..", "0", "0"))
        self.assertEqual(rule.clauses, [("#0", ".1", "1", "1"), ("1", "0.", "#", "0")])
        self.assertTrue(all(clause.__class__ is tuple for clause in rule.clauses))
        self.assertEqual((rule.row, rule.scheme, rule.clauses.__class__), (0, TWO, list))
        self.assertEqual(Rule(TWO, 1, []).clauses, [])
        listed = ["0", "..", "0", "0"]
        rule = Rule(TWO, 0, [tuple(listed), tuple(listed)])
        self.assertEqual(rule.clauses, [("0", "..", "0", "0")] * 2)

    def test_rows(self):
        for scheme in SCHEMES:
            for row in (-1, scheme.rows, 10 ** 30):
                self.fails(BadRow, {"row": row}, Rule, scheme, row, [("", "", "", "")] * 7)
                self.fails(BadRow, {"row": row}, Rule, scheme, row, [])

    def test_seven_clauses(self):
        good = ("#01", "..", "0", "1")
        self.assertEqual(len(Rule(TWO, 1, [good] * 6).clauses), 6)
        self.fails(TooMany, {"most": 6}, Rule, TWO, 1, [good] * 7)
        self.fails(TooMany, {"most": 6}, Rule, TWO, 1, [("", "", "", "")] * 7)

    def test_each_wrong_part(self):
        signs = ["", "2", "##", "00", "10", "0#", "#1#", " ", "a", ".", "#10", "012", "01 ", "\u0660"]
        heres = ["", "0", "000", "0#", "2.", ". ", "ab", "..."]
        news = ["", "2", "#", ".", "01", "a", "00", " "]
        good = ("#01", ".1", "0", "1")
        for at, part, texts in ((0, "left", signs), (1, "here", heres), (2, "right", signs), (3, "new", news)):
            for text in texts:
                clause = list(good)
                clause[at] = text
                self.fails(BadClause, {"index": 0, "part": part}, Rule, TWO, 0, [tuple(clause)])
                self.fails(BadClause, {"index": 2, "part": part}, Rule, TWO, 1, [good, good, tuple(clause), ("",) * 4])
                # The first part that is wrong counts.
                for later in range(at + 1, 4):
                    clause[later] = "?"
                    self.fails(BadClause, {"index": 1, "part": part}, Rule, TWO, 0, [good, tuple(clause)])

    def test_three_colours(self):
        rule = Rule(THREE, 0, [("#012", "2", "02", "1"), ("#", ".", "#2", "2")])
        self.assertEqual(str(rule), "0:#012,2,02>1;#,.,#2>2")
        self.fails(BadClause, {"index": 0, "part": "left"}, Rule, THREE, 0, [("021", "2", "02", "1")])
        self.fails(BadClause, {"index": 0, "part": "right"}, Rule, THREE, 0, [("0", "2", "03", "1")])


class WrittenTest(Checked):
    def test_the_examples_of_the_document(self):
        rule = Rule(TWO, 0, [("#0", ".1", "1", "1"), ("1", "0.", "#", "0")])
        self.assertEqual(str(rule), "0:#0,.1,1>1;1,0.,#>0")
        self.assertEqual(str(Rule(TWO, 0, [])), "0:")
        self.assertEqual(Rule.read(TWO, "0:").clauses, [])
        self.assertEqual(Rule.read(TWO, "1:#0,.1,1>1;1,0.,#>0").clauses, rule.clauses)

    def test_written_and_read_back(self):
        rng = random.Random(720)
        for _ in range(200):
            rule = random_rule(rng, rng.choice(SCHEMES))
            text = str(rule)
            back = Rule.read(rule.scheme, text)
            self.assertEqual((str(back), back.row, back.clauses), (text, rule.row, rule.clauses))
            self.assertTrue(back == rule)

    def test_texts_that_are_no_form(self):
        for text in (
            "", "0", ":", "00:", "a:", "-1:", " 0:", "0 :", "\u0660:", "\u00b2:", "0:;", "0:,", "0:,,", "0:0,.,0",
            "0:0,.,0>1;", "0:;0,.,0>1", "0:0,.,0>1;;0,.,0>1", "0:0,.0>1", "0:0,.,0,0>1", "0:0,.,0>1>0", "0:0,.,0>>1",
            "0:0>1,.,0", "0:0,.,0>1;0,.,0", "0,.,0>1", "x:0,.,0>1", "9", "0:0:0,.,0",
        ):
            self.fails(BadRule, {}, Rule.read, ONE, text)

    def test_empty_and_wrong_pieces(self):
        for text, index, part in (
            ("0:,,>", 0, "left"), ("0:0,,>", 0, "here"), ("0:0,.,>", 0, "right"), ("0:0,.,0>", 0, "new"),
            ("0:0,.,0>1;,,>", 1, "left"), ("0:>,.,0>1", 0, "left"), ("0:0,>,0>1", 0, "here"), ("0:0,.,0>2", 0, "new"),
            ("0: 0,.,0>1", 0, "left"), ("0:0,.,0>1 ", 0, "new"), ("0:0:,.,0>1", 0, "left"), ("0:0,.,10>1", 0, "right"),
        ):
            self.fails(BadClause, {"index": index, "part": part}, Rule.read, ONE, text)

    def test_other_errors_in_their_order(self):
        self.fails(BadRow, {"row": 1}, Rule.read, ONE, "1:,,>")
        self.fails(BadRow, {"row": 9}, Rule.read, TWO, "9:")
        self.fails(BadRule, {}, Rule.read, ONE, "9:,,")
        self.fails(TooMany, {"most": 6}, Rule.read, ONE, "0:" + ";".join([",,>"] * 7))
        self.fails(BadRow, {"row": 1}, Rule.read, ONE, "1:" + ";".join([",,>"] * 7))
        self.fails(BadRule, {}, Rule.read, ONE, "0:" + ";".join([",,>"] * 6 + [""]))
        self.assertEqual(len(Rule.read(ONE, "0:" + ";".join(["0,.,0>1"] * 6)).clauses), 6)


class ValueTest(Checked):
    def test_plain_trying(self):
        rng = random.Random(721)
        for scheme in SCHEMES:
            for _ in range(25):
                rule = random_rule(rng, scheme)
                for left, column, right in looks(scheme):
                    self.assertEqual(rule.value(left, column, right), plain_value(rule, left, column, right))

    def test_known_values(self):
        rule = Rule.read(ONE, "0:#0,0,#0>1")
        self.assertEqual([rule.value(left, "a", right) for left in "#01" for right in "#01"], list("110110000"))
        self.assertEqual({rule.value(left, "b", right) for left in "#01" for right in "#01"}, {"1"})

    def test_errors_in_their_order(self):
        rule = Rule.read(TWO, "0:")
        for left in ("", "2", "01", "a", ".", "##"):
            self.fails(BadColour, {"colour": left}, rule.value, left, "?", "?")
        for column in ("", "e", "ab", "0", "A"):
            self.fails(BadColumn, {"text": column}, rule.value, "#", column, "?")
        for right in ("", "2", "01", "a", ".", "##"):
            self.fails(BadColour, {"colour": right}, rule.value, "0", "a", right)

    def test_mirrored(self):
        rng = random.Random(722)
        for scheme in SCHEMES:
            for _ in range(10):
                rule = random_rule(rng, scheme)
                other = rule.mirrored()
                self.assertEqual(other.clauses, [(right, here, left, new) for left, here, right, new in rule.clauses])
                self.assertEqual((other.row, other.scheme), (rule.row, scheme))
                for left, column, right in looks(scheme):
                    self.assertEqual(other.value(left, column, right), rule.value(right, column, left))

    def test_equal(self):
        one = Rule.read(ONE, "0:0,.,01>0;1,.,01>0;#,.,01>0")
        self.assertTrue(one == Rule.read(ONE, "0:#01,1,01>0"))
        self.assertTrue(one == Rule.read(ONE, "0:#01,.,0>0;#01,.,1>0"))
        self.assertFalse(one == Rule.read(ONE, "0:#01,1,0>0"))
        self.assertFalse(one != Rule.read(ONE, "0:#01,1,01>0"))
        self.assertTrue(Rule.read(ONE, "0:") == Rule.read(ONE, "0:0,0,1>0;#01,1,#01>1"))
        self.assertFalse(Rule.read(TWO, "0:") == Rule.read(TWO, "1:"))
        self.assertFalse(Rule.read(ONE, "0:") == Rule.read(TWO, "0:"))
        self.assertFalse(Rule.read(ONE, "0:") == Rule.read(THREE, "0:"))
        for other in OTHER_KINDS + ["0:"]:
            self.assertIs(Rule.read(ONE, "0:") == other, False)

    def test_equal_means_equal_values(self):
        rng = random.Random(723)
        answers = {True: 0, False: 0}
        for _ in range(400):
            scheme = rng.choice(SCHEMES[:3])
            one, other = random_rule(rng, scheme, 2), random_rule(rng, scheme, 2)
            known = one.row == other.row and all(one.value(*look) == other.value(*look) for look in looks(scheme))
            self.assertIs(one == other, known)
            answers[known] += 1
        self.assertGreater(min(answers.values()), 20)


class SpareTest(Checked):
    def test_clauses_that_hide_each_other(self):
        for text, spare in (
            ("0:", []), ("0:#01,0,#01>1", []), ("0:#01,0,#01>0", [0]), ("0:0,0,0>1;0,0,0>1", [0, 1]),
            ("0:#01,0,#01>1;0,0,0>0", [1]), ("0:0,0,0>1;#01,.,#01>1", [0]), ("0:0,0,0>0;#01,.,#01>1", []),
            ("0:0,0,0>1;0,0,1>1;0,0,01>1", [0, 1, 2]), ("0:0,0,0>1;0,0,1>0;0,0,01>1", [0, 2]),
        ):
            self.assertEqual(spare_clauses(Rule.read(ONE, text)), spare, text)

    def test_plain_trying(self):
        rng = random.Random(724)
        many = 0
        for _ in range(120):
            rule = random_rule(rng, rng.choice(SCHEMES))
            known = []
            for index in range(len(rule.clauses)):
                fewer = Rule(rule.scheme, rule.row, rule.clauses[:index] + rule.clauses[index + 1:])
                if all(fewer.value(*look) == rule.value(*look) for look in looks(rule.scheme)):
                    known.append(index)
            self.assertEqual(spare_clauses(rule), known)
            many += len(known)
        self.assertGreater(many, 50)


class RestTest(Checked):
    def test_plain_trying(self):
        rng = random.Random(725)
        for scheme in SCHEMES:
            for _ in range(12):
                rule = random_rule(rng, scheme)
                bale = at_rest(rule)
                check_least_bale(self, bale)
                resting = []
                for strip in words(scheme, MOST[len(scheme)]):
                    nexts = [plain_mended(rule, strip, place) for place in range(len(strip))]
                    self.assertEqual([mended(rule, strip, place) for place in range(len(strip))], nexts)
                    places = [place for place, other in enumerate(nexts) if other != strip]
                    self.assertEqual(restless(rule, strip), places)
                    if not places:
                        resting.append(strip)
                self.assertEqual(members(bale, MOST[len(scheme)]), resting)

    def test_known_strips(self):
        rule = Rule.read(ONE, "0:#0,0,#0>1")
        self.assertEqual(mended(rule, "aaa", 1), "aba")
        self.assertEqual(restless(rule, "aaaba"), [0, 1])
        self.assertEqual(restless(rule, ""), [])
        self.assertTrue(at_rest(Rule.read(TWO, "1:")) == Bale.every(TWO))
        self.assertTrue(at_rest(Rule.read(ONE, "0:#01,0,#01>1")) == Bale.shaped(ONE, "b*"))
        self.assertTrue(at_rest(Rule.read(ONE, "0:#01,0,#01>1;#01,1,#01>0")) == Bale.listed(ONE, [""]))

    def test_other_rows_never_change(self):
        rule = Rule.read(TWO, "1:#01,..,#01>1")
        self.assertEqual([mended(rule, "abcd", place) for place in range(4)], ["bbcd", "abcd", "abdd", "abcd"])

    def test_errors_in_their_order(self):
        rule = Rule.read(ONE, "0:")
        self.fails(BadStrip, {"text": "abc"}, mended, rule, "abc", 9)
        self.fails(BadStrip, {"text": "A"}, restless, rule, "A")
        for place in (-1, 2, 10 ** 30):
            self.fails(BadIndex, {"at": place}, mended, rule, "ab", place)
        self.fails(BadIndex, {"at": 0}, mended, rule, "", 0)


class DriftTest(Checked):
    def test_known_drifts(self):
        for scheme, text, drift in (
            (ONE, "0:", "still"), (ONE, "0:#01,0,#01>0", "still"), (ONE, "0:#,0,#>1", "up"), (ONE, "0:1,1,1>0", "down"),
            (ONE, "0:#,0,#>1;1,1,1>0", "mixed"), (ONE, "0:#01,.,#01>1", "up"), (ONE, "0:#01,.,#01>0", "down"),
            (THREE, "0:#,.,#>1", "mixed"), (THREE, "0:0,0,0>2;1,1,1>2", "up"), (THREE, "0:2,2,2>1", "down"),
            (TWO, "1:0,0.,1>1", "up"), (TWO, "1:0,.1,1>0", "down"), (TWO, "0:#01,.1,#01>1;#01,.0,#01>0", "mixed"),
            (ONE, "0:#01,0,#01>0;#01,0,#01>1", "still"),
        ):
            rule = Rule.read(scheme, text)
            self.assertEqual(rule.drift, drift, text)
            if drift == "mixed":
                self.fails(NoDrift, {}, check_drift, rule)
            else:
                self.assertIsNone(check_drift(rule))

    def test_plain_trying(self):
        rng = random.Random(726)
        seen = {}
        for turn in range(400):
            scheme = rng.choice(SCHEMES)
            if turn % 2:
                rule = drifting_rule(rng, scheme, turn % 4 == 1, 2)
            else:
                rule = random_rule(rng, scheme, 2)
            signs = set()
            for look in looks(scheme):
                new, old = rule.value(*look), scheme.spots(look[1])[rule.row]
                signs.add((new > old) - (new < old))
            known = {(0,): "still", (0, 1): "up", (-1, 0): "down", (1,): "up", (-1,): "down"}
            self.assertEqual(rule.drift, known.get(tuple(sorted(signs)), "mixed"))
            seen[rule.drift] = True
        self.assertEqual(sorted(seen), ["down", "mixed", "still", "up"])

    def test_monotone(self):
        rng = random.Random(727)
        answers = {True: 0, False: 0}
        for turn in range(160):
            scheme = rng.choice(SCHEMES[:3])
            rule = drifting_rule(rng, scheme, True, 3) if turn % 2 else random_rule(rng, scheme, 2)
            row = rule.row

            def below(one, other):
                return one == other or (one != "#" and other != "#" and one <= other)

            def column_below(one, other):
                one, other = scheme.spots(one), scheme.spots(other)
                return one[row] <= other[row] and one[:row] + one[row + 1:] == other[:row] + other[row + 1:]
            known = all(
                rule.value(l, p, r) <= rule.value(m, q, s)
                for l, p, r in looks(scheme) for m, q, s in looks(scheme)
                if below(l, m) and below(r, s) and column_below(p, q)
            )
            self.assertIs(rule.monotone, known, str(rule))
            answers[known] += 1
        self.assertGreater(min(answers.values()), 30)

    def test_known_monotone(self):
        for scheme, text, monotone in (
            (ONE, "0:", True), (ONE, "0:#0,0,#0>1", False), (ONE, "0:1,0,#01>1", True), (ONE, "0:#,.,#01>1", True),
            (ONE, "0:#01,.,#01>0", True), (ONE, "0:#01,0,#01>1;#01,1,#01>0", False), (THREE, "0:012,0,2>1", True),
            (THREE, "0:012,0,1>1", False), (THREE, "0:012,0,012>2", False),
            (Scheme(2, 3), "1:012,00,2>1", True), (TWO, "0:#01,.1,#01>1;#01,.0,#01>0", True),
        ):
            self.assertIs(Rule.read(scheme, text).monotone, monotone, text)

    def test_read_only(self):
        rule = Rule.read(ONE, "0:")
        for name in ("drift", "monotone"):
            with self.assertRaises(AttributeError):
                setattr(rule, name, "up")
