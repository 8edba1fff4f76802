"""Certificates: claims that are true, with what shows them, and None exactly where the document says so."""

import itertools
import random
import unittest

import claims
import plain
import samples
from forcedsteer.barring import barred
from forcedsteer.certificates import certify_fort, certify_lead, certify_leaders, certify_some
from forcedsteer.checker import accepts
from forcedsteer.days import lead
from forcedsteer.errors import NoAnswer, NoWay
from forcedsteer.forcing import forces
from forcedsteer.works import Works
from samples import FORK, LINE
from strange import catch

HALF = ((1, 0, 0), (1, 2, 0), (0, 1, 3))
NONE = ((0, 1),) * 3


def each_case():
    for works in [*samples.shaped(), *samples.drawn(5, 137)]:
        for leaders in samples.some_lots(works):
            yield works, leaders
    for works in samples.small():
        for lot in plain.lots(works):
            yield works, lot


def drawn_state(draw, many):
    return plain.written(plain.Fraction(draw.randint(-5, 5), draw.choice((1, 3))) for _ in range(many))


class CertificateCase(unittest.TestCase):
    def shown(self, pair):
        """The claim and certificate of a pair that the checker accepts, and that is right."""
        self.assertEqual((type(pair), len(pair)), (tuple, 2))
        self.assertIs(accepts(*pair), True)
        self.assertIs(claims.accepts(*pair), True)
        return pair


class ExamplesTest(unittest.TestCase):
    def test_the_examples(self):
        fork, line = FORK, LINE
        claim, paper = certify_leaders(fork, ("a",))
        told = [claim, accepts(claim, paper), certify_leaders(line, ("x",))[1], certify_fort(fork, ("b",))[0][2],
                certify_fort(line, ("x",)), certify_some(fork, ("b",))]
        wanted = [("not always", "a b c d\na > b\na > c\nb > d\nc > d", ("a",)), True, (("x", "y"), ("y", "z")),
                  ("a", "c"), None, None]
        self.assertEqual(told, wanted)


class LeadersTest(CertificateCase):
    def test_many_works(self):
        for works, leaders in each_case():
            claim, paper = self.shown(certify_leaders(works, leaders))
            sure = plain.known(works, leaders) == works.parts
            self.assertEqual(claim, ("always" if sure else "not always", str(works), leaders))
            self.assertEqual(paper, forces(works, leaders) if sure else barred(works, leaders))

    def test_leaders_in_their_order(self):
        for leaders in itertools.permutations(FORK.parts, 2):
            self.assertEqual(certify_leaders(FORK, leaders)[0][2], leaders)


class SomeTest(CertificateCase):
    def test_many_works(self):
        for works, leaders in each_case():
            told = certify_some(works, leaders)
            if plain.reached(works, leaders) != works.parts:
                self.assertIsNone(told)
            else:
                claim, paper = self.shown(told)
                self.assertEqual(claim, ("sometimes", str(works), leaders))
                self.assertTrue(plain.are_strengths(works, paper))
                self.assertTrue(plain.steers(works, paper, leaders))


class FortTest(CertificateCase):
    def test_many_works(self):
        for works, leaders in each_case():
            told = certify_fort(works, leaders)
            sure = plain.known(works, leaders)
            if sure == works.parts:
                self.assertIsNone(told)
            else:
                rest = tuple(part for part in works.parts if part not in sure)
                self.assertEqual(self.shown(told), (("fort", str(works), rest), ()))


class LeadTest(CertificateCase):
    def test_many_works(self):
        draw = random.Random(139)
        ways = [0, 0]
        for works in samples.drawn(4, 149):
            for strengths in samples.drawn_strengths(works):
                leaders = tuple(draw.sample(works.parts, draw.randint(0, len(works))))
                first, last = [drawn_state(draw, len(works)) for _ in range(2)]
                for many in (0, 1, len(works), 12):
                    case = (works, strengths, leaders, first, last, many)
                    able = plain.can_lead(*case)
                    ways[able] += 1
                    if not able:
                        error = catch(self, NoWay, lambda told=case: certify_lead(*told))
                        self.assertIsInstance(error, NoAnswer)
                        continue
                    claim, paper = self.shown(certify_lead(*case))
                    self.assertEqual(claim, ("leads", str(works), strengths, leaders, first, last))
                    self.assertEqual((paper, len(paper)), (lead(*case), many))
        self.assertGreater(min(ways), 50)

    def test_no_days_and_no_leaders(self):
        claim, paper = self.shown(certify_lead(LINE, HALF, ("y",), NONE, NONE, 0))
        self.assertEqual((claim, paper), (("leads", str(LINE), HALF, ("y",), NONE, NONE), ()))
        claim, paper = self.shown(certify_lead(LINE, HALF, (), NONE, NONE, 12))
        self.assertEqual((claim, paper), (("leads", str(LINE), HALF, (), NONE, NONE), ((),) * 12))
        catch(self, NoWay, lambda: certify_lead(LINE, HALF, (), NONE, ((1, 1), (0, 1), (0, 1)), 12))

    def test_many_digits(self):
        works = samples.all_tied(8)
        strengths = ((10 ** 6,) * 8,) * 8
        state = plain.written([10 ** 20 - 1 - at for at in range(8)])
        self.shown(certify_lead(works, strengths, works.parts[::-1], state, state, 12))
        self.shown(certify_lead(works, strengths, works.parts[1:], state, state, 12))


class SmallTest(CertificateCase):
    def test_one_part(self):
        works = Works(("p",))
        self.assertEqual(self.shown(certify_leaders(works, ("p",))), (("always", "p", ("p",)), ()))
        self.assertEqual(self.shown(certify_leaders(works, ()))[0], ("not always", "p", ()))
        self.assertEqual(self.shown(certify_fort(works, ())), (("fort", "p", ("p",)), ()))
        self.assertIsNone(certify_fort(works, ("p",)))
        self.assertIsNone(certify_some(works, ()))
        self.assertEqual(self.shown(certify_some(works, ("p",)))[0], ("sometimes", "p", ("p",)))


if __name__ == "__main__":
    unittest.main()
