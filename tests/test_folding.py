"""The first folding: each case of the document, and lines written in several ways."""

import random

from lexiconlines.errors import TooMany
from lexiconlines.evens import second_folding
from lexiconlines.folding import first_folding
from lexiconlines.terms import Term, sign_term
from tests.foldings_oracle import told_first, told_second
from tests.support import LexiconCase, grown, random_even_term, random_term


def term(text):
    return Term.read(text)


class FirstFoldingTest(LexiconCase):

    def check_foldings(self, table):
        for text, told in table.items():
            self.assertEqual(first_folding(term(text)).text(), told, text)

    def test_sums(self):
        self.check_foldings({
            "0": "0", "x": "x", "xy": "[xy]", "xxx": "[xxx]", "x(y)>": "[x(y)>]", "(x)>y": "[(x)>]y", "(x)>yz": "[(x)>][yz]",
            "y<(x)": "y[<(x)]", "<(x)y": "[<(x)y]", "<(x)(y)>": "[<(x)(y)>]", "<(x)y(z)>": "[<(x)y(z)>]",
            "(x)><(y)": "[(x)>][<(y)]", "(x)>y<(z)": "[(x)>]y[<(z)]", "(x)>(y)>": "[(x)>][(y)>]", "<(x)<(y)": "[<(x)][<(y)]",
            "x{y}z": "x{y}z", "xy{z}xy": "[xy]{z}[xy]", "x{y}zx{y}": "x{y}[zx]{y}", "{x}yy{x}": "{x}[yy]{x}",
            "{x}<(x)(y)>{x}": "{x}[<(x)(y)>]{x}", "<(x)(x)>": "[<(x)>]", "<(yx)(yx)>": "[<(xy)>]", "x(x)>": "[(x)>]",
            "(x)>{x}<(x)": "[(x)>]{x}[<(x)]", "<(x){x}(x)>": "[<(x)]{x}[(x)>]", "<(x)x(y)>z": "[<(x)(y)>]z",
        })

    def test_up_of_one_block(self):
        self.check_foldings({
            "(x)>": "[(x)>]", "(xyxy)>": "[(xy)>]", "(x(y)>)>": "[x(y)>]([x(y)>])>", "((x)>)>": "[(x)>]([(x)>])>",
            "(<(x))>": "([<(x)])>", "(<(x)y)>": "([<(x)y])>", "(<(x)(y)>)>": "([<(x)(y)>])>", "(<(x)(x)>)>": "([<(x)>])>",
        })

    def test_down_of_one_block(self):
        self.check_foldings({
            "<(x)": "[<(x)]", "<(xyxy)": "[<(xy)]", "<(<(y)x)": "<([<(y)x])[<(y)x]", "<(<(x))": "<([<(x)])[<(x)]",
            "<((x)>)": "<([(x)>])", "<(y(x)>)": "<([y(x)>])", "<(<(x)(y)>)": "<([<(x)(y)>])", "<(<(x)(x)>)": "<([<(x)>])",
        })

    def test_up_of_several_blocks(self):
        self.check_foldings({
            "(x{y}z)>": "x{y}([zx]{y})>", "(x{y})>": "x{y}(x{y})>", "({y}z)>": "{y}(z{y})>", "({y})>": "({y})>",
            "((x)>{y}<(z))>": "[(x)>]{y}([<(z)(x)>]{y})>", "((x)><(z))>": "[(x)>]([<(z)(x)>])>", "((x)>y)>": "[(x)>]([y(x)>])>",
            "(y<(x))>": "y([<(x)y])>", "(<(x){y})>": "([<(x)]{y})>", "(<(x)(x)>{y}(x)>)>": "([<(x)>]{y}[(x)>])>",
            "(x{y}zx)>": "x{y}([zxx]{y})>", "((x)>(y)>)>": "[(x)>][(y)>]([(x)>][(y)>])>", "((x)>(y)>x)>": "[(x)>][(y)>]([(x)>][(y)>])>",
            "((x)>(y)>z)>": "[(x)>][(y)>]([z(x)>][(y)>])>",
        })

    def test_down_of_several_blocks(self):
        self.check_foldings({
            "<(x{y}z)": "<({y}[zx]){y}z", "<(x{y})": "<({y}x){y}", "<({y}z)": "<({y}z){y}z", "<({y})": "<({y})",
            "<((x)>{y}<(z))": "<({y}[<(z)(x)>]){y}[<(z)]", "<((x)><(z))": "<([<(z)(x)>])[<(z)]", "<(y<(x))": "<([<(x)y])[<(x)]",
            "<((x)>y)": "<([y(x)>])y", "<({y}(x)>)": "<({y}[(x)>])",
        })

    def test_shuffles(self):
        self.check_foldings({
            "{x}": "{x}", "{x,xy}": "{[xy],x}", "{(x)>,y}": "{[(x)>],y}", "{(x)>,x(x)>}": "{[(x)>]}", "{(x)>,(xx)>,xx(x)>,y}": "{[(x)>],y}",
            "{x{y}z,x}": "{x,x{y}z}", "{{xy},{x,(x)>y}}": "{{[(x)>]y,x},{[xy]}}", "{(x{y})>}": "{x{y}(x{y})>}",
        })

    def test_terms_within_terms(self):
        self.check_foldings({
            "(x(x)>)>": "[(x)>]([(x)>])>", "(x)><((x)>)": "[(x)>]<([(x)>])", "((x{y})>z)>": "x{y}(x{y})>([zx]{y}(x{y})>)>",
            "(y(y(x)>)>)>": "[yy(x)>]([y(x)>])>([yy(x)>]([y(x)>])>)>", "<(((x)>)>)": "<(([(x)>])>[(x)>])([(x)>])>",
        })

    def test_any_signs(self):
        once = first_folding(term("(x(y)>)>(x)>"))
        self.assertEqual(once.text(), "[x(y)>]([x(y)>])>[(x)>]")
        self.assertEqual(first_folding(once).text(), "[([x(y)>])>][(x)>]")
        self.assertEqual(first_folding(first_folding(once)).text(), "[[([x(y)>])>][(x)>]]")
        signs = sign_term("[{x}]") + sign_term("[xy]").down() + sign_term("z")
        self.assertEqual(first_folding(signs).text(), "[{x}][<([xy])z]")
        self.assertEqual(first_folding(term=sign_term("[xy]")).text(), "[xy]")

    def test_random_terms(self):
        dice = random.Random(212)
        for _ in range(1000):
            one = random_term(dice, dice.randint(1, 4), dice.choice(["x", "xy", "xyz"]))
            one = one.filled(x=dice.choice([Term.spot("x"), sign_term("[{x}]"), sign_term("[<(x)y]")]))
            self.assertEqual(first_folding(one), told_first(one), one)
            other = first_folding(one)
            self.assertEqual(second_folding(other), told_second(other), other)

    def test_random_terms_with_even_sets(self):
        dice = random.Random(213)
        for _ in range(1000):
            one = random_even_term(dice, dice.randint(0, 3))
            self.assertEqual(second_folding(one), told_second(one), one)
            self.assertEqual(second_folding(-one), told_second(-one), one)
            self.assertEqual(first_folding(one), told_first(one), one)
            other = first_folding(second_folding(one))
            self.assertEqual(second_folding(other), told_second(other), other)

    def test_arguments_stay(self):
        one = term("(x{y}z)>")
        first_folding(one)
        self.assertEqual(one.text(), "(x{y}z)>")
        self.assertEqual(first_folding(one), first_folding(one))


class ItemsTest(LexiconCase):

    def check_items(self, one, many):
        if many <= 4000:
            self.assertEqual(len(first_folding(one)), many)
        else:
            self.check_error(TooMany, {"count": 4000}, first_folding, one)

    def test_items(self):
        many = term("{x}{x,y}{x,y,z}")
        self.assertEqual(len(many), 9)
        middle = many * 40 * 5 + many * 22
        self.assertEqual(len(middle), 1998)
        more = middle + term("{x,y}")
        for one, count in (((middle + term("y")).up(), 3998), ((term("x") + middle).up(), 3999), ((term("x") + middle).up() + term("y"), 4000),
                           ((term("x") + middle).up() + term("xy{x}"), 4002), ((term("x") + more).up(), 4005),
                           ((middle + term("y")).down(), 3999), (more.up(), 2002), (Term.shuffle(middle + term("xx")), 2000)):
            self.check_items(one, count)

    def test_blocks_of_many_signs(self):
        self.assertEqual(len(first_folding(Term.spot("x") * 40 * 40 * 3)), 1)
        self.check_items((term("(x)>") * 40 * 40).up(), 3201)
        self.check_items((term("(x)>") * 40 * 40 + term("(y)>") * 40 * 10).up(), 4001)
        self.check_items((term("(x)>") * 40 * 40 + term("(y)>") * 40 * 9 + term("(z)>") * 39).up(), 3999)

    def test_heights(self):
        for many in (11, 12, 40, 200):
            self.check_items(grown(many, lambda one, at: one.up()), 2 ** many - 1)
            self.check_items(grown(many, lambda one, at: one.down()), 2 ** many - 1)
        for many in (150, 200):
            self.check_items(grown(many, lambda one, at: Term.shuffle(one).up()), 2 * many + 1)
            self.check_items(grown(many, lambda one, at: Term.shuffle(one.down())), 2 * many)

    def test_heights_fall(self):
        dice = random.Random(211)
        for _ in range(300):
            one = random_term(dice, 4, "xy")
            folded = second_folding(first_folding(one))
            if one.height > 0:
                self.assertLess(folded.height, one.height)
            else:
                self.assertEqual(folded.kind, "sign")
