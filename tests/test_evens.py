"""The second folding: each case of the document, and even sets written in several ways."""

from lexiconlines.errors import TooMany
from lexiconlines.evens import second_folding
from lexiconlines.terms import Term, sign_term
from tests.support import LexiconCase, grown


def term(text):
    return Term.read(text)


class SecondFoldingTest(LexiconCase):

    def check_foldings(self, table):
        for text, told in table.items():
            self.assertEqual(second_folding(term(text)).text(), told, text)

    def check_mirrored(self, table):
        """Checks foldings and those of the mirrored terms."""
        self.check_foldings(table)
        for text, told in table.items():
            # In these tables the even signs hold colors alone, so they are their own mirrors.
            self.assertEqual(second_folding(-term(text)), -second_folding(term(text)), text)

    def test_examples(self):
        self.check_foldings({"{x,y}x{x,y}": "[{x,y}]", "{x}y{x}": "[{x}]y[{x}]", "(x{x})>": "x[{x}]",
                             "{x}({x}y)>": "[{x}]y([{x}]y)>"})

    def test_sums(self):
        self.check_mirrored({
            "0": "0", "x": "x", "xy": "xy", "{x}": "[{x}]", "{x}{x}": "[{x}]", "{x}{x}{x}x{x}": "[{x}]", "{x}x": "[{x}]x",
            "x{x}x": "x[{x}]x", "{x}xx{x}": "[{x}]xx[{x}]", "{x,y}y{x,y}x{x,y}": "[{x,y}]", "{x}{y}": "[{x}][{y}]",
            "{x}{y}{x}": "[{x}][{y}][{x}]", "{x,y}x{x}": "[{x,y}]x[{x}]", "{x}x{x,y}": "[{x}]x[{x,y}]", "{x,y}z{x,y}": "[{x,y}]z[{x,y}]",
            "{x}(x)>{x}": "[{x}](x)>[{x}]", "y{x}x{x}y": "y[{x}]y",
        })

    def test_up_of_an_even_set(self):
        self.check_mirrored({
            "({x})>": "[{x}]", "({x}x)>": "[{x}]", "(x{x})>": "x[{x}]", "({x,y}y)>": "[{x,y}]", "(y{x,y})>": "y[{x,y}]",
            "({x}{x})>": "[{x}]", "({x}x{x})>": "[{x}]", "({x}x{x}x)>": "[{x}]", "(({x})>)>": "[{x}]", "((x{x})>)>": "x[{x}]",
        })

    def test_down_of_an_even_set(self):
        self.check_mirrored({
            "<({x})": "[{x}]", "<(x{x})": "[{x}]", "<({x}x)": "[{x}]x", "<({x,y}y)": "[{x,y}]y", "<(x{x}x{x})": "[{x}]",
            "<(<({x}x))": "[{x}]x", "<(({x})>)": "[{x}]",
        })

    def test_up_of_a_term_with_even_ends(self):
        self.check_mirrored({
            "({x}y{x})>": "[{x}]y([{x}]y)>", "(x{x}y{x})>": "x[{x}]y([{x}]y)>", "({x}y{x}x)>": "[{x}]y([{x}]y)>",
            "(x{x}y{x}x)>": "x[{x}]y[{x}]x(x[{x}]y[{x}]x)>", "({x,y}z{x,y}y)>": "[{x,y}]z([{x,y}]z)>",
            "(y{x,y}zz{x,y})>": "y[{x,y}]zz([{x,y}]zz)>", "({x}{y}{x})>": "[{x}][{y}]([{x}][{y}])>",
            "({x}(y)>{x})>": "[{x}](y)>([{x}](y)>)>",
        })

    def test_up_of_a_term_with_an_even_beginning(self):
        self.check_mirrored({
            "({x}y)>": "[{x}]y([{x}]y)>", "(x{x}y)>": "x[{x}]y(x[{x}]y)>", "(x{x}x)>": "x[{x}]x(x[{x}]x)>",
            "({x}{y})>": "[{x}][{y}]([{x}][{y}])>", "({x}y{x,y})>": "[{x}]y[{x,y}]([{x}]y[{x,y}])>",
            "{x}({x}y)>": "[{x}]y([{x}]y)>", "{x}(x{x}y)>": "[{x}]y(x[{x}]y)>", "{x}x({x}y)>": "[{x}]y([{x}]y)>",
        })

    def test_up_of_other_terms(self):
        self.check_mirrored({
            "(x)>": "(x)>", "(y{x})>": "(y[{x}])>", "(y{x}x)>": "(y[{x}]x)>", "(xx{x})>": "(xx[{x}])>", "((y)>{x})>": "((y)>[{x}])>",
            "{x}(y{x})>": "[{x}](y[{x}])>",
        })

    def test_down_of_other_terms(self):
        self.check_mirrored({
            "<(x)": "<(x)", "<({x}y)": "<([{x}]y)", "<(y{x})": "<(y[{x}])y[{x}]", "<(y{x}){x}": "<(y[{x}])y[{x}]",
            "<(y{x}x){x}": "<(y[{x}]x)y[{x}]", "<({x}y{x})": "<(y[{x}])y[{x}]", "<(x{x}y{x})": "<(y[{x}])y[{x}]",
            "<({x}y{x}x)": "<(y[{x}])y[{x}]x", "<(x{x}y{x}x)": "<(x[{x}]y[{x}]x)x[{x}]y[{x}]x",
        })

    def test_shuffles_that_are_even(self):
        self.check_mirrored({
            "{x,y,z}": "[{x,y,z}]", "{{x}}": "[{x}]", "{{x,y},x}": "[{x,y}]", "{{x,y},x{x,y}}": "[{x,y}]",
            "{x{x,y}y,y{x,y},{x,y}x,{x,y},x}": "[{x,y}]", "{{x}{x},x,{x}x{x}}": "[{x}]", "{({x}x)>,x}": "[{x}]", "{(x{x})>}": "[{x}]",
            "{{{x}},{x}}": "[{x}]",
        })

    def test_shuffles_that_are_not(self):
        self.check_foldings({
            "{xy}": "{xy}", "{x,xy}": "{x,xy}", "{(x)>,x}": "{(x)>,x}", "{{x},y}": "{[{x}],y}", "{{x}y}": "{[{x}]y}", "{{x},{y}}": "{[{x}],[{y}]}",
            "{x{x},y}": "{x[{x}],y}", "{x{x,y}z}": "{x[{x,y}]z}", "{{x},{x,y}}": "{[{x,y}],[{x}]}", "{xx{x}}": "{xx[{x}]}",
            "{{x}{y}}": "{[{x}][{y}]}", "{{x}x{x},y}": "{[{x}],y}", "{y,{x}{x},{x}}": "{[{x}],y}", "{{x},{y{x}}}": "{[{x}],{y[{x}]}}",
        })

    def test_old_even_signs_are_no_new_ones(self):
        old = sign_term("[{x}]")
        new = term("{x}")
        for one, told in [
            (old + new, "[{x}][{x}]"), (old + old, "[{x}][{x}]"), (new + old + new, "[{x}][{x}][{x}]"), (old.up(), "([{x}])>"),
            ((old + term("y")).up(), "([{x}]y)>"), (Term.shuffle(old), "[{[{x}]}]"), (Term.shuffle(old) + old + Term.shuffle(old), "[{[{x}]}]"),
            (Term.shuffle(old, new), "{[{x}]}"), (old + term("x") + new, "[{x}]x[{x}]"),
            (Term.shuffle(old, term("y")) + new + Term.shuffle(old, term("y")), "[{[{x}],y}][{x}][{[{x}],y}]"),
            ((Term.shuffle(old, term("y")) + new).up(), "[{[{x}],y}][{x}]([{[{x}],y}][{x}])>"),
        ]:
            self.assertEqual(second_folding(one).text(), told)

    def test_signs_of_all_kinds(self):
        row, even = sign_term("[(x)>]"), sign_term("[{x,y}]")
        both = Term.shuffle(row, even, term("x"))
        self.assertEqual(second_folding(both).text(), "[{[(x)>],[{x,y}],x}]")
        self.assertEqual(second_folding(both + row + both).text(), "[{[(x)>],[{x,y}],x}]")
        self.assertEqual(second_folding((both + even).up()).text(), "[{[(x)>],[{x,y}],x}]")
        self.assertEqual(second_folding((row + both).up()).text(), "[(x)>][{[(x)>],[{x,y}],x}]")
        self.assertEqual(second_folding(term=both + term("y") + both).text(), "[{[(x)>],[{x,y}],x}]y[{[(x)>],[{x,y}],x}]")
        self.assertEqual(second_folding(Term.shuffle(row + both + even, both)).text(), "[{[(x)>],[{x,y}],x}]")

    def test_heights(self):
        self.assertEqual(second_folding(grown(200, lambda one, at: Term.shuffle(one))).text(), "[{x}]")
        one = grown(150, lambda one, at: Term.shuffle(one + Term.spot("y")))
        self.assertEqual(second_folding(one), one)

    def test_arguments_stay(self):
        one = term("(x{x}y{x})>")
        second_folding(one)
        self.assertEqual(one.text(), "(x{x}y{x})>")


class ItemsTest(LexiconCase):

    def check_items(self, one, many):
        if many <= 4000:
            self.assertEqual(len(second_folding(one)), many)
        else:
            self.check_error(TooMany, {"count": 4000}, second_folding, one)

    def test_items(self):
        many = term("y") * 40 * 40 + term("y") * 40 * 9 + term("y") * 38
        self.assertEqual(len(many), 1998)
        self.check_items((term("{x}") + many).up(), 3999)
        self.check_items(term("z") + (term("{x}") + many).up(), 4000)
        self.check_items(term("zz") + (term("{x}") + many).up(), 4001)
        self.check_items((term("{x}") + many + term("y")).up(), 4001)
        self.check_items((many + term("{x}x")).down(), 4001)
        # What the folding makes counts, not what it makes on the way: two entries are lost here.
        self.check_items(term("{x}") + (term("x{x}") + many).up(), 4000)
        self.check_items(term("y{x}") + (term("x{x}") + many).up(), 4001)

    def test_far_too_many_items(self):
        for many in (12, 40, 200):
            one = term("{x}y")
            for _ in range(many):
                one = one.up() + term("z")
            self.check_error(TooMany, {"count": 4000}, second_folding, one)
