"""The interface: each name stands in its file, with the arguments of the document."""

import importlib
import inspect
import unittest

from tests.support import ROW, TWO

FUNCTIONS = {
    "words": ["is_word(value)", "is_color(value)", "is_name(value)", "in_short_order(words)"],
    "least": ["least(book)", "parting_word(book, one, other, *, colors=True)",
              "first_difference(one, other, *, colors=True)", "same_words(one, other, *, colors=True)"],
    "listing": ["by_length(book, most=20)", "words_upto(book, length)", "count_of_length(book, length)",
                "count_words(book)", "is_finite(book)", "shortest(book)"],
    "languages": ["only(book, color)", "without(book, color)", "over(one, other)", "common(one, other)",
                  "under(book, word)", "behind(book, word)", "coded(book, code)", "recolored(book, **colors)"],
    "spans": ["below(book, word)", "above(book, word)", "between(book, *, low=None, high=None)",
              "distance(book, one, other)"],
    "far": ["is_far(value)", "far_length(far)", "far_letter(far, at)", "compare(one, other)", "plain(far)",
            "far_color(book, far)"],
    "falls": ["is_fall(book, value)", "is_rise(book, value)", "falls_to(book, word, value)",
              "rises_to(book, word, value)"],
    "steps": ["first_word(book)", "last_word(book)", "next_word(book, word)", "previous_word(book, word)",
              "upward(book, word, most)", "in_block(book, one, other)"],
    "farsteps": ["step(book, far, *, by=1)"],
    "classes": ["classes(book)", "class_of(book, node)", "class_letters(book, node)", "branches(book, node)"],
    "ways": ["first_way(book, node)", "last_way(book, node)", "kinds_of_gap(book, node)"],
    "places": ["place_of(book, word)", "is_place(book, value)", "place_order(book, one, other)",
               "gap_inside(book, kind, *, low=None, high=None)"],
    "rows": ["is_row(value)", "is_sign(value)", "least_row(row)", "row_text(row)", "shape(row)", "spot_at(row, at)",
             "same_rows(one, other)", "joined_rows(one, other)", "mirrored_row(row)", "even_sign(signs)", "read_sign(text)"],
    "terms": ["sign_term(sign)", "mirrored_sign(sign)"],
    "signs": ["expansion(sign)"],
    "plain": ["term_of(book, *, node=0)", "left_term(book, node)", "right_term(book, node)", "gap_terms(book, node)",
              "as_term(line)"],
    "machines": ["book_of(term)", "joined(*books)", "repeated(book, *, down=False)", "shuffled(*books)", "mirrored(book)",
                 "filled(book, **books)"],
    "folding": ["first_folding(term)"],
    "evens": ["second_folding(term)"],
    "dense": ["has_dense(line)", "is_dense(book, value)", "dense_paper(book)"],
    "keys": ["key_of(line)", "same_line(one, other)", "rank_of(line)"],
    "pieces": ["piece(book, word, level)", "pieces(book, word)"],
    "parting": ["parting(one, other)"],
    "wells": ["is_well(line)", "ordinal_of(line)", "fall_paper(book)", "rise_paper(book)"],
    "formulas": ["is_formula(value)", "depth_of(formula)", "formula_text(formula)", "read_formula(text)"],
    "profiles": ["profile_of(line, depth)", "spot_profile(color, depth)", "sum_profile(one, other, depth)",
                 "up_profile(one, depth)", "down_profile(one, depth)", "shuffle_profile(pieces, depth)", "lowered(one, depth)",
                 "satisfies(profile, depth, formula)", "holds(line, formula)"],
    "triples": ["triple_of(book, word, depth)", "shown(book, triple, depth)"],
    "telling": ["least_depth(one, other, *, depth=3)", "telling_formula(one, other, *, depth=3)"],
    "duels": ["reply(one, other, side, word, depth)"],
    "alllines": ["all_profiles(colors, depth)", "term_with(profile, colors, depth)", "is_shut(profiles, colors, depth)",
                 "model(formulas, *, colors=1)", "follows(formulas, formula, *, colors=1)"],
    "papers": ["judged(paper, one, other=None)"],
    "deeds": ["is_deed(value)", "made_by(deed, books)"],
    "bench": ["drafted(bench, work)"],
    "benchtexts": ["write_bench(bench)", "read_bench(text)", "replayed(journal)"],
}
METHODS = {
    ("books", "Book"): ["__init__(self, nodes)", "nodes(self)", "node_at(self, word, *, start=0)", "color_of(self, word)",
                        "check(self, word)", "live(self)", "has_words(self, node=0)", "text(self)", "read(text)"],
    ("terms", "Term"): ["empty()", "spot(color)", "shuffle(first=None, *others)", "read(text)", "mirror(self)", "up(self)",
                        "down(self)", "filled(self, **terms)", "signs(self)", "text(self)"],
    ("keys", "Ladder"): ["__init__(self, line)", "term_at(self, n)", "signs_at(self, n)", "levels(self)"],
    ("matching", "Matching"): ["__init__(self, one, other)", "mate(self, side, word)", "pairs(self)", "twin(self)"],
    ("ordinals", "Ordinal"): ["__init__(self, *terms)", "of(cls, number)", "is_limit(self)", "text(self)"],
    ("duels", "Duel"): ["__init__(self, one, other, *, depth=3)", "books(self)", "choose(self)", "answer(self, word)",
                        "twin(self)"],
    ("bench", "Bench"): ["__init__(self)", "do(self, *deeds)", "keep(self, **books)", "undo(self)", "redo(self)", "steps(self)",
                         "journal(self)", "names(self)", "book(self, name)", "shelf(self)", "change_limit(self, number)",
                         "match(self, one, other)", "mate(self, number, side, word)", "pairs(self, number)", "sessions(self)",
                         "draft(self)", "tried(self, *deeds)", "say(self, line)", "log(self)", "text(self)", "twin(self)"],
    ("bench", "Draft"): ["__init__(self, bench)", "do(self, *deeds)", "book(self, name)", "names(self)", "keep(self)"],
}
OPERATORS = {
    ("books", "Book"): ["__contains__", "__eq__", "__len__", "__str__", "__repr__"],
    ("terms", "Term"): ["__add__", "__mul__", "__neg__", "__eq__", "__bool__", "__len__", "__str__", "__repr__"],
    ("keys", "Ladder"): ["__len__", "__repr__"],
    ("matching", "Matching"): ["__contains__", "__bool__", "__len__", "__repr__"],
    ("ordinals", "Ordinal"): ["__add__", "__mul__", "__eq__", "__lt__", "__le__", "__gt__", "__ge__", "__bool__", "__str__",
                              "__repr__"],
    ("duels", "Duel"): ["__repr__"],
    ("bench", "Bench"): ["__call__", "__contains__", "__eq__", "__bool__", "__len__", "__repr__"],
    ("bench", "Draft"): ["__enter__", "__exit__"],
}
STATIC = {("books", "Book"): ["read"], ("terms", "Term"): ["empty", "spot", "shuffle", "read"]}
CLASS_METHODS = {("ordinals", "Ordinal"): ["of"]}
PROPERTIES = {("terms", "Term"): ["height", "is_empty"], ("keys", "Ladder"): ["end", "key"], ("duels", "Duel"): ["won"],
              ("bench", "Bench"): ["limit", "busy"], ("bench", "Draft"): ["is_open"]}
GENERATORS = [("listing", "by_length"), ("steps", "upward")]


def module_of(name):
    return importlib.import_module(f"lexiconlines.{name}")


class InterfaceTest(unittest.TestCase):

    def test_functions(self):
        for name, told in FUNCTIONS.items():
            for line in told:
                found = getattr(module_of(name), line.partition("(")[0])
                self.assertEqual(found.__module__, f"lexiconlines.{name}")
                self.assertEqual(found.__name__ + str(inspect.signature(found)), line)

    def test_methods_stand_in_the_class_itself(self):
        for (name, title), told in METHODS.items():
            found = getattr(module_of(name), title)
            self.assertEqual(found.__module__, f"lexiconlines.{name}")
            for line in told:
                method = found.__dict__[line.partition("(")[0]]
                method = method.__func__ if isinstance(method, (staticmethod, classmethod)) else method
                self.assertEqual(method.__name__ + str(inspect.signature(method)), line)
            for operator in OPERATORS[name, title]:
                self.assertIn(operator, found.__dict__)
            for kind, names in ((staticmethod, STATIC), (classmethod, CLASS_METHODS), (property, PROPERTIES)):
                held = [told for told, value in found.__dict__.items() if isinstance(value, kind)]
                self.assertEqual(sorted(held), sorted(names.get((name, title), [])))

    def test_generators(self):
        for name, title in GENERATORS:
            self.assertTrue(inspect.isgeneratorfunction(getattr(module_of(name), title)), title)
        self.assertTrue(inspect.isgeneratorfunction(module_of("keys").Ladder.levels))

    def test_attributes_are_set_at_once(self):
        matching = module_of("matching").Matching(ROW, ROW)
        self.assertEqual((matching.one, matching.other), (ROW, ROW))
        self.assertEqual(module_of("ordinals").Ordinal((1, 1)).terms, ((1, 1),))
        self.assertEqual(module_of("duels").Duel(ROW, TWO).rounds, 0)
