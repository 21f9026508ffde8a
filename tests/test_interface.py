"""What the interface lists is defined in the file under which it stands, with its arguments."""

import importlib
import inspect
import unittest

FUNCTIONS = {
    "webs": [
        "components(web)", "renamed(web, names)", "coloured(web, colours)", "beside(webs)",
        "copies(web, many, *, most_places=240)", "within(web, names)",
    ],
    "texts": ["web_text(web)", "read_web(text)"],
    "rounds": ["rounds(webs, k)", "settled(webs)", "settling_round(webs)", "class_count(webs, k)"],
    "kin": [
        "alike(one, p, other, q, k)", "apart_at(one, p, other, q)", "kin(one, other, k)",
        "separating_round(one, other)", "shares(one, other, k)",
    ],
    "balanced": [
        "judge_balanced(web, value)", "table(web, colouring)", "numbered(web, value)", "refines(first, last)",
        "coarsest(web, colouring)", "common_coarser(web, first, last)",
    ],
    "foldings": [
        "judge_folding(over, web, value)", "places_over(over, web, folding)", "is_onto(over, web, folding)",
        "is_spread(over, web, folding)", "behind(first, last)", "led_up(over, web, folding, colouring)",
        "led_down(over, web, folding, colouring)", "way_product(web, way)", "ways_up(over, web, folding, way, start)",
    ],
    "turns": ["turned_copies(web, many, turns, *, most_places=240)"],
    "overs": [
        "judge_over(one, other, value)", "over_number(one, other)", "web_over(one, other, *, most_places=240)",
        "turned_paper(paper)", "folding_paper(web, folding)", "paper_behind(paper, first, last)",
        "component_paper(paper, place)", "pairs_over(paper)",
    ],
    "weights": [
        "judge_weights(one, other, value)", "weight_table(one, other)", "weights_behind(first, last)",
        "turned_over(table)", "added_weights(first, last)", "lessened(table)", "colours_of(table)",
        "weights_of_over(one, other, over)",
    ],
    "trees": [
        "need_tree(value)", "plain_tree(tree)", "knots(tree)", "height(tree)", "lays(web, place, tree)",
        "lays_into(web, tree)", "put_together(one, other)", "planted(colour, kind, tree)", "cut_tree(tree, high)",
    ],
    "bases": [
        "base(one, other, k, *, most_knots=60)", "separating_tree(one, other, *, most_knots=60)",
        "tree_between(one, p, other, q, *, most_knots=60)", "judge_tree(one, other, value, h)",
        "judge_tree_between(one, p, other, q, value, h)",
    ],
    "sayings": [
        "holds_at(web, saying)", "said_at(web, name, saying)", "depth(saying)", "denied(saying)", "all_of(sayings)",
        "either_of(sayings)", "some_of(n, kind, saying)", "tidied(saying)",
    ],
    "saidof": [
        "saying_of(webs, place, k)", "separating_saying(one, other)", "saying_between(one, p, other, q)",
        "judge_saying(one, other, value, h)", "judge_saying_between(one, p, other, q, value, h)",
    ],
    "machines": [
        "is_machine(value)", "run(web, machine)", "run_rounds(web, machine)", "letter_counts(web, machine)",
        "separating_machine(one, other)", "judge_machine(one, other, value, h)", "class_machine(webs, k)",
        "judge_class_machine(webs, k, value)",
    ],
    "wishes": [
        "wish_machine(webs, wish)", "judge_wish(webs, wish, value)", "first_places(web)", "first_machine(web, name)",
        "marked(web, names)", "alike_pair(web, names)", "fewest_marks(web)",
    ],
    "changes": [
        "with_tie(web, one, other, kind, width)", "without_tie(web, one, other, kind)",
        "widened(web, one, other, kind, more)", "times(web, kind, many)", "struck(web, kind)",
        "merged_kinds(web, kind, into)", "mapped_colours(web, colours)",
        "product(one, other, colours, *, most_places=240)", "moving_product(one, other, colours, *, most_places=240)",
        "taken_out(webs, number)",
    ],
    "ledtables": [
        "copied_table(table, many)", "product_table(first, second)", "beside_table(first, second)",
        "taken_out_table(one, other, table, number)",
    ],
    "branches": [
        "elders(office, number)", "come_of(office, number)", "last_common(office, one, other)",
        "line_to(office, number)", "clashes(office, one, other)", "attempt(office, action)", "tried(office, deeds)",
    ],
    "watching": [
        "verdict(office, number, one, other)", "verdicts(office, number)", "verdict_paper(office, number, one, other)",
        "judge_verdict(office, number, one, other, value)", "wish_of(office, number, names)",
        "wish_result(office, number, names)", "barred_webs(office, number)", "changes(office, first, second)",
        "would_change(office, deed)", "verdict_line(office, one, other)", "steady_from(office, one, other)",
        "first_turn(office, one, other, deeds)",
    ],
}
METHODS = {
    ("webs", "Web"): [
        "__init__(self, places, ties)", "places(self)", "colour(self, name)", "ties(self)", "kinds(self)",
        "colours(self)", "width(self, one, other, kind)", "__contains__(self, name)", "__len__(self)",
        "__eq__(self, other)",
    ],
    ("office", "Office"): [
        "__init__(self)", "do(self, deed)", "undo(self)", "redo(self)", "web(self, name)", "wanted(self, name)",
        "webs(self)", "moment(self, number)", "now(self)", "present(self)", "log(self)", "branch(self, name)",
        "go(self, name)", "here(self)", "branches(self)", "trail(self, name)", "mark(self, name)", "merge(self, name)",
        "twin(self)", "__len__(self)", "__eq__(self, other)",
    ],
}


class InterfaceTest(unittest.TestCase):

    def test_functions(self):
        for name, listed in FUNCTIONS.items():
            module = importlib.import_module("namelessly." + name)
            for line in listed:
                function = getattr(module, line.partition("(")[0])
                self.assertEqual(function.__module__, module.__name__, line)
                self.assertEqual(function.__name__ + str(inspect.signature(function)), line)

    def test_methods_stand_in_the_class_itself(self):
        for (name, title), listed in METHODS.items():
            made = getattr(importlib.import_module("namelessly." + name), title)
            self.assertEqual(made.__module__, "namelessly." + name)
            for line in listed:
                method = vars(made)[line.partition("(")[0]]
                self.assertEqual(method.__name__ + str(inspect.signature(method)), line)


if __name__ == "__main__":
    unittest.main()
