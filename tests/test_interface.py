"""The interface of ../shared/DOC.md: names, parameters and the files that define them."""

import importlib
import inspect
import unittest

INTERFACE = {
    "books": ("made_book(thing)", "is_book(thing)", "columns(book)", "shared(book, i, j)", "neighbours(book, i, j)"),
    "groups": ("made_group(book, thing)", "group_columns(book, group)", "pieces(book, group)", "hangs(book, group)"),
    "data": (
        "made_data(book, thing)", "made_tags(book, data, thing)", "have(tags)", "shown(book, data, tags)",
        "quarrel(book, data, one, two)",
    ),
    "lots": ("is_lot(book, data, thing)", "lies_in(one, two)"),
    "whole": ("whole(book, data)", "is_whole(book, data, thing)"),
    "plans": (
        "made_plan(book, thing)", "made_part(book, thing)", "is_plan(book, thing)", "leaves(plan)", "forks(plan)",
        "cut(plan, group)", "plain(plan)", "plan_of(order)",
    ),
    "rules": (
        "made_rule(thing)", "is_rule(thing)", "answer(rule, fork, left, right)", "says(book, rule, fork, z, one, two)",
    ),
    "running": ("run(book, data, plan, rule)", "stages(book, data, plan, rule)"),
    "pairings": ("paired(book, data, plan, pairing)",),
    "forks": ("across(book, left, right)", "meet(book, left, right)", "good(book, left, right)"),
    "judge": ("plan_right(book, plan)", "judged(book, plan)"),
    "papers": ("spoilt(book, plan, paper)",),
    "splits": ("splits(book, group)",),
    "planner": ("plan(book)",),
    "rings": ("ring(book)", "why(book)", "made_ring(book, thing)"),
    "kernel": (
        "right_right(book, plan, zs)", "wrong_right(book, plan, paper)", "ring_right(book, sources, xs)",
        "stuck_right(book, group)", "coverer_right(book, source, group)",
    ),
    "ringrows": ("ring_rows(book, ring)", "ring_whole(book, ring)", "beats(book, ring, plan)"),
    "thirds": ("thirds(book)", "shows(book, plan)"),
    "orders": (
        "made_order(book, thing)", "order_right(book, order)", "order(book)", "stuck(book)", "any_plan(book)",
        "orders_count(book)",
    ),
    "counts": ("count(book)", "nth(book, k)", "number(book, plan)"),
    "costs": ("cost(book, data, plan, rule)", "cheapest(book, data)"),
    "mends": ("renamed(book, source, column)", "mends(book)", "aside(book)"),
    "parts": ("part_of(book, lots, group)", "join_of(book, lots, group)"),
    "bare": (
        "bare(book, data)", "coverer(book, source)", "told_back(book, rows, source)", "fillers(book, shown)",
        "twins(book, source)",
    ),
    "questions": (
        "made_question(book, thing)", "ask(book, data, question)", "ask_whole(book, data, lots, question)",
    ),
    "housetexts": (
        "made_house(thing)", "book_of(house)", "read_house(text)", "print_house(house)", "read_data(house, text)",
        "print_data(house, data)",
    ),
    "plantexts": (
        "read_plan(house, text)", "print_plan(house, plan)", "read_order(house, text)", "print_order(house, order)",
    ),
    "ruletexts": ("read_rule(house, text)", "print_rule(house, rule)"),
    "papertexts": (
        "read_judged(house, text)", "print_judged(house, told)", "read_why(house, text)", "print_why(house, told)",
    ),
    "questiontexts": (
        "read_question(house, text)", "print_question(house, question)", "print_lots(house, lots)",
    ),
    "desk": ("desk_of(house, data)",),
}
# The classes, as (file, name): how they are made, and their methods.
CLASSES = {
    ("kept", "Kept"): (
        "(book)", "put(self, source, row)", "take(self, source, tag)", "undo(self)", "redo(self)",
        "rows(self, source)", "whole(self)", "data(self)", "news(self)",
    ),
    ("along", "Along"): (
        "(book, plan)", "put(self, source, row)", "take(self, source, tag)", "rows(self, source)",
        "stage(self, fork)", "touched(self)",
    ),
    ("desk", "Desk"): ("(house)", "row(self, text)", "text(self)"),
}


class Interface(unittest.TestCase):

    def test_functions(self):
        for file, signatures in INTERFACE.items():
            module = importlib.import_module(f"behindboth.{file}")
            for signature in signatures:
                name = signature.split("(")[0]
                function = getattr(module, name)
                self.assertEqual(function.__module__, f"behindboth.{file}")
                self.assertEqual(name + str(inspect.signature(function)), signature)

    def test_classes(self):
        for (file, name), (made, *methods) in CLASSES.items():
            module = importlib.import_module(f"behindboth.{file}")
            told = getattr(module, name)
            self.assertEqual(told.__module__, f"behindboth.{file}")
            self.assertEqual(str(inspect.signature(told)), made)
            for signature in methods:
                method = signature.split("(")[0]
                self.assertIn(method, vars(told), "it is defined in the class itself")
                self.assertEqual(method + str(inspect.signature(vars(told)[method])), signature)


if __name__ == "__main__":
    unittest.main()
