"""The interface of ../shared/DOC.md: names, parameters and the files that define them."""

import importlib
import inspect
import unittest

INTERFACE = {
    "books": ("made_book(thing)", "is_book(thing)", "columns(book)", "shared(book, i, j)", "neighbours(book, i, j)"),
    "groups": ("made_group(book, thing)", "group_columns(book, group)", "pieces(book, group)", "hangs(book, group)"),
    "data": (
        "made_data(book, thing)", "made_tags(book, data, thing)", "have(tags)", "shown(book, data, tags)",
        "quarrel(book, data, one, two)",
    ),
    "lots": ("is_lot(book, data, thing)", "lies_in(one, two)"),
}


class Interface(unittest.TestCase):

    def test_functions(self):
        for file, signatures in INTERFACE.items():
            module = importlib.import_module(f"behindboth.{file}")
            for signature in signatures:
                name = signature.split("(")[0]
                function = getattr(module, name)
                self.assertEqual(function.__module__, f"behindboth.{file}")
                self.assertEqual(name + str(inspect.signature(function)), signature)


if __name__ == "__main__":
    unittest.main()
