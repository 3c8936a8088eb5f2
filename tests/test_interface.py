"""The interface: each name stands in its file, with its parameters by their names."""

import importlib
import inspect
import unittest

FUNCTIONS = {
    "trees": "is_signs(thing) is_tree(signs,thing) plain(signs,tree) size(signs,tree) depth(signs,tree) parts(signs,tree) "
             "alike(signs,one,other) trees_of_size(signs,size)",
    "books": "is_ask(thing) is_fit(ask,number) is_rule(signs,thing)",
    "wishes": "is_wish(thing) is_wished(wish,lot) lot_of(book,tree) is_of(book,wish,tree)",
    "broods": "cap_and_step(book) brood_of(book,lots) grown(book,brood,lot) step(book,sign,brood)",
    "tables": "lots(book) table(book) is_table(book,thing)",
    "made": "is_made(book,wish) least_size(book,wish) least(book,wish)",
    "endless": "is_finite(book,wish) all_trees(book,wish) growth(book,wish) is_growth(book,wish,thing)",
    "beside": "holds(one,wish,other,other_wish) parting(one,wish,other,other_wish) are_alike(one,wish,other,other_wish)",
    "counting": "count(book,wish,size) listed(book,wish,size) tree_at(book,wish,size,index) place_of(book,wish,tree)",
    "surroundings": "is_frame(signs,thing) filled(signs,frame,tree) parter(book,wish,one,other) "
                    "is_parter(book,wish,one,other,thing) are_kin(book,wish,one,other) kin_classes(book,wish)",
    "needless": "without_rule(book,index) without_ask(book,index,ask) needless_rules(book,wish) needless_asks(book,wish)",
    "mending": "least_added(book,wish,tree) least_taken(book,wish,tree)",
    "met": "numbers_met(book,wish,sign,kind) never_met(book,wish)",
    "nets": "is_net(signs,thing) net_sizes(signs,net) same_nodes(signs,net) net_lots(book,net) net_of(signs,tree) "
            "tree_of(signs,net)",
    "texts": "format_tree(signs,tree) format_rule(signs,rule) format_wish(wish) format_book(book) parse_tree(signs,text) "
             "parse_rule(signs,text) parse_wish(text) parse_book(text)",
}
CLASSES = {
    ("books", "Book"): ("signs,rules", "__eq__ __or__", "signs rules kinds"),
    ("reader", "Reader"): ("book", "begin(sign) close() undo() can_become(wish) must_become(wish) copy()", "lots signs"),
    ("document", "Document"): (
        "book,sign", "add(path,sign) remove(path) rename(path,sign) undo(steps) lot(path) failing(wish) copy()", "tree"),
    ("shell", "Shell"): ("", "run(line)", ""),
}


def named(text):
    name, _, passed = text.rstrip(")").partition("(")
    return name, [part for part in passed.split(",") if part]


class InterfaceTest(unittest.TestCase):
    def test_functions(self):
        for file, listed in FUNCTIONS.items():
            module = importlib.import_module(f"broodcounts.{file}")
            for name, passed in map(named, listed.split(" ")):
                function = getattr(module, name)
                self.assertTrue(inspect.isfunction(function))
                self.assertEqual(function.__module__, module.__name__)
                self.assertEqual(list(inspect.signature(function).parameters), passed, name)

    def test_classes(self):
        for (file, name), (passed, methods, properties) in CLASSES.items():
            module = importlib.import_module(f"broodcounts.{file}")
            there = getattr(module, name)
            self.assertEqual((there.__module__, there.__bases__), (module.__name__, (object,)))
            self.assertEqual(list(inspect.signature(there).parameters), [part for part in passed.split(",") if part])
            for method, parameters in map(named, methods.split(" ")):
                self.assertTrue(inspect.isfunction(vars(there)[method]))
                if "(" in methods:
                    self.assertEqual(list(inspect.signature(vars(there)[method]).parameters), ["self", *parameters])
            for told in properties.split():
                self.assertIsInstance(vars(there)[told], property)
            if name != "Shell":
                self.assertIn("__len__", vars(there))

    def test_steps_by_name_only(self):
        module = importlib.import_module("broodcounts.document")
        steps = inspect.signature(module.Document.undo).parameters["steps"]
        self.assertEqual((steps.kind, steps.default), (inspect.Parameter.KEYWORD_ONLY, 1))


if __name__ == "__main__":
    unittest.main()
