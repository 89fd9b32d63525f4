"""The interface at the end of the document: names and arguments, as they are written there."""

import importlib
import inspect
import unittest

FUNCTIONS = {
    "signs": [
        "is_sign(thing)", "is_showing(thing)", "lots_of(thing)", "alikes(thing)", "look_alike(one, other)",
        "mistakes(one, other)", "price_meant(called, figure)",
    ],
    "apart": ["most_apart(signs)"],
    "cards": ["is_card(thing)", "quarrel_of(one, other)", "put_together(cards)"],
    "fits": ["best_fit(ones, others)"],
    "board": ["lates(prints)", "board(prints)", "rows_of(prints)", "called_price(prints, first)"],
    "stands": ["stands(many, deals)", "pieces(deals, member)", "gain(deals, member, price)"],
    "deliveries": ["fewest_deliveries(numbers)"],
    "ways": ["one_way(one, other, called)"],
    "books": ["first_lie(many, first, book)"],
    "texts": [
        "sign_text(sign)", "showing_text(showing)", "card_text(card)", "read_sign(text)", "read_showing(text)",
        "read_card(text)",
    ],
}

METHODS = {
    ("halls", "Hall"): [
        "__init__(self, many, first)", "hold(self, member, sign)", "lower(self, member, palm)",
        "take(self, member, offer, look, shown, seen)", "hand_in(self, member, bargain)", "settle(self, bargain)",
        "consent(self, member, bargain, price, count)", "go_on(self, ticks)", "close(self)", "back(self)",
        "now(self)", "called(self)", "is_open(self)", "offers(self)", "prints(self)", "deals(self)",
        "stands_now(self)", "book(self)", "bargain(self, number)", "quarrel(self, number)", "deliveries(self)",
    ],
    ("desk", "Desk"): ["__init__(self, many, first)", "say(self, row)"],
}


def module(name):
    return importlib.import_module("palmhall." + name)


class Interface(unittest.TestCase):
    def test_functions(self):
        for name, functions in FUNCTIONS.items():
            for wanted in functions:
                function = getattr(module(name), wanted.partition("(")[0])
                self.assertEqual(function.__name__ + str(inspect.signature(function)), wanted)
                self.assertEqual(function.__module__, "palmhall." + name)

    def test_methods_stand_in_the_class_itself(self):
        for (name, kind), methods in METHODS.items():
            for wanted in methods:
                method = vars(getattr(module(name), kind))[wanted.partition("(")[0]]
                self.assertEqual(method.__name__ + str(inspect.signature(method)), wanted)


if __name__ == "__main__":
    unittest.main()
