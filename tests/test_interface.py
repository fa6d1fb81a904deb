"""The interface: each name stands in its own file, with its arguments and in its own class."""

import ast
import inspect
import unittest
from importlib import import_module
from pathlib import Path

PACKAGE = Path(__file__).resolve().parent.parent / "wallwalks"

FUNCTIONS = {
    "goldens": ("golden(number)",),
    "tables": (
        "chain(ties)", "named(name)", "part(table, room)", "beside(table, other)", "renamed(table, renaming)",
        "likeness(table, other)",
    ),
    "changes": (
        "plain(table)", "level(table, vector, button)", "parting(change, other)", "many_words(change)",
        "least_words(change)",
    ),
    "steps": (
        "is_step(table, word, value)", "stepped(table, word, step)", "steps_of(table, word)", "is_least(table, word)",
        "spare(table, word)", "way(table, word, other_word)",
    ),
    "ends": (
        "kinds(table)", "names(table)", "weighing(table)", "is_finite(table)", "is_finite_room(table, room)",
        "how_many(table)", "top(table)", "room_top(table, room)", "degrees(table)", "climbing(table)",
    ),
    "counts": (
        "room_polynomial(table, room)", "growth(table)", "how_many_at(table, length)", "counts(table, many)",
        "how_many_by(table, length, modulus)", "speed(table)",
    ),
    "walls": (
        "wall_turned(change, wall)", "pairing(wall, other)", "meeting(wall, other)", "standing(wall, other)",
        "leading(wall, other)", "walls_at(table, depth)", "walls_all(table)",
    ),
    "crossings": (
        "crosses(change, wall)", "crossed(change)", "passed(table, word)", "place_of(change, wall)",
        "crossing(table, walls)",
    ),
    "machines": (
        "is_small(wall)", "walls_small(table)", "least_reader(table)", "first_reader(table)", "number_of(change)",
        "next_change(change)", "change_at(table, number)", "far_alike(table, word, other_word)", "far_lots(change)",
    ),
    "rooms": (
        "own_room(change)", "is_inside(change, room)", "split_behind(change, room)", "split_front(change, room)",
        "split_double(change, room, other_room)", "shared_room(change, room, other_room)", "distance(change, other)",
        "gate(change, other, room)", "hull(changes)", "shortest(table, room, length)",
    ),
    "carrying": (
        "room_moves(table, room)", "kin(table, room)", "carrying(table, room, other_room)",
        "is_carried(change, room, other_room)",
    ),
    "fronts": (
        "begins(change, other)", "common_front(change, other)", "common_end(change, other)",
        "least_continuation(change, other, most)", "facing_pair(change, other)", "beginnings(change)",
    ),
    "subwords": (
        "is_under(change, other)", "places(change, other)", "shortening(change, other)", "sticky(table, word)",
        "sticky_product(change, other)", "all_under(change)", "between(change, other)", "covered(change)",
    ),
    "laurents": ("letter(power)",),
    "sums": ("single(change)", "single_inverse(change)"),
    "pairs": ("gap(change, other)", "weave(change, other)", "link(change, other)", "balanced(change)"),
    "positives": (
        "without_front(positive, other)", "without_back(positive, other)", "shared_front(positive, other)",
        "shared_back(positive, other)", "shared_continuation(positive, other, most)", "lifted(change)",
        "led_down(positive)", "is_simple(positive)", "grains(positive)", "swaps(table, word, other_word)",
    ),
    "quotients": ("quotient_of(table, signed)", "top_form(quotient)", "shadow(quotient)"),
    "turns": (
        "order_of(change)", "carried_by(change, other)", "kept(change)", "shift(change)", "mirrors(change)",
        "class_of(change)", "classes(table)", "carrier(change, other)",
    ),
    "undoing": (
        "is_flip(change)", "is_opposite(table, room)", "opposite_rooms(table)", "settled(change)",
        "flip_carrier(change, other)", "flips(table)",
    ),
    "cards": (
        "cards_table(cards)", "deal_for(change)", "change_for(deal)", "deal_length(deal)", "deal_counts(deal)",
        "is_deal_under(deal, other_deal)",
    ),
    "signedcards": (
        "signed_table(cards)", "signed_for(change)", "signed_change(deal)", "signed_length(deal)", "spread(deal)",
        "is_signed_under(deal, other_deal)",
    ),
    "ringcards": (
        "ring_table(cards)", "ring_for(change)", "ring_length(deal)", "ring_change(deal)",
        "is_ring_under(deal, other_deal)", "throws(deal, balls)", "deal_of_throws(heights)",
    ),
    "wishes": ("is_wish(table, value)", "names_in(table, wish)", "holds(wish, pairs)"),
    "checker": ("accepts(claim, certificate)",),
    "certificates": (
        "certify_same(table, word, other_word)", "certify_least(table, word)", "certify_length(table, word)",
        "certify_finite(table)", "certify_kind(table, piece)", "certify_crossing(change, wall)",
        "certify_meeting(wall, other)", "certify_small(table)", "certify_rooms_carried(table, room, other_room)",
        "certify_top(table, room)", "certify_front(change, other)", "certify_continuation(change, other, most)",
        "certify_under(change, other)", "certify_words(table, word, other_word)", "certify_quotients(quotient, other)",
        "certify_order(change)", "certify_mirrors(change)", "certify_carried(change, other)", "certify_settled(change)",
        "certify_balanced(change)",
    ),
}

# For each class its making, properties, methods, static methods and signs. Of making a Reader nothing is said.
CLASSES = {
    ("goldens", "Golden"): (
        "(whole, gold=0)", ("whole", "gold", "sign", "text"), ("power(exponent)", "is_below(other)"), ("read(text)",),
        ("__add__", "__radd__", "__sub__", "__rsub__", "__mul__", "__rmul__", "__neg__", "__pow__", "__eq__", "__bool__"),
    ),
    ("tables", "Table"): (
        "(ties)", ("size", "ties", "weights", "pieces", "is_joined", "text"), ("tie(button, other_button)",),
        ("read(text)",), ("__eq__",),
    ),
    ("changes", "Change"): (
        "(table, word)", ("table", "word", "length", "images", "fronts", "backs", "parity", "text"),
        ("power(exponent)", "inverse()", "turned(vector)"), ("read(table, text)",),
        ("__mul__", "__pow__", "__eq__", "__bool__"),
    ),
    ("walls", "Wall"): (
        "(table, word, button)", ("table", "axis", "column", "depth", "road", "family", "mirror"), (), (), ("__eq__",),
    ),
    ("machines", "Reader"): (
        None, ("table", "walls", "states", "leads"), ("reads(word)", "state(word)", "how_many(length)"), (),
        ("__len__", "__eq__"),
    ),
    ("laurents", "Laurent"): (
        "(lowest, coefficients)", ("lowest", "highest", "coefficients", "barred", "total", "text"),
        ("coefficient(power)", "power(exponent)"), ("read(text)",),
        ("__add__", "__radd__", "__sub__", "__rsub__", "__mul__", "__rmul__", "__neg__", "__pow__", "__eq__", "__bool__"),
    ),
    ("sums", "Blend"): (
        "(table, terms)", ("table", "terms", "barred", "backward"), ("at(change)",), (),
        ("__add__", "__sub__", "__mul__", "__rmul__", "__neg__", "__eq__", "__bool__"),
    ),
    ("positives", "Positive"): (
        "(table, word)", ("table", "word", "length", "fronts", "backs", "text"), (), (), ("__mul__", "__eq__", "__bool__"),
    ),
    ("quotients", "Quotient"): (
        "(dividend, divisor)", ("table", "dividend", "divisor", "signed"), ("inverse()", "power(exponent)"), (),
        ("__mul__", "__pow__", "__eq__", "__bool__"),
    ),
    ("benches", "Bench"): (
        "(table)", ("table", "now", "home", "log"),
        ("do(deed)", "press(word)", "undo()", "go_home()", "trial()", "tried(action)"), (), ("__len__", "__bool__", "__eq__"),
    ),
    ("shelves", "Shelf"): (
        "(table)", ("table", "names", "wishes", "deeds"),
        ("put(name, change)", "put_all(pairs)", "named(name)", "drop(name)", "wish(wish)", "free(index)", "undo()", "trial()",
         "tried(action)"), (), ("__len__", "__bool__", "__contains__", "__eq__"),
    ),
    ("consoles", "Console"): ("(bench)", ("bench",), ("say(line)",), (), ("__eq__",)),
}


def signature(function, drop=0):
    """The name and the arguments of a function, the first ones left out."""
    arguments = list(inspect.signature(function).parameters.values())[drop:]
    return f"{function.__name__}({', '.join(map(str, arguments))})"


class InterfaceTest(unittest.TestCase):
    def defined(self, module):
        return {node.name for node in ast.parse((PACKAGE / f"{module}.py").read_text()).body
                if isinstance(node, (ast.FunctionDef, ast.ClassDef))}

    def test_functions(self):
        for module, told in FUNCTIONS.items():
            for text in told:
                name = text.split("(")[0]
                function = getattr(import_module(f"wallwalks.{module}"), name)
                self.assertIn(name, self.defined(module))
                self.assertEqual(signature(function), text)

    def test_classes(self):
        for (module, name), (making, properties, methods, statics, signs) in CLASSES.items():
            self.assertIn(name, self.defined(module))
            kind = getattr(import_module(f"wallwalks.{module}"), name)
            if making is not None:
                self.assertEqual(signature(kind), name + making)
            own = vars(kind)
            for told in properties:
                self.assertIsInstance(own[told], property)
            for text in methods:
                self.assertEqual(signature(own[text.split("(")[0]], drop=1), text)
            for text in statics:
                self.assertIsInstance(own[text.split("(")[0]], staticmethod)
                self.assertEqual(signature(getattr(kind, text.split("(")[0])), text)
            for told in signs:
                self.assertIn(told, own)


if __name__ == "__main__":
    unittest.main()
