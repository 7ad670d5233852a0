"""The interface: each name in its module, with its arguments."""

import importlib
import inspect
import unittest

INTERFACE = {
    "riddles": {
        "is_riddle": ["thing"],
        "keeps": ["riddle", "thing"],
        "answers": ["riddle"],
        "narrowed": ["riddle", "name", "bit"],
    },
    "turnings": {
        "is_turning": ["names", "thing"],
        "led_sign": ["turning", "sign"],
        "led": ["riddle", "turning"],
        "led_answer": ["answer", "turning"],
        "behind": ["one", "other"],
        "back": ["turning"],
        "still": ["names"],
        "order_of": ["turning"],
    },
    "likenesses": {
        "is_likeness": ["riddle", "thing"],
        "likenesses": ["riddle"],
        "lots_of_signs": ["riddle"],
        "lots_of_clauses": ["riddle"],
        "kinds": ["riddle"],
        "first_of": ["riddle", "answer"],
        "many_kinds": ["riddle"],
    },
    "spans": {
        "spanned": ["names", "some"],
        "few_spanning": ["riddle"],
        "stays": ["riddle", "answer"],
        "lot_of": ["riddle", "answer"],
    },
    "rows": {
        "left": ["riddle", "rows"],
        "lost": ["riddle", "rows"],
        "are_sharp": ["riddle", "thing"],
        "sharp_rows": ["riddle"],
    },
    "papers": {
        "is_paper": ["riddle", "thing"],
        "follows": ["riddle", "clause"],
        "paper_of": ["riddle", "clause"],
    },
    "putting": {
        "may_put": ["riddle", "clause", "turning"],
        "is_putting": ["riddle", "thing"],
        "put_in": ["riddle", "putting"],
        "all_puttings": ["riddle"],
    },
    "makes": {
        "crowd": ["names", "least", "most"],
        "beside": ["one", "other"],
    },
    "alike": {
        "alike": ["one", "other"],
        "least_name": ["riddle"],
        "all_riddles": ["names", "clauses"],
    },
    "notes": {
        "riddle_text": ["riddle"],
        "answer_text": ["answer"],
        "turning_text": ["turning"],
        "riddle_read": ["text"],
        "turning_read": ["text"],
    },
    "desk": {
        "Desk": [],
    },
}


class Interface(unittest.TestCase):
    def test_names_and_arguments(self):
        for module, functions in INTERFACE.items():
            drawn = importlib.import_module("twinriddles." + module)
            for name, arguments in functions.items():
                with self.subTest(module=module, name=name):
                    signature = inspect.signature(getattr(drawn, name))
                    self.assertEqual(list(signature.parameters), arguments)

    def test_a_desk_is_told_lines(self):
        desk = importlib.import_module("twinriddles.desk").Desk()
        self.assertEqual(list(inspect.signature(desk.say).parameters), ["line"])


if __name__ == "__main__":
    unittest.main()
