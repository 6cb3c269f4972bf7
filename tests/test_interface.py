"""The names, parameters and classes that the document's interface lists."""

import importlib
import inspect
import unittest

from lastpasted import errors
from lastpasted.board import Board
from tests.support import FIELDS, Case

FUNCTIONS = {
    "bills": {
        "is_fence": "thing",
        "names": "fence",
        "bill_of": "fence name",
        "over": "fence cell",
        "lies_over": "fence name cell",
        "shared": "fence one other",
        "meet": "fence one other",
        "meeting": "fence",
        "pieces": "fence",
        "gaps": "fence",
        "piece_of": "fence cell",
        "over_pieces": "fence",
        "moved": "fence number",
        "turned_about": "fence",
        "cut_to": "fence first last",
        "without": "fence some",
        "with_bill": "fence bill",
        "renamed": "fence pairs",
    },
    "cases": {
        "is_case": "thing",
        "is_history": "fence photos thing",
        "there_at": "history photo",
        "slot_of": "history name",
        "seen_at": "fence history photo cell",
        "seen_on": "fence history photo",
        "fits": "case history",
        "wrong_in": "case history",
        "with_telling": "case photo cell seen",
        "with_fact": "case fact",
        "with_photo": "case",
        "photographed": "fence history",
    },
    "latest": {
        "can_fit": "case",
        "a_clash": "case",
        "is_clash": "case thing",
        "latest": "case",
        "latest_history": "case",
        "is_latest_history": "case thing",
        "why_there": "case name photo",
        "is_why_there": "case name photo thing",
    },
    "sure": {
        "surely_there": "case photo",
        "surely_not": "case photo",
        "slots": "case name",
        "surely_before": "case one other",
        "sure_order": "case",
        "answers": "case photo cell",
        "sure_answer": "case photo cell",
        "sure_look": "case photo",
    },
    "pairs": {
        "is_sight": "fence thing",
        "is_sights": "fence thing",
        "clash": "fence one other",
        "clashes": "fence sights",
        "free_sights": "fence sights",
        "hold_together": "fence sights",
        "order_for": "fence sights",
        "is_order_for": "fence sights thing",
        "surely_below": "fence sights",
        "sure_layers": "fence sights",
        "seen_there": "fence sights cell",
        "seen_together": "fence sights asked",
        "sure_cells": "fence sights",
    },
    "stacks": {
        "is_full_order": "fence thing",
        "stack_of": "fence order",
        "same_stack": "fence one other",
        "is_stack": "fence thing",
        "order_of": "fence stack",
        "least_order": "fence stack",
        "how_many_orders": "fence stack",
        "how_many_stacks": "fence",
        "nth_stack": "fence number",
        "number_of_stack": "fence stack",
        "exchanges": "fence one other",
        "on_top": "fence stack cell",
        "torn_off": "fence stack gone",
    },
    "looks": {
        "look_of": "fence order",
        "is_look": "fence thing",
        "first_wrong": "fence seen",
        "look_order": "fence look",
        "how_many_looks": "fence",
        "nth_look": "fence number",
        "number_of_look": "fence look",
        "how_many_with": "fence wishes hidden",
        "nth_with": "fence wishes hidden number",
        "shown_with": "fence wishes hidden",
        "how_many_show": "fence",
    },
    "lost": {
        "is_loose_case": "thing",
        "is_bounds": "case thing",
        "least_fence": "case bounds",
        "can_hold": "case bounds",
        "surely_over": "case bounds name cell",
        "may_lie": "case bounds name first last",
        "reach": "case bounds name",
    },
    "anew": {
        "top": "fence order cell",
        "shows": "fence order wishes",
        "shown": "fence order wishes",
        "lacking": "fence order wishes",
        "pasted_anew": "order row",
        "anew": "fence order wishes",
        "anew_row": "fence order wishes",
        "is_anew_row": "fence order wishes thing",
        "least_price": "fence order wishes prices",
        "to_tear": "fence order wishes",
        "anew_stack": "fence one other",
        "stack_row": "fence one other",
        "is_stack_row": "fence one other thing",
    },
    "shown": {
        "seen_in": "fence order",
        "own_pieces": "fence name",
        "surely_seen": "fence",
        "may_hide": "fence those",
        "may_show": "fence those",
        "can_be_just": "fence those",
        "hiding_order": "fence those",
        "showing_order": "fence those",
        "just_order": "fence those",
        "fewest_seen": "fence",
        "fewest_set": "fence",
        "most_seen": "fence",
        "most_set": "fence",
        "how_many_just": "fence",
        "all_just": "fence",
    },
    "column": {
        "is_column": "size thing",
        "over_round": "size column cell",
        "meet_round": "size column",
        "round_turned": "size column number",
        "can_hold_round": "size column sights",
        "round_order": "size column sights",
        "is_round_order": "size column sights thing",
        "clashing_sights": "size column sights",
        "a_round": "size column sights",
        "is_round": "size column sights thing",
        "some_round": "size column",
        "surely_above": "size column sights",
        "round_answers": "size column sights cell",
        "how_many_round_stacks": "size column",
    },
    "hands": {
        "is_hands": "fence thing",
        "can_weave": "fence hands sights",
        "a_knot": "fence hands sights",
        "is_knot": "fence hands sights thing",
        "is_weaving": "fence hands sights thing",
        "how_many_weave": "fence hands sights",
        "nth_weave": "fence hands sights number",
        "number_of_weave": "fence hands sights weaving",
        "surely_ahead": "fence hands sights",
        "weave_answers": "fence hands sights cell",
        "seen_of": "fence hands sights place",
    },
    "wrong": {
        "left_out": "case gone",
        "a_core": "case",
        "is_core": "case thing",
        "all_cores": "case",
        "fewest_wrong": "case",
        "least_wrong": "case",
        "all_least_wrong": "case",
        "surely_wrong": "case",
        "suspects": "case",
        "trusted": "case",
    },
    "texts": {
        "fence_text": "fence",
        "told_text": "told",
        "facts_text": "facts",
        "history_text": "history",
        "stack_text": "stack",
        "case_text": "case",
        "fence_read": "text",
        "told_read": "text",
        "facts_read": "text",
        "history_read": "text",
        "stack_read": "text",
        "case_read": "text",
    },
    "desk": {
        "is_request": "thing",
        "replies": "text",
    },
}

BOARD = {
    "case": "self",
    "told_of": "self name",
    "paste": "self name first last",
    "snap": "self",
    "tell": "self photo cell seen",
    "know": "self fact",
    "undo": "self",
    "deeds": "self",
    "twin": "self",
}

BASES = {
    "NoName": LookupError,
    "NoPhoto": LookupError,
    "NoNumber": LookupError,
    "NothingDone": LookupError,
    "NoHistory": ValueError,
    "NotOver": ValueError,
    "Twice": ValueError,
    "BadText": ValueError,
    "BadLine": ValueError,
}


class Interface(Case):
    def test_functions(self):
        for file, table in FUNCTIONS.items():
            module = importlib.import_module("lastpasted." + file)
            for name, words in table.items():
                with self.subTest(file=file, name=name):
                    self.check_function(module, getattr(module, name), words.split())

    def check_function(self, module, call, words):
        self.assertTrue(inspect.isfunction(call))
        self.assertEqual(call.__module__, module.__name__)
        parameters = inspect.signature(call).parameters.values()
        self.assertEqual([part.name for part in parameters], words)
        for part in parameters:
            self.assertIs(part.kind, inspect.Parameter.POSITIONAL_OR_KEYWORD)
            self.assertIs(part.default, inspect.Parameter.empty)


class Boards(Case):
    def test_methods(self):
        self.assertEqual(Board.__module__, "lastpasted.board")
        self.assertEqual(Board.__bases__, (object,))
        for name, words in BOARD.items():
            call = vars(Board)[name]
            self.assertTrue(inspect.isfunction(call))
            self.assertEqual(list(inspect.signature(call).parameters), words.split())
        for name in ("__init__", "__len__", "__contains__", "__eq__"):
            self.assertIn(name, vars(Board))


class Errors(Case):
    def test_bases(self):
        for name, base in BASES.items():
            error_class = getattr(errors, name)
            self.assertEqual(error_class.__bases__, (base,), name)
            self.assertEqual(error_class.__module__, "lastpasted.errors")

    def test_fields(self):
        values = {"name": "abc", "photo": 3, "number": -(10 ** 40), "cell": 10 ** 40}
        for name, fields in FIELDS.items():
            error_class = getattr(errors, name)
            given = [values[field] for field in fields]
            by_position = error_class(*given)
            by_names = error_class(**dict(zip(fields, given)))
            for error in (by_position, by_names):
                self.assertEqual(vars(error), dict(zip(fields, given)))

    def test_wanted_values(self):
        for name, fields in FIELDS.items():
            error_class = getattr(errors, name)
            if fields:
                with self.assertRaises(TypeError):
                    error_class()

    def test_order_of_values(self):
        error = errors.NotOver("a", 8)
        self.assertEqual((error.name, error.cell), ("a", 8))

    def test_caught_by_the_built_in_class(self):
        for name, base in BASES.items():
            error_class = getattr(errors, name)
            with self.assertRaises(base):
                raise error_class(*[1] * len(FIELDS[name]))


if __name__ == "__main__":
    unittest.main()
