"""The interface: names, arguments, and the files in which things are defined."""

import ast
import os
import unittest

PACKAGE = os.path.join(os.path.dirname(os.path.dirname(os.path.abspath(__file__))), "kithwhole")

FUNCTIONS = {
    "naming": {"format_name": "name", "parse_name": "text", "parse_spot": "text", "parse_mark": "text"},
    "changes": {"in_past": "name change", "order_key": "change", "in_order": "changes"},
    "store": {"is_whole": "store"},
    "rights": {
        "capability_info": "store capability", "is_above": "store first second", "is_fit": "store change",
        "revoked_by": "store change", "verdicts": "store", "is_held": "store allowed capability",
        "may_read": "store allowed member space", "counts_in": "store allowed change space",
        "writing_capabilities": "store allowed member space", "allowed_seals": "store allowed"},
    "undo": {
        "knows": "store spot other", "is_closed": "store allowed spot name",
        "undone_by": "store allowed change space", "taking_effect": "store allowed space",
        "effective_acts": "store allowed space"},
    "cells": {"shown_writes": "store allowed writes", "has_kind": "holds value"},
    "letters": {"characters": "store allowed space row column", "text_of": "store allowed space row column"},
    "yielding": {"reasons": "sheet", "showing": "sheet table", "conflicts": "sheet"},
    "stocks": {"flows": "sheet row column", "shares": "sheet row column", "shorts": "sheet"},
    "sources": {"sources": "store allowed space", "all_sources": "store"},
    "danger": {"danger": "store allowed space row column member amount"},
    "lenses": {"through": "store member capability space lens edits"},
    "tokens": {"tokenize": "text", "write_token": "token"},
    "parser": {"parse": "text"},
    "printer": {"write_question": "tree"},
    "kinds": {
        "kind_of": "value", "fits": "first second", "common": "first second", "check": "tree sources parameters",
        "check_query": "query sources parameters"},
    "values": {
        "value_key": "value", "row_key": "row", "same": "first second", "arithmetic": "operator first second",
        "compare": "operator first second", "negation": "value", "conjunction": "first second",
        "disjunction": "first second"},
    "meaning": {"query_rows": "query sources parameters", "answer": "tree sources parameters"},
    "live": {
        "came": "old new", "went": "old new", "change_of": "old new",
        "join_change": "old_left new_left old_right new_right condition"},
    "moments": {
        "is_moment": "store counts", "at": "store counts", "meet": "first second", "join": "first second",
        "moment_of": "store name", "chain": "store", "between": "store first second tree parameters",
        "history": "store tree parameters"},
}

METHODS = {
    ("changes", "Change"): {
        "__init__": "author number heard capability publics parts", "name": "", "header": "", "with_parts": "parts"},
    ("store", "Kept"): {"__init__": "acts sums texts shares", "data": ""},
    ("store", "Store"): {
        "__init__": "members", "count": "member", "counts": "", "find": "name", "has": "name", "all_changes": "",
        "add": "change", "copy": "", "data": ""},
    ("sources", "Source"): {"__init__": "name columns kinds rows"},
    ("live", "Live"): {"__init__": "tree parameters", "turn": "sources"},
    ("sheets", "Sheet"): {
        "__init__": "store allowed space", "lens": "spot", "knows": "spot other", "act_of": "spot",
        "holds": "column", "table_of": "spot", "writes": "row column", "shown": "row column",
        "counted": "row column", "entry": "row column"},
}


def parsed(module):
    with open(os.path.join(PACKAGE, module + ".py"), encoding="utf-8") as file:
        return ast.parse(file.read())


def arguments(function):
    return " ".join(each.arg for each in function.args.args)


class Interface(unittest.TestCase):
    def test_functions_are_defined_in_their_files(self):
        for module, functions in FUNCTIONS.items():
            here = {node.name: arguments(node) for node in parsed(module).body if isinstance(node, ast.FunctionDef)}
            for name, told in functions.items():
                self.assertEqual(here.get(name), told, name)

    def test_classes_define_their_methods(self):
        for (module, name), methods in METHODS.items():
            classes = {node.name: node for node in parsed(module).body if isinstance(node, ast.ClassDef)}
            here = {node.name: arguments(node) for node in classes[name].body if isinstance(node, ast.FunctionDef)}
            for method, told in methods.items():
                self.assertEqual(here.get(method), ("self " + told).strip(), (name, method))

    def test_all_can_be_imported(self):
        for module, functions in FUNCTIONS.items():
            loaded = __import__("kithwhole." + module, fromlist=["*"])
            for name in functions:
                self.assertTrue(callable(getattr(loaded, name)))


if __name__ == "__main__":
    unittest.main()
