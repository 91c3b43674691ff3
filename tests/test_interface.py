"""The interface: names, arguments, and the files in which things are defined."""

import ast
import os
import unittest

PACKAGE = os.path.join(os.path.dirname(os.path.dirname(os.path.abspath(__file__))), "kithwhole")

FUNCTIONS = {
    "naming": {"format_name": "name", "parse_name": "text", "parse_spot": "text", "parse_mark": "text"},
    "changes": {"in_past": "name change", "order_key": "change", "in_order": "changes"},
    "store": {"is_whole": "store"},
    "rights": {
        "capability_info": "store capability", "is_above": "store first second", "is_fit": "store change",
        "revoked_by": "store change", "verdicts": "store", "is_held": "store allowed capability",
        "may_read": "store allowed member space", "counts_in": "store allowed change space",
        "writing_capabilities": "store allowed member space", "allowed_seals": "store allowed"},
    "undo": {
        "knows": "store spot other", "is_closed": "store allowed spot name",
        "undone_by": "store allowed change space", "taking_effect": "store allowed space",
        "effective_acts": "store allowed space"},
    "cells": {"shown_writes": "store allowed writes", "has_kind": "holds value"},
    "letters": {"characters": "store allowed space row column", "text_of": "store allowed space row column"},
    "yielding": {"reasons": "sheet", "showing": "sheet table", "conflicts": "sheet"},
    "stocks": {"flows": "sheet row column", "shares": "sheet row column", "shorts": "sheet"},
    "sources": {"sources": "store allowed space", "all_sources": "store"},
    "danger": {"danger": "store allowed space row column member amount"},
    "lenses": {"through": "store member capability space lens edits"},
    "tokens": {"tokenize": "text", "write_token": "token"},
    "parser": {"parse": "text"},
    "printer": {"write_question": "tree"},
    "kinds": {
        "kind_of": "value", "fits": "first second", "common": "first second", "check": "tree sources parameters",
        "check_query": "query sources parameters"},
    "values": {
        "value_key": "value", "row_key": "row", "same": "first second", "arithmetic": "operator first second",
        "compare": "operator first second", "negation": "value", "conjunction": "first second",
        "disjunction": "first second"},
    "meaning": {"query_rows": "query sources parameters", "answer": "tree sources parameters"},
    "live": {
        "came": "old new", "went": "old new", "change_of": "old new",
        "join_change": "old_left new_left old_right new_right condition"},
    "moments": {
        "is_moment": "store counts", "at": "store counts", "meet": "first second", "join": "first second",
        "moment_of": "store name", "chain": "store", "between": "store first second tree parameters",
        "history": "store tree parameters"},
    "plans": {"plan_of": "query sources", "run": "plan sources parameters", "width": "plan sources"},
    "rules": {
        "applied": "plan step sources", "all_steps": "plan sources", "follow": "plan paper sources",
        "judge": "plan paper last sources"},
    "best": {
        "best": "plan sources parameters", "judge_best": "plan sources parameters table",
        "best_plan": "plan sources parameters"},
    "why": {
        "entries": "query sources parameters", "ways": "tree sources parameters row",
        "rests_on": "store allowed source row"},
    "spaces": {"shown_to": "store member", "agree": "first second", "joined": "first second"},
    "cutting": {
        "last_seal": "store", "before_seal": "store seal", "kept_capabilities": "store", "kept_of": "store space",
        "cut_at": "store seal", "is_known": "store space", "is_known_to": "store space seal"},
    "codes": {
        "write_number": "number", "write_integer": "number", "write_string": "text", "write_value": "value",
        "write_act": "act", "write_change": "change", "write_kept": "kept", "write_capability": "entry",
        "write_store": "store"},
    "packets": {"asking": "store member", "giving": "store packet", "taking": "store packet"},
    "log": {
        "write_record": "data", "checksum": "data", "read_records": "data", "log_start": "turn store",
        "read_log": "data members", "counting_file": "first second members"},
}

METHODS = {
    ("changes", "Change"): {
        "__init__": "author number heard capability publics parts", "name": "", "header": "", "with_parts": "parts"},
    ("store", "Kept"): {"__init__": "acts sums texts shares", "data": ""},
    ("store", "Store"): {
        "__init__": "members", "count": "member", "counts": "", "find": "name", "has": "name", "all_changes": "",
        "add": "change", "copy": "", "data": ""},
    ("sources", "Source"): {"__init__": "name columns kinds rows"},
    ("live", "Live"): {"__init__": "tree parameters", "turn": "sources"},
    ("sheets", "Sheet"): {
        "__init__": "store allowed space", "lens": "spot", "knows": "spot other", "act_of": "spot",
        "holds": "column", "table_of": "spot", "writes": "row column", "shown": "row column",
        "counted": "row column", "entry": "row column"},
    ("reading", "Reader"): {
        "__init__": "data", "read_number": "", "read_integer": "", "read_string": "", "read_value": "",
        "read_act": "", "read_change": "", "read_kept": "", "read_capability": "", "read_store": "", "end": ""},
    ("files", "File"): {
        "__init__": "", "write": "data steps", "shorten": "size steps", "flush": "steps", "content": "", "pending": "",
        "lose": "steps"},
    ("replica", "Replica"): {
        "__init__": "member members", "act": "capability publics parts", "have": "", "answer": "packet",
        "take": "packet", "ask": "text parameters moment", "history": "text parameters", "plan": "text parameters",
        "shares": "space row column", "danger": "space row column amount", "through": "capability space lens edits",
        "live": "text parameters", "why": "text parameters row", "conflicts": "space", "verdict": "name",
        "status": "", "trim": "", "open_again": "", "flush": "", "fail_after": "steps", "power": "first second",
        "log": "index"},
    ("replica", "Watch"): {"turn": ""},
}

# The arguments that may be left out, with what stands for them then.
DEFAULTS = {
    ("Kept", "__init__"): [()], ("Replica", "ask"): [(), None], ("Replica", "history"): [()], ("Replica", "plan"): [()],
    ("Replica", "live"): [()],
}
# The classes and the values of the interface besides, by module.
NAMES = {"rules": ["RULES"], "tokens": ["KEYWORDS"], "store": ["SPACES"], "why": [], "codes": []}


def parsed(module):
    with open(os.path.join(PACKAGE, module + ".py"), encoding="utf-8") as file:
        return ast.parse(file.read())


def arguments(function):
    return " ".join(each.arg for each in function.args.args)


class Interface(unittest.TestCase):
    def test_functions_are_defined_in_their_files(self):
        for module, functions in FUNCTIONS.items():
            here = {node.name: arguments(node) for node in parsed(module).body if isinstance(node, ast.FunctionDef)}
            for name, told in functions.items():
                self.assertEqual(here.get(name), told, name)

    def test_classes_define_their_methods(self):
        for (module, name), methods in METHODS.items():
            classes = {node.name: node for node in parsed(module).body if isinstance(node, ast.ClassDef)}
            here = {node.name: arguments(node) for node in classes[name].body if isinstance(node, ast.FunctionDef)}
            for method, told in methods.items():
                self.assertEqual(here.get(method), ("self " + told).strip(), (name, method))
            for node in [node for node in classes[name].body if isinstance(node, ast.FunctionDef) and node.name in methods]:
                given = [ast.literal_eval(each) for each in node.args.defaults]
                self.assertEqual(given, DEFAULTS.get((name, node.name), []), (name, node.name))

    def test_all_can_be_imported(self):
        for module, functions in FUNCTIONS.items():
            loaded = __import__("kithwhole." + module, fromlist=["*"])
            for name in functions:
                self.assertTrue(callable(getattr(loaded, name)))
            for name in NAMES.get(module, []):
                self.assertTrue(hasattr(loaded, name))


if __name__ == "__main__":
    unittest.main()
