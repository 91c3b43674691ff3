"""Points 117 to 121 and 105: edits through a lens, when they are taken, what is due, the errors and their order."""

import unittest

from kithwhole.errors import (
    EditError, NoSuchRow, NotWritable, TurnsMore, UncountedChange, WrongValue,
)
from kithwhole.lenses import through
from kithwhole.sources import all_sources
from tests.support import ALL_RIGHTS, NO, NO_RIGHTS, READ, Net, spot

T, U = (0, 1, 0), (0, 1, 1)
N, S, B, C, K, L, R, P = [(0, 1, place) for place in range(2, 10)]
V = (0, 1, 10)
HOLDS = [("n", "integer"), ("s", "text"), ("b", "boolean"), ("c", "counter"), ("k", "stock"), ("l", "letters"),
         ("r", ("refer", T)), ("p", ("refer", U))]
ALL = tuple((column, "x" + name) for column, (name, _) in zip((N, S, B, C, K, L, R, P), HOLDS))
LENS = (0, 2, 0)


class Base(unittest.TestCase):
    """Two tables; the lenses that are asked for are the acts of the second change, the rows those of the third."""

    def setUp(self):
        self.net = Net(3)
        acts = [("table", "t"), ("table", "u")] + [("column", T, name, holds) for name, holds in HOLDS]
        acts += [("column", U, "v", "integer")]
        self.net.change(0, acts, publics=[("grant", member, ALL_RIGHTS) for member in (1, 2)])

    def lenses(self, *lenses):
        """Make lenses (base, shown, fixed) that are called v0, v1 and so on."""
        self.net.change(0, [lens if len(lens) == 5 else ("lens", f"v{place}") + lens for place, lens in enumerate(lenses)])

    def act(self, *acts):
        return self.net.change(0, acts)

    def rows(self, *rows):
        """Make a row of the first table for each dict of values; returns their written forms."""
        number = self.net.store.count(0) + 1
        spots = [(0, number, place) for place in range(len(rows))]
        acts = [("row", T)] * len(rows)
        for row, values in zip(spots, rows):
            for column, value in values.items():
                acts.append(("refer" if isinstance(value, tuple) else "put", row, column, value))
        self.net.change(0, acts)
        return [".".join(map(str, row)) for row in spots]

    def through(self, *edits, lens=LENS, member=0, capability=None):
        before, given = self.net.store.data(), repr(edits)
        try:
            told = through(self.net.store, member, capability, 0, lens, list(edits))
        finally:
            self.assertEqual(self.net.store.data(), before)
            self.assertEqual(repr(edits), given)
        return told

    def taken(self, expected, *edits, **more):
        """The edits are taken and have these acts; what the lens tells behind them is what is returned."""
        told = self.through(*edits, **more)
        self.assertEqual(told, expected)
        self.assertEqual(repr(told), repr(expected))
        net = Net(3)
        net.store = self.net.store.copy()
        net.change(more.get("member", 0), told, capability=more.get("capability"))
        return {name: source.rows for name, source in all_sources(net.store).items()}

    def refused(self, error, attributes, *edits, **more):
        with self.assertRaises(EditError) as caught:
            self.through(*edits, **more)
        self.assertIs(type(caught.exception), error)
        self.assertEqual(tuple(vars(caught.exception).values()), attributes)


class Acts(Base):
    def test_no_edits(self):
        self.lenses((T, ALL, ()))
        self.assertEqual(self.through(), [])

    def test_a_new_row(self):
        self.lenses((T, ((N, "a"), (S, "z")), ()))
        row = (0, 3, 0)
        told = self.taken([("row", T)], ("new", {}))
        self.assertEqual(told["s0_t"], [("0.3.0", None, None, None, 0, 0, "", None, None)])
        self.assertEqual(told["s0_v0"], [("0.3.0", None, None)])
        told = self.taken([("row", T), ("put", row, N, 5), ("put", row, S, "")], ("new", {"a": 5, "z": ""}))
        self.assertEqual(told["s0_v0"], [("0.3.0", 5, "")])
        self.taken([("row", T), ("put", row, S, "x"), ("put", row, N, 5)], ("new", {"z": "x", "a": 5}))
        self.taken([("row", T), ("put", row, S, "x")], ("new", {"a": None, "z": "x"}))

    def test_fixed_values_of_a_new_row(self):
        self.lenses((T, ((N, "a"), (B, "t"), (S, "z")), ((B, True), (N, 4))))
        row = (0, 3, 0)
        told = self.taken([("row", T), ("put", row, B, True), ("put", row, N, 4), ("put", row, S, "x")],
                          ("new", {"z": "x"}))
        self.assertEqual(told["s0_v0"], [("0.3.0", 4, True, "x")])

    def test_fixed_values_of_the_base_stand_first(self):
        self.lenses((T, ALL, ((B, False), (S, "y"))), (LENS, ((R, "r"),), ((N, 4),)))
        row = (0, 3, 0)
        self.taken([("row", T), ("put", row, B, False), ("put", row, S, "y"), ("put", row, N, 4)], ("new", {"r": None}),
                   lens=(0, 2, 1))

    def test_a_value_that_is_fixed_twice(self):
        self.lenses((T, ALL, ((N, 4),)), (LENS, ALL, ((N, 4),)))
        row = (0, 3, 0)
        self.taken([("row", T), ("put", row, N, 4), ("put", row, N, 4)], ("new", {}), lens=(0, 2, 1))

    def test_none_that_is_fixed(self):
        self.lenses((T, ((S, "z"),), ((N, None),)))
        told = self.taken([("row", T), ("put", (0, 3, 0), S, "x")], ("new", {"z": "x"}))
        self.assertEqual(told["s0_v0"], [("0.3.0", "x")])

    def test_setting(self):
        self.lenses((T, ALL, ()))
        first, second = self.rows({N: 1}, {N: 2})
        told = self.taken([("put", (0, 3, 1), N, 7)], ("set", second, "xn", 7))
        self.assertEqual([row[1] for row in told["s0_t"]], [1, 7])
        self.taken([("put", (0, 3, 0), N, 1)], ("set", first, "xn", 1))
        told = self.taken([("put", (0, 3, 0), N, None)], ("set", first, "xn", None))
        self.assertEqual([row[1] for row in told["s0_t"]], [None, 2])
        self.taken([("put", (0, 3, 0), B, False)], ("set", first, "xb", False))
        self.taken([("put", (0, 3, 0), S, "")], ("set", first, "xs", ""))

    def test_setting_what_was_written_concurrently(self):
        self.lenses((T, ALL, ()))
        first, = self.rows({})
        self.net.change(1, [("put", (0, 3, 0), N, 5)], capability=(0, 1, 0), heard={2: 0})
        self.net.change(2, [("put", (0, 3, 0), N, 6)], capability=(0, 1, 1), heard={1: 0})
        told = self.taken([("put", (0, 3, 0), N, 5)], ("set", first, "xn", 5))
        self.assertEqual(told["s0_v0"][0][1], 5)

    def test_references(self):
        self.lenses((T, ALL, ()))
        first, second = self.rows({}, {})
        other = self.act(("row", U)) + (0,)
        self.taken([("refer", (0, 3, 0), R, (0, 3, 1))], ("set", first, "xr", second))
        self.taken([("refer", (0, 3, 0), R, (0, 3, 0))], ("set", first, "xr", first))
        self.taken([("refer", (0, 3, 0), P, other)], ("set", first, "xp", "0.4.0"))
        told = self.taken([("refer", (0, 3, 0), R, None)], ("set", first, "xr", None))
        self.assertIsNone(told["s0_v0"][0][7])
        self.taken([("row", T), ("refer", (0, 5, 0), R, (0, 3, 1))], ("new", {"xr": second, "xp": None}))

    def test_dropping(self):
        self.lenses((T, ALL, ((N, 1),)))
        first, second = self.rows({N: 1}, {N: 1})
        told = self.taken([("drop", (0, 3, 0))], ("gone", first))
        self.assertEqual([row[0] for row in told["s0_v0"]], [second])

    def test_several_edits(self):
        self.lenses((T, ALL, ()))
        first, second = self.rows({N: 1}, {N: 2})
        told = self.taken([("put", (0, 3, 0), N, 5), ("row", T), ("put", (0, 4, 1), S, "x"), ("put", (0, 4, 1), B, True),
                           ("row", T), ("put", (0, 4, 1), S, "y"), ("drop", (0, 3, 1)), ("refer", (0, 3, 0), R, (0, 4, 4))],
                          ("set", first, "xn", 5), ("new", {"xs": "x", "xb": True}), ("new", {}),
                          ("set", "0.4.1", "xs", "y"), ("gone", second), ("set", first, "xr", "0.4.4"))
        self.assertEqual([row[:3] for row in told["s0_v0"]], [(first, 5, None), ("0.4.1", None, "y"), ("0.4.4", None, None)])

    def test_a_row_that_an_earlier_edit_made(self):
        self.lenses((T, ALL, ((N, 1),)))
        self.taken([("row", T), ("put", (0, 3, 0), N, 1), ("put", (0, 3, 0), S, "x"), ("drop", (0, 3, 0))],
                   ("new", {}), ("set", "0.3.0", "xs", "x"), ("gone", "0.3.0"))
        self.refused(NoSuchRow, (0,), ("set", "0.3.0", "xs", "x"), ("new", {}))
        self.refused(NoSuchRow, (2,), ("new", {}), ("gone", "0.3.0"), ("gone", "0.3.0"))
        self.refused(NoSuchRow, (1,), ("new", {}), ("gone", "0.3.1"))

    def test_another_member(self):
        self.lenses((T, ALL, ()))
        first, = self.rows({})
        self.taken([("row", T), ("refer", (1, 1, 0), R, (0, 3, 0)), ("put", (0, 3, 0), N, 2)],
                   ("new", {"xr": first}), ("set", first, "xn", 2), member=1, capability=(0, 1, 0))

    def test_all_kinds_of_nothing(self):
        self.lenses((T, ALL, ()), (T, (), ((N, None),)), (T, (), ((S, None), (B, None))))
        told = self.taken([("row", T)], ("new", {}))
        self.assertEqual(told["s0_v0"], [("0.3.0", None, None, None, 0, 0, "", None, None)])
        self.assertEqual((told["s0_v1"], told["s0_v2"]), ([("0.3.0",)], [("0.3.0",)]))

    def test_the_acts_are_new(self):
        self.lenses((T, ALL, ()))
        self.through(("new", {})).clear()
        self.assertEqual(self.through(("new", {})), [("row", T)])


class OtherLenses(Base):
    def test_a_row_moves_between_lenses(self):
        self.lenses((T, ((N, "a"),), ()), (T, (), ((N, 1),)), (T, (), ((N, 2),)))
        first, second = self.rows({N: 1}, {N: 1})
        told = self.taken([("put", (0, 3, 0), N, 2)], ("set", first, "a", 2))
        self.assertEqual((told["s0_v1"], told["s0_v2"]), ([(second,)], [(first,)]))
        told = self.taken([("put", (0, 3, 0), N, None)], ("set", first, "a", None))
        self.assertEqual((told["s0_v1"], told["s0_v2"]), ([(second,)], []))

    def test_a_lens_above_shows_the_new_value(self):
        self.lenses((T, ((N, "a"), (S, "z")), ((B, True),)), (LENS, ((S, "q"),), ((N, 1),)))
        first, second = self.rows({N: 1, B: True}, {N: 2, B: True})
        told = self.taken([("put", (0, 3, 1), N, 1)], ("set", second, "a", 1))
        self.assertEqual(told["s0_v1"], [(first, None), (second, None)])
        told = self.taken([("put", (0, 3, 0), S, "x")], ("set", first, "q", "x"), lens=(0, 2, 1))
        self.assertEqual(told["s0_v0"], [(first, 1, "x"), (second, 2, None)])

    def test_a_row_leaves_the_lens_above_by_an_edit_under_the_name_of_its_base(self):
        self.lenses((T, ((N, "a"), (S, "z")), ()), (LENS, ((S, "q"),), ((N, 1),)))
        first, = self.rows({N: 1})
        self.refused(NotWritable, (0, "a"), ("set", first, "a", 2), lens=(0, 2, 1))
        told = self.taken([("put", (0, 3, 0), N, 2), ("put", (0, 3, 0), S, "x")], ("set", first, "a", 2),
                          ("set", first, "z", "x"))
        self.assertEqual((told["s0_v0"], told["s0_v1"]), ([(first, 2, "x")], []))

    def test_a_lens_that_does_not_hold_its_name(self):
        self.lenses(("lens", "u", T, ((N, "a"),), ((S, "x"),)))
        first, second = self.rows({S: "x"}, {S: "y"})
        self.taken([("put", (0, 3, 0), N, 2)], ("set", first, "a", 2))
        self.taken([("row", T), ("put", (0, 4, 0), S, "x")], ("new", {}))
        self.refused(NoSuchRow, (0,), ("set", second, "a", 2))

    def test_two_lenses_that_fix_one_column_differently(self):
        self.lenses((T, ALL, ((N, 1),)), (LENS, ALL, ((N, 2),)), (LENS, ALL, ((N, None),)))
        self.refused(TurnsMore, (0, "s0_v1", "0.3.0"), ("new", {}), lens=(0, 2, 1))
        self.refused(TurnsMore, (0, "s0_v2", "0.3.0"), ("new", {"xs": "x"}), lens=(0, 2, 2))
        first, = self.rows({N: 1})
        self.refused(NoSuchRow, (0,), ("set", first, "xs", "x"), lens=(0, 2, 1))

    def test_true_that_is_fixed(self):
        self.lenses((T, ((S, "z"),), ((B, True),)))
        first, second, third = self.rows({B: True}, {B: False}, {})
        self.taken([("put", (0, 3, 0), S, "x")], ("set", first, "z", "x"))
        self.refused(NoSuchRow, (0,), ("gone", second))
        self.refused(NoSuchRow, (0,), ("gone", third))


class Turning(Base):
    def unique(self, *columns):
        self.act(("unique", T, columns))

    def test_a_key_that_another_row_holds(self):
        self.lenses((T, ALL, ()))
        self.unique(N)
        first, second = self.rows({N: 1}, {N: 2})
        self.refused(TurnsMore, (0, "s0_t", second), ("set", second, "xn", 1))
        # The row that stands first takes the key, so the other one yields.
        self.refused(TurnsMore, (0, "s0_t", second), ("set", first, "xn", 2))
        self.refused(TurnsMore, (0, "s0_t", "0.5.0"), ("new", {"xn": 1}))
        self.taken([("put", (0, 4, 1), N, None)], ("set", second, "xn", None))
        self.taken([("row", T), ("put", (0, 5, 0), N, 3)], ("new", {"xn": 3}))

    def test_a_key_that_is_freed(self):
        self.lenses((T, ALL, ()))
        self.unique(N)
        first, second, third = self.rows({N: 1}, {N: 1}, {N: 1})
        self.refused(TurnsMore, (0, "s0_t", second), ("set", first, "xn", 2))
        self.refused(TurnsMore, (0, "s0_t", second), ("gone", first))
        self.taken([("put", (0, 4, 0), N, 1)], ("set", first, "xn", 1))
        self.refused(NoSuchRow, (0,), ("set", second, "xn", 5))

    def test_keys_that_are_set_and_freed(self):
        self.lenses((T, ALL, ()))
        self.unique(N)
        first, second = self.rows({N: 1}, {N: 2})
        self.taken([("put", (0, 4, 0), N, 3), ("put", (0, 4, 1), N, 1), ("put", (0, 4, 0), N, 2)],
                   ("set", first, "xn", 3), ("set", second, "xn", 1), ("set", first, "xn", 2))
        self.taken([("drop", (0, 4, 0)), ("row", T), ("put", (0, 5, 1), N, 1)], ("gone", first), ("new", {"xn": 1}))
        self.refused(TurnsMore, (1, "s0_t", second), ("set", first, "xn", 3), ("set", second, "xn", 3))
        self.refused(TurnsMore, (0, "s0_t", "0.5.0"), ("new", {"xn": 1}), ("gone", first))

    def test_a_key_with_a_fixed_value(self):
        self.lenses((T, ((S, "z"),), ((B, True),)))
        self.unique(B, S)
        first, second = self.rows({B: True, S: "x"}, {B: False, S: "y"})
        self.refused(TurnsMore, (0, "s0_t", "0.5.0"), ("new", {"z": "x"}))
        self.taken([("row", T), ("put", (0, 5, 0), B, True), ("put", (0, 5, 0), S, "y")], ("new", {"z": "y"}))

    def test_a_row_that_yields_for_another_reason_then(self):
        self.lenses((T, ALL, ()))
        self.unique(N)
        self.unique(S)
        first, second = self.rows({N: 1, S: "x"}, {N: 1, S: "x"})
        self.taken([("put", (0, 5, 0), N, 2)], ("set", first, "xn", 2))

    def test_references_to_a_dropped_row(self):
        self.lenses((T, ALL, ()))
        first, second, third = self.rows({}, {R: (0, 3, 0)}, {R: (0, 3, 1)})
        self.refused(TurnsMore, (0, "s0_t", second), ("gone", first))
        self.refused(TurnsMore, (0, "s0_t", third), ("gone", second))
        self.taken([("drop", (0, 3, 2))], ("gone", third))
        self.taken([("refer", (0, 3, 1), R, None), ("drop", (0, 3, 0))], ("set", second, "xr", None), ("gone", first))
        self.taken([("drop", (0, 3, 2)), ("drop", (0, 3, 1)), ("drop", (0, 3, 0))],
                   ("gone", third), ("gone", second), ("gone", first))

    def test_references_from_another_table(self):
        self.lenses((U, ((V, "v"),), ()))
        target = self.act(("row", U)) + (0,)
        row, = self.rows({P: target})
        self.refused(TurnsMore, (0, "s0_t", row), ("gone", "0.3.0"))
        self.taken([("put", target, V, 3)], ("set", "0.3.0", "v", 3))

    def test_a_row_that_refers_to_itself(self):
        self.lenses((T, ALL, ()))
        first, = self.rows({R: (0, 3, 0)})
        self.taken([("drop", (0, 3, 0))], ("gone", first))

    def test_rows_that_refer_to_one_that_comes(self):
        self.lenses((T, ALL, ()))
        self.unique(N)
        rows = self.rows({N: 1}, {N: 1}, {R: (0, 4, 1)})
        self.refused(TurnsMore, (0, "s0_t", rows[1]), ("set", rows[0], "xn", 2))

    def test_which_source_is_told(self):
        self.lenses((T, ((N, "a"),), ((B, True),)), (T, (), ((B, False),)))
        self.act(("unique", U, (V,)), ("column", U, "w", ("refer", T)), ("row", U))
        first, second = self.rows({B: True}, {B: True})
        self.net.change(0, [("refer", (0, 3, 2), (0, 3, 1), (0, 4, 0))])
        # The row of the other table goes, and no other row of the table of the lens.
        self.refused(TurnsMore, (0, "s0_u", "0.3.2"), ("gone", first))

    def test_tables_and_lenses_that_do_not_hold_their_names_are_not_asked(self):
        self.lenses((T, ((N, "a"),), ()))
        name = self.act(("table", "t"), ("column", (0, 3, 0), "w", ("refer", T)), ("row", (0, 3, 0)))
        first, = self.rows({})
        self.net.change(0, [("refer", spot(name, 2), spot(name, 1), (0, 4, 0))])
        told = self.taken([("drop", (0, 4, 0))], ("gone", first))
        self.assertEqual(told["s0_t"], [])

    def test_the_lens_is_asked_though_it_does_not_hold_its_name(self):
        net = self.net
        table, column = (0, 2, 0), (0, 2, 1)
        net.change(0, [("table", "t"), ("column", table, "n", "integer"), ("unique", table, (column,)),
                       ("lens", "t", table, ((column, "n"),), ()), ("row", table), ("put", (0, 2, 4), column, 1)])
        self.refused(TurnsMore, (0, "s0_t", "0.3.0"), ("new", {"n": 1}), lens=(0, 2, 3))
        self.taken([("row", table), ("put", (0, 3, 0), column, 2)], ("new", {"n": 2}), lens=(0, 2, 3))

    def test_the_first_of_several_rows(self):
        self.lenses((T, ALL, ()), (T, (), ((B, True),)))
        self.unique(N)
        rows = self.rows({N: 1}, {N: 2}, {N: 1, S: "x"}, {R: (0, 4, 1)}, {R: (0, 4, 0)})
        # Of rows that come and rows that go the one that comes is told.
        self.refused(TurnsMore, (0, "s0_t", rows[2]), ("set", rows[0], "xn", 2))
        self.refused(TurnsMore, (0, "s0_t", rows[2]), ("gone", rows[0]))
        self.refused(TurnsMore, (0, "s0_t", rows[3]), ("gone", rows[1]))


class Errors(Base):
    def test_rows_that_the_lens_does_not_show(self):
        self.lenses((T, ALL, ((N, 1),)))
        self.act(("unique", T, (S,)))
        first, second, third, fourth = self.rows({N: 1, S: "x"}, {N: 2}, {N: 1, S: "x"}, {N: 1})
        other = self.act(("row", U), ("drop", (0, 4, 3)))
        for word in (second, third, fourth, "0.5.0", "0.9.9", "", "x", "0.4", "00.4.0", "0.4.0.0", "0.4.00"):
            self.refused(NoSuchRow, (0,), ("set", word, "xs", "y"))
            self.refused(NoSuchRow, (0,), ("gone", word))
            self.refused(NoSuchRow, (0,), ("set", word, "nope", "y"))
        self.assertEqual(other, (0, 5))

    def test_names_that_cannot_be_written(self):
        self.lenses((T, ALL[:-1], ((N, 1),)), (LENS, ((N, "m"), (S, "z")), ((B, True),)))
        first, = self.rows({N: 1, B: True})
        for name in ("nope", "id", "", "n", "s", "xn", "xc", "xk", "xl", "xp"):
            self.refused(NotWritable, (0, name), ("set", first, name, None))
            self.refused(NotWritable, (0, name), ("new", {name: None}))
        for name in ("m", "xs", "b"):
            self.refused(NotWritable, (0, name), ("set", first, name, None), lens=(0, 2, 1))
        self.refused(NotWritable, (0, "xn"), ("new", {"xn": 1}))
        self.taken([("put", (0, 3, 0), S, "x")], ("set", first, "z", "x"), lens=(0, 2, 1))

    def test_values_that_a_column_cannot_hold(self):
        self.lenses((T, ALL, ()))
        first, = self.rows({})
        for name, values in (("xn", [True, False, "1", ""]), ("xs", [1, True]), ("xb", [0, 1, "true"]),
                             ("xr", [1, True, "", "0.3", "0.9.9", "0.3.0 ", "0.3.00"])):
            for value in values:
                self.refused(WrongValue, (0, name), ("set", first, name, value))
                self.refused(WrongValue, (0, name), ("new", {name: value}))
        self.taken([("put", (0, 3, 0), N, 10 ** 40 - 1)], ("set", first, "xn", 10 ** 40 - 1))

    def test_references_to_what_does_not_show(self):
        self.lenses((T, ALL, ()))
        self.act(("unique", T, (N,)))
        rows = self.rows({N: 1}, {N: 1}, {})
        other = self.act(("row", U), ("drop", (0, 4, 2)))
        self.refused(WrongValue, (0, "xr"), ("set", rows[0], "xr", rows[1]))
        self.refused(WrongValue, (0, "xr"), ("set", rows[0], "xr", rows[2]))
        self.refused(WrongValue, (0, "xr"), ("set", rows[0], "xr", "0.5.0"))
        self.refused(WrongValue, (0, "xp"), ("set", rows[0], "xp", rows[0]))
        self.assertEqual(other, (0, 5))
        self.refused(WrongValue, (0, "xr"), ("new", {"xr": "0.6.0"}))
        self.taken([("row", T), ("refer", (0, 4, 0), R, (0, 6, 0))], ("new", {}), ("set", rows[0], "xr", "0.6.0"))
        self.refused(WrongValue, (1, "xr"), ("set", rows[0], "xs", "x"), ("set", rows[0], "xr", "0.6.1"))

    def test_a_reference_to_a_table_that_is_not_made(self):
        self.act(("column", T, "w", ("refer", (0, 9, 9))), ("lens", "w", T, (((0, 2, 0), "w"),), ()))
        first, = self.rows({})
        self.refused(WrongValue, (0, "w"), ("set", first, "w", first), lens=(0, 2, 1))
        self.taken([("refer", (0, 3, 0), (0, 2, 0), None)], ("set", first, "w", None), lens=(0, 2, 1))

    def test_a_reference_to_a_row_that_another_edit_drops(self):
        self.lenses((T, ALL, ()))
        first, second = self.rows({}, {})
        self.refused(WrongValue, (1, "xr"), ("gone", second), ("set", first, "xr", second))
        self.refused(TurnsMore, (1, "s0_t", first), ("set", first, "xr", second), ("gone", second))

    def test_the_order_of_the_errors(self):
        self.lenses((T, ALL, ()))
        self.act(("unique", T, (N,)))
        first, second = self.rows({N: 1}, {N: 2})
        self.refused(NoSuchRow, (0,), ("set", "0.9.9", "nope", True))
        self.refused(NotWritable, (0, "nope"), ("set", first, "nope", object))
        self.refused(NotWritable, (0, "nope"), ("new", {"nope": True, "xn": "x"}))
        self.refused(WrongValue, (0, "xn"), ("new", {"xn": "x", "nope": True}))
        self.refused(WrongValue, (0, "xs"), ("new", {"xn": 1, "xs": 1}))
        self.refused(NotWritable, (0, "xc"), ("new", {"xn": 1, "xc": 1}))
        self.refused(TurnsMore, (0, "s0_t", "0.5.0"), ("new", {"xn": 1}), ("gone", "0.9.9"))
        self.refused(TurnsMore, (1, "s0_t", second), ("set", first, "xs", "x"), ("set", second, "xn", 1), ("new", {"no": 1}))
        self.refused(NotWritable, (1, "no"), ("set", first, "xs", "x"), ("new", {"no": 1}), ("new", {"xn": 1}))

    def uncounted(self, *edits, **more):
        with self.assertRaises(UncountedChange):
            self.through(*edits, **more)

    def test_a_change_that_would_not_count(self):
        self.lenses((T, ALL, ()))
        first, = self.rows({})
        for edits in ((), (("gone", "0.9.9"),), (("set", first, "xn", 1),), (("new", {"nope": 1}),)):
            self.uncounted(*edits, member=1)
            self.uncounted(*edits, member=2, capability=(0, 1, 0))
            self.uncounted(*edits, member=0, capability=(0, 1, 0))
            self.uncounted(*edits, member=1, capability=(0, 1, 7))
            self.uncounted(*edits, member=1, capability=(0, 9, 0))
        self.taken([], member=1, capability=(0, 1, 0))

    def test_rights_that_a_capability_lacks(self):
        self.lenses((T, ALL, ()))
        reading, nothing, elsewhere = self.net.invite(1, rights=(READ, READ, READ, READ)) + self.net.invite(
            1, rights=NO_RIGHTS) + self.net.invite(1, rights=(NO, (True, True, True), NO, NO))
        for capability in (reading, nothing, elsewhere):
            self.uncounted(member=1, capability=capability)
        writing, = self.net.invite(1, rights=((False, True, False), NO, NO, NO))
        self.taken([("row", T)], ("new", {}), member=1, capability=writing)

    def test_a_capability_that_is_revoked(self):
        self.lenses((T, ALL, ()))
        self.net.change(0, publics=[("revoke", (0, 1, 0))])
        self.uncounted(member=1, capability=(0, 1, 0))
        self.assertEqual(self.through(member=2, capability=(0, 1, 1)), [])

    def test_a_member_that_was_not_heard_by_a_seal(self):
        self.lenses((T, ALL, ()))
        self.net.change(1, [], capability=(0, 1, 0))
        self.net.seal(heard={1: 0})
        # What the member did ahead is unrelated to the seal; what it does next is behind it.
        self.assertEqual(self.through(member=1, capability=(0, 1, 0)), [])


if __name__ == "__main__":
    unittest.main()
