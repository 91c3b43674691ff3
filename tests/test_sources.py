"""Points 49 to 51 and 118: the sources of a space, of tables and of lenses."""

import unittest

from kithwhole.rights import verdicts
from kithwhole.sources import Source, all_sources, sources
from kithwhole.store import Kept, Store
from tests.support import ALL_RIGHTS, UNKNOWN, Net, make

T = (0, 1, 0)
N, S, B, C, K, L, R = [(0, 1, place) for place in range(1, 8)]
NAMES = ["id", "n", "s", "b", "c", "k", "l", "r"]
KINDS = ["text", "integer", "text", "boolean", "integer", "integer", "text", "text"]


def start(*more):
    """A table with a column of each kind, and further acts."""
    net = Net(3)
    holds = ["integer", "text", "boolean", "counter", "stock", "letters", ("refer", T)]
    acts = [("table", "t")] + [("column", T, name, each) for name, each in zip(NAMES[1:], holds)]
    net.change(0, acts + list(more), publics=[("grant", member, ALL_RIGHTS) for member in (1, 2)])
    return net


def cap(member):
    return None if member == 0 else (0, 1, member - 1)


class Base(unittest.TestCase):
    def all(self, net, space=0):
        """All sources of a space as (name, columns, kinds, rows)."""
        told = sources(net.store, net.allowed(), space)
        for source in told:
            self.assertIsInstance(source, Source)
            for values in (source.columns, source.kinds, source.rows):
                self.assertIs(type(values), list)
            for row in source.rows:
                self.assertIs(type(row), tuple)
                self.assertEqual(len(row), len(source.columns))
        return [(source.name, source.columns, source.kinds, source.rows) for source in told]

    def rows(self, net, name, space=0):
        found = [rows for each, _, _, rows in self.all(net, space) if each == name]
        self.assertEqual(len(found), 1)
        return found[0]


class Classes(unittest.TestCase):
    def test_a_source(self):
        columns, kinds, rows = ["id", "a"], ["text", "integer"], [("0.1.2", 1)]
        source = Source("s0_t", columns, kinds, rows)
        for values in (columns, kinds, rows):
            values.clear()
        self.assertEqual((source.name, source.columns, source.kinds, source.rows),
                         ("s0_t", ["id", "a"], ["text", "integer"], [("0.1.2", 1)]))


class Tables(Base):
    def test_nothing(self):
        self.assertEqual(sources(Store(1), {}, 0), [])
        self.assertEqual(all_sources(Store(1)), {})
        self.assertEqual(self.all(start()), [("s0_t", NAMES, KINDS, [])])
        self.assertEqual(self.all(start(), 1), [])

    def test_values(self):
        net = start()
        row = net.change(0, [("row", T)]) + (0,)
        self.assertEqual(self.rows(net, "s0_t"), [("0.2.0", None, None, None, 0, 0, "", None)])
        net.change(1, [("put", row, N, -5), ("put", row, S, ""), ("put", row, B, False), ("add", row, C, -3),
                       ("add", row, K, 7), ("spend", row, K, 2), ("insert", row, L, None, "hi"), ("refer", row, R, row)],
                   capability=cap(1))
        told = self.rows(net, "s0_t")
        self.assertEqual(told, [("0.2.0", -5, "", False, -3, 5, "hi", "0.2.0")])
        self.assertIs(told[0][3], False)
        net.change(1, [("put", row, N, None), ("refer", row, R, None), ("put", row, B, True)], capability=cap(1))
        self.assertEqual(self.rows(net, "s0_t"), [("0.2.0", None, "", True, -3, 5, "hi", None)])

    def test_written_forms(self):
        net = start()
        for _ in range(11):
            name = net.change(2, [("row", T), ("row", T)], capability=cap(2))
        net.change(0, [("refer", (2, 1, 1), R, (2, 11, 0))])
        told = self.rows(net, "s0_t")
        self.assertEqual([row[0] for row in told][:2] + [told[-1][0]], ["2.1.0", "2.1.1", "2.11.1"])
        self.assertEqual(told[1][7], "2.11.0")
        self.assertEqual(name, (2, 11))

    def test_the_value_that_counts(self):
        net = start()
        row = net.change(0, [("row", T)]) + (0,)
        net.change(1, [("put", row, N, 1)], capability=cap(1), heard={2: 0})
        net.change(2, [("put", row, N, 2)], capability=cap(2), heard={1: 0})
        self.assertEqual(self.rows(net, "s0_t")[0][1], 2)

    def test_great_sums_and_long_letters(self):
        net = start()
        row = net.change(0, [("row", T)]) + (0,)
        net.change(0, [("add", row, C, 10 ** 40 - 1), ("add", row, C, 10 ** 40 - 1), ("add", row, K, 10 ** 40 - 1),
                       ("add", row, K, 1)] + [("insert", row, L, None, "a" * 200)] * 11)
        told = self.rows(net, "s0_t")[0]
        self.assertEqual(told[4:6], (2 * 10 ** 40 - 2, 10 ** 40))
        self.assertEqual(told[6], "a" * 2200)

    def test_names_of_columns(self):
        net = start()
        acts = [("column", T, name, "boolean") for name in ("n", "id", "m", "m", "s")]
        name = net.change(0, acts + [("row", T), ("put", (0, 2, 5), N, 1), ("put", (0, 2, 5), (0, 2, 0), True),
                                     ("put", (0, 2, 5), (0, 2, 1), True), ("put", (0, 2, 5), (0, 2, 2), False)])
        told = self.all(net)[0]
        self.assertEqual(told[1:3], (NAMES + ["m"], KINDS + ["boolean"]))
        self.assertEqual(told[3], [("0.2.5", 1, None, None, 0, 0, "", None, False)])
        self.assertEqual(name, (0, 2))

    def test_names_of_tables(self):
        net = start(("table", "u"), ("table", "t"), ("table", "id"))
        net.change(0, [("table", "u"), ("row", (0, 1, 9)), ("row", T)])
        self.assertEqual([source[0] for source in self.all(net)], ["s0_t", "s0_u", "s0_id"])
        self.assertEqual([row[0] for row in self.rows(net, "s0_t")], ["0.2.2"])
        self.assertEqual(self.all(net)[2], ("s0_id", ["id"], ["text"], []))

    def test_only_rows_that_show(self):
        net = start(("unique", T, (N,)))
        rows = [(0, 2, place) for place in range(5)]
        net.change(0, [("row", T)] * 5 + [("put", rows[0], N, 1), ("put", rows[1], N, 1), ("put", rows[2], N, 2),
                                          ("drop", rows[3]), ("refer", rows[4], R, rows[1])])
        self.assertEqual([row[0] for row in self.rows(net, "s0_t")], ["0.2.0", "0.2.2"])
        net.change(0, [("put", rows[0], N, 3)])
        told = self.rows(net, "s0_t")
        self.assertEqual([row[0] for row in told], ["0.2.0", "0.2.1", "0.2.2", "0.2.4"])
        self.assertEqual(told[3][7], "0.2.1")

    def test_a_reference_in_a_column_that_does_not_hold_its_name(self):
        net = start(("column", T, "r", ("refer", T)))
        rows = [(0, 2, 0), (0, 2, 1)]
        net.change(0, [("row", T), ("row", T), ("refer", rows[1], (0, 1, 8), rows[0])])
        net.change(0, [("drop", rows[0])])
        self.assertEqual(self.rows(net, "s0_t"), [])

    def test_rows_stand_in_the_order_of_the_acts(self):
        net = start()
        net.change(2, [("row", T)], capability=cap(2), heard={1: 0})
        net.change(1, [("row", T)], capability=cap(1), heard={2: 0})
        net.change(0, [("row", T)])
        self.assertEqual([row[0] for row in self.rows(net, "s0_t")], ["1.1.0", "2.1.0", "0.2.0"])

    def test_kept_things(self):
        net = start()
        row = net.change(0, [("row", T)]) + (0,)
        store = Store(3)
        store.cut = [2, 0, 0]
        acts = [(spot, act) for spot, act in net.sheet().acts] + [((0, 2, 5), ("put", row, N, 8))]
        store.kept[0] = Kept(acts, [((row, C), 4)], [((row, L), [((0, 2, 6, 0), "x")])], [((row, K, 1), 3)])
        self.assertEqual(all_sources(store)["s0_t"].rows, [("0.2.0", 8, None, None, 4, 3, "x", None)])
        store.kept[0] = None
        self.assertEqual(all_sources(store), {})

    def test_unknown_parts_tell_nothing(self):
        net = start()
        net.change(0, [("row", T)])
        net.change(0, parts={0: UNKNOWN})
        net.change(0, [("row", T)])
        self.assertEqual([row[0] for row in self.rows(net, "s0_t")], ["0.2.0", "0.4.0"])

    def test_changes_that_do_not_count(self):
        net = start()
        net.change(1, [("row", T)], capability=cap(2))
        net.change(2, [("row", T)], capability=cap(2))
        self.assertEqual([row[0] for row in self.rows(net, "s0_t")], ["2.1.0"])


class Lenses(Base):
    def lens(self, *acts):
        """Four rows with the numbers 1, 2, 1 and None, and lenses that are made before them."""
        net = start(*acts)
        rows = [(0, 2, place) for place in range(4)]
        acts = [("row", T)] * 4
        for row, number, truth in zip(rows, (1, 2, 1, None), (True, None, False, True)):
            acts += [("put", row, N, number), ("put", row, B, truth), ("put", row, S, "x"), ("add", row, C, 9)]
        net.change(0, acts)
        return net

    def test_columns(self):
        net = self.lens(("lens", "v", T, ((S, "s"), (N, "t"), (C, "n"), (R, "z"), (L, "l"), (K, "k")), ()))
        told = self.all(net)[1]
        self.assertEqual(told[:3], ("s0_v", ["id", "s", "t", "n", "z", "l", "k"],
                                    ["text", "text", "integer", "integer", "text", "text", "integer"]))
        self.assertEqual(told[3][0], ("0.2.0", "x", 1, 9, None, "", 0))
        self.assertEqual(len(told[3]), 4)

    def test_fixed_values(self):
        net = self.lens(("lens", "one", T, ((N, "n"),), ((N, 1),)), ("lens", "none", T, (), ((N, None),)),
                        ("lens", "both", T, ((B, "b"),), ((N, 1), (B, True))), ("lens", "no", T, (), ((S, "y"),)),
                        ("lens", "true", T, (), ((B, True),)), ("lens", "nothing", T, (), ((B, None),)))
        told = {name: rows for name, _, _, rows in self.all(net)}
        self.assertEqual(told["s0_one"], [("0.2.0", 1), ("0.2.2", 1)])
        self.assertEqual(told["s0_none"], [("0.2.3",)])
        self.assertEqual(told["s0_both"], [("0.2.0", True)])
        self.assertEqual(told["s0_no"], [])
        self.assertEqual(told["s0_true"], [("0.2.0",), ("0.2.3",)])
        self.assertEqual(told["s0_nothing"], [("0.2.1",)])

    def test_a_lens_on_a_lens(self):
        base = (0, 1, 8)
        net = self.lens(("lens", "base", T, ((N, "x"), (B, "y")), ((N, 1),)), ("lens", "up", base, ((N, "p"),), ((B, True),)),
                        ("lens", "other", base, (), ((N, 2),)))
        told = {name: (columns, rows) for name, columns, _, rows in self.all(net)}
        self.assertEqual(told["s0_base"], (["id", "x", "y"], [("0.2.0", 1, True), ("0.2.2", 1, False)]))
        self.assertEqual(told["s0_up"], (["id", "p"], [("0.2.0", 1)]))
        self.assertEqual(told["s0_other"], (["id"], []))

    def test_names(self):
        net = self.lens(("lens", "t", T, (), ()), ("lens", "v", T, (), ((N, 2),)), ("table", "v"),
                        ("lens", "v", T, (), ((N, 1),)), ("table", "w"))
        self.assertEqual([source[0] for source in self.all(net)], ["s0_t", "s0_v", "s0_w"])
        self.assertEqual(self.rows(net, "s0_v"), [("0.2.1",)])
        self.assertEqual(len(self.all(net)[0][1]), 8)

    def test_a_lens_that_stands_before_a_table(self):
        net = start(("lens", "v", T, ((N, "n"),), ()), ("table", "u"))
        self.assertEqual([source[0] for source in self.all(net)], ["s0_t", "s0_v", "s0_u"])

    def test_columns_and_tables_that_do_not_hold_their_names(self):
        net = self.lens(("table", "t"), ("column", (0, 1, 8), "n", "text"), ("column", (0, 1, 8), "n", "integer"),
                        ("lens", "v", (0, 1, 8), (((0, 1, 10), "second"),), ()), ("row", (0, 1, 8)),
                        ("put", (0, 1, 12), (0, 1, 10), 6))
        self.assertEqual(self.rows(net, "s0_v"), [("0.1.12", 6)])

    def test_only_rows_that_show(self):
        net = self.lens(("unique", T, (N,)), ("lens", "v", T, ((N, "n"),), ()), ("lens", "one", T, (), ((N, 1),)))
        self.assertEqual(self.rows(net, "s0_v"), [("0.2.0", 1), ("0.2.1", 2), ("0.2.3", None)])
        self.assertEqual(self.rows(net, "s0_one"), [("0.2.0",)])


class AllSpaces(Base):
    def test_all_spaces(self):
        net = Net(1)
        net.change(0, parts={space: [("table", "t"), ("row", T)] for space in (0, 2, 3)})
        net.change(0, parts={3: [("table", "u"), ("row", T)]})
        told = all_sources(net.store)
        self.assertEqual(list(told), ["s0_t", "s2_t", "s3_t", "s3_u"])
        self.assertEqual({name: source.name for name, source in told.items()}, {name: name for name in told})
        self.assertEqual([len(source.rows) for source in told.values()], [1, 1, 2, 0])

    def test_nothing_is_changed(self):
        net = start()
        net.change(0, [("row", T), ("put", (0, 2, 0), N, 3)])
        before = net.store.data()
        told = all_sources(net.store)
        told["s0_t"].rows.clear()
        told["s0_t"].columns.clear()
        told.clear()
        self.assertEqual(net.store.data(), before)
        self.assertEqual(all_sources(net.store)["s0_t"].rows[0][:2], ("0.2.0", 3))

    def test_other_spaces_do_not_matter(self):
        one, other = Net(1), Net(1)
        one.change(0, parts={0: [("table", "t"), ("row", T)], 1: [("table", "t")]})
        other.change(0, parts={0: [("table", "t"), ("row", T)], 1: UNKNOWN})
        self.assertEqual(self.all(one), self.all(other))

    def test_verdicts_are_taken_as_they_are_given(self):
        store = Store(1)
        store.add(make(0, 1, [0], parts={0: [("table", "t")]}))
        self.assertEqual([source.name for source in sources(store, verdicts(store), 0)], ["s0_t"])
        self.assertEqual(sources(store, {(0, 1): False}, 0), [])


if __name__ == "__main__":
    unittest.main()
