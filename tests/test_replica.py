"""Points 104 to 107 and 110: the methods of a replica, with right and wrong arguments."""

import unittest

from kithwhole.codes import write_change
from kithwhole.cutting import cut_at
from kithwhole.errors import (
    AmbiguousColumn, DamagedPacket, EditError, ForgottenPast, InvalidArgument, KindMismatch, NoMoment, NoPlan, NoReason,
    NothingToTrim, NotWritable, PowerOff, RefusedText, ReplicaClosed, ReplicaOpen, ShortStock, UncountedChange, UnfitPacket,
    UnknownColumn, UnknownParameter, UnknownTable,
)
from kithwhole.log import log_start, read_log, write_record
from kithwhole.packets import asking, giving
from kithwhole.replica import Replica, Watch
from kithwhole.store import Store
from tests.support import ALL_RIGHTS, BOTH, NO, NO_RIGHTS, READ, WRITE, make

T, I, K, L = (0, 1, 0), (0, 1, 1), (0, 1, 2), (0, 1, 3)
ROW = (0, 1, 4)
START = [("table", "t"), ("column", T, "i", "integer"), ("column", T, "k", "stock"), ("column", T, "l", "letters"),
         ("row", T), ("put", ROW, I, 5), ("add", ROW, K, 10)]
CAP = (0, 1, 0)


def meet(one, other):
    """Each of the two takes what the other one gives."""
    one.take(other.answer(one.have()))
    other.take(one.answer(other.have()))


def pair(rights=ALL_RIGHTS, spaces=(0,)):
    a, b = Replica(0, 2), Replica(1, 2)
    a.act(None, [("grant", 1, rights)], {space: START for space in spaces})
    meet(a, b)
    return a, b


def stored(replica):
    """The store that the log of an open replica tells."""
    told = [read_log(replica.log(index), size) for index in (0, 1) for size in range(1, 7)]
    return max((each for each in told if each), key=lambda each: each[0])[1]


class Case(unittest.TestCase):
    def same(self, replica, call, *errors):
        """The call raises the error and changes nothing, not even in the files."""
        before = (replica.log(0), replica.log(1), replica.status())
        for error in errors:
            with self.assertRaises(error):
                call()
        self.assertEqual((replica.log(0), replica.log(1), replica.status()), before)


class Making(Case):
    def test_the_example(self):
        a, b = Replica(0, 2), Replica(1, 2)
        table, row = (0, 1, 0), (0, 1, 2)
        acts = [("table", "t"), ("column", table, "i", "integer"), ("row", table), ("put", row, (0, 1, 1), 5)]
        self.assertEqual(a.act(None, [("grant", 1, ((True, True, False), NO, NO, NO))], {0: acts}), (0, 1))
        self.assertEqual(a.ask("select id, i from s0_t"), (["id", "i"], [("0.1.2", 5)]))
        self.assertIsNone(b.take(a.answer(b.have())))
        self.assertEqual(b.act((0, 1, 0), [], {0: [("put", row, (0, 1, 1), 6)]}), (1, 1))
        self.assertEqual(a.act(None, [], {0: [("put", row, (0, 1, 1), 7)]}), (0, 2))
        self.assertIsNone(a.take(b.answer(a.have())))
        self.assertEqual(a.ask("select i from s0_t"), (["i"], [(6,)]))
        self.assertEqual(a.conflicts(0), ([], [], [((0, 1, 2), (0, 1, 1), (7, 6))]))

    def test_a_new_replica(self):
        for members in range(1, 7):
            for member in range(members):
                replica = Replica(member, members)
                self.assertEqual(replica.log(0), log_start(1, Store(members)))
                self.assertEqual(replica.log(1), [])
                self.assertEqual(replica.status(), ([0] * members, [0] * members, [True] * 4))
                self.assertEqual(replica.have(), asking(Store(members), member))

    def test_the_log_of_a_new_replica_is_flushed(self):
        replica = Replica(1, 3)
        replica.power(0, 0)
        self.assertEqual((replica.log(0), replica.log(1)), (log_start(1, Store(3)), []))

    def test_wrong_arguments(self):
        for member, members in ((0, 0), (0, 7), (0, -1), (1, 1), (-1, 3), (3, 3), (6, 6), (True, 2), (0, True), (False, 2),
                                ("0", 2), (0, "2"), (None, 2), (0, None), (2, 2), (0.0, 2)):
            with self.assertRaises(InvalidArgument):
                Replica(member, members)


class Acting(Case):
    def test_the_change_that_is_made(self):
        a, b = pair(spaces=(0, 2))
        self.assertEqual(b.act(CAP, [], {0: [("put", ROW, I, 1)], 3: []}), (1, 1))
        self.assertEqual(b.act(CAP, [("revoke", (0, 9, 9))], {}), (1, 2))
        changes = stored(b).changes[1]
        self.assertEqual(changes[0].header(), (1, 1, (1, 0), CAP, ()))
        self.assertEqual(changes[0].parts, ((("put", ROW, I, 1),), (), (), ()))
        self.assertEqual(changes[1].header(), (1, 2, (1, 1), CAP, (("revoke", (0, 9, 9)),)))
        self.assertEqual(changes[1].parts, ((),) * 4)
        self.assertEqual(a.status()[0], [1, 0])

    def test_a_note_is_appended_and_not_flushed(self):
        a = Replica(0, 1)
        a.act(None, [], {0: START})
        change = make(0, 1, [0], parts={0: START})
        self.assertEqual(a.log(0), log_start(1, Store(1)) + write_record([3] + write_change(change)))
        a.power(0, 0)
        self.assertEqual(a.log(0), log_start(1, Store(1)))

    def test_changes_that_do_not_count(self):
        rights = (BOTH, READ, WRITE, (True, True, True))
        a, b = pair(rights, spaces=(0, 1, 2, 3))
        put = [("put", ROW, I, 1)]
        for capability, publics, parts in (
            (None, [], {}), ((0, 1, 1), [], {}), ((0, 2, 0), [], {}), ((1, 1, 0), [], {}), ((9, 9, 9), [], {}),
            (CAP, [], {1: put}), (CAP, [], {0: put, 1: put}), (CAP, [("seal",)], {}),
            (CAP, [("grant", 0, ALL_RIGHTS)], {}), (CAP, [("grant", 0, (BOTH, NO, NO, NO))], {0: put}),
            ((1, 1, 0), [("grant", 1, NO_RIGHTS)], {}),
        ):
            self.same(b, lambda: b.act(capability, publics, parts), UncountedChange)
        self.same(a, lambda: a.act(CAP, [], {}), UncountedChange)
        self.assertEqual(b.act(CAP, [("grant", 0, (NO, NO, NO, BOTH))], {0: put, 1: [], 2: put, 3: put}), (1, 1))

    def test_a_capability_that_is_not_held(self):
        a, b = pair()
        a.act(None, [("revoke", CAP)], {})
        b.take(a.answer(b.have()))
        self.same(b, lambda: b.act(CAP, [], {}), UncountedChange)
        self.same(b, lambda: b.act(CAP, [], {0: [("row", T)]}), UncountedChange)

    def test_a_change_that_revokes_what_it_is_made_with_below(self):
        a, b = pair()
        b.act(CAP, [("grant", 1, ALL_RIGHTS)], {})
        below = (1, 1, 0)
        self.assertEqual(b.act(below, [("revoke", CAP)], {}), (1, 2))
        self.assertEqual(b.act(CAP, [("revoke", below)], {}), (1, 3))
        self.same(b, lambda: b.act(below, [], {}), UncountedChange)

    def test_spends_and_lends_that_the_share_does_not_cover(self):
        a, b = pair()
        for acts, missing in (
            ([("spend", ROW, K, 11)], 1), ([("lend", ROW, K, 1, 30)], 20), ([("spend", ROW, K, 6), ("spend", ROW, K, 6)], 2),
            ([("spend", ROW, K, 40), ("spend", ROW, K, 90)], 30), ([("add", ROW, K, 5), ("spend", ROW, K, 16)], 1),
            ([("spend", ROW, K, 12), ("add", ROW, K, 5)], 2), ([("put", ROW, I, 1), ("lend", ROW, K, 1, 11)], 1),
        ):
            self.same(a, lambda: a.act(None, [], {0: acts}), ShortStock)
            with self.assertRaises(ShortStock) as caught:
                a.act(None, [], {0: acts})
            self.assertEqual(caught.exception.missing, missing)
        with self.assertRaises(ShortStock) as caught:
            b.act(CAP, [], {0: [("spend", ROW, K, 3)]})
        self.assertEqual(caught.exception.missing, 3)
        a.act(None, [], {0: [("add", ROW, K, 5), ("spend", ROW, K, 15)]})
        self.assertEqual(a.shares(0, ROW, K), [0, 0])

    def test_the_spaces_in_ascending_order(self):
        a, _ = pair(spaces=(0, 1, 2, 3))
        with self.assertRaises(ShortStock) as caught:
            a.act(None, [], {3: [("spend", ROW, K, 13)], 1: [("row", T), ("spend", ROW, K, 12)], 2: [("spend", ROW, K, 99)],
                             0: [("spend", ROW, K, 10)]})
        self.assertEqual(caught.exception.missing, 2)
        with self.assertRaises(ShortStock) as caught:
            a.act(None, [], {3: [("spend", ROW, K, 13)]})
        self.assertEqual(caught.exception.missing, 3)

    def test_only_acts_of_the_change_itself_are_short(self):
        a, b = pair()
        a.act(None, [], {0: [("lend", ROW, K, 1, 4)]})
        meet(a, b)
        # Concurrently the lend is undone and its amount is spent, so the spend is not covered any more.
        a.act(None, [], {0: [("undo", (0, 2))]})
        b.act(CAP, [], {0: [("spend", ROW, K, 4)]})
        meet(a, b)
        self.assertEqual(b.shares(0, ROW, K), [10, 0])
        self.assertEqual(b.act(CAP, [], {0: [("row", T)]}), (1, 2))
        self.assertEqual(a.act(None, [], {0: [("spend", ROW, K, 10)]}), (0, 4))

    def test_acts_that_are_not_judged_are_not_short(self):
        a, _ = pair()
        row = (0, 2, 0)
        self.assertEqual(a.act(None, [], {0: [("row", T), ("spend", row, I, 5), ("spend", ROW, K, 0), ("spend", ROW, K, -1),
                                              ("lend", ROW, K, 0, 99), ("lend", ROW, K, 2, 99),
                                              ("spend", ROW, (0, 1, 9), 5)]}), (0, 2))
        a.act(None, [], {0: [("drop", row), ("drop", ROW)]})
        self.assertEqual(a.act(None, [], {0: [("spend", ROW, K, 99)]}), (0, 4))

    def test_uncounted_comes_before_short(self):
        _, b = pair((READ, NO, NO, NO))
        self.same(b, lambda: b.act(CAP, [], {0: [("spend", ROW, K, 99)]}), UncountedChange)

    def test_arguments_that_change_later_have_no_effect(self):
        a = Replica(0, 1)
        acts, publics = [("table", "t")], []
        parts = {0: acts}
        a.act(None, publics, parts)
        acts.append(("table", "u"))
        publics.append(("seal",))
        parts[1] = [("table", "v")]
        self.assertEqual((len(a.ask("select * from s0_t")[1]), a.verdict((0, 1))), (0, True))
        with self.assertRaises(UnknownTable):
            a.ask("select * from s0_u")
        self.assertEqual((len(parts[0]), len(publics)), (2, 1))
        with self.assertRaises(NothingToTrim):
            a.trim()


class Packets(Case):
    def test_asking_and_answering_flush_the_file_that_counts(self):
        a, b = pair()
        for call in (a.have, lambda: a.answer(b.have())):
            a.act(None, [], {0: [("row", T)]})
            content = a.log(0)
            call()
            a.power(0, 0)
            self.assertEqual(a.log(0), content)
            a.open_again()

    def test_what_they_return(self):
        a, b = pair()
        a.act(None, [], {0: [("row", T)]})
        self.assertEqual(b.have(), asking(stored(b), 1))
        self.assertEqual(a.answer(b.have()), giving(stored(a), asking(stored(b), 1)))

    def test_taking_appends_a_note_with_the_packet(self):
        a, b = pair()
        for _ in range(2):
            packet, before = a.answer(b.have()), b.log(0)
            self.assertIsNone(b.take(packet))
            self.assertEqual(b.log(0), before + write_record(packet))
            a.act(None, [], {0: [("row", T)]})
        b.power(0, 0)
        # What it took before it asked again was flushed then.
        self.assertEqual(b.log(0), before)

    def test_an_old_packet_changes_nothing_but_the_log(self):
        a, b = pair()
        packet = a.answer(Replica(1, 2).have())
        a.act(None, [], {0: [("put", ROW, I, 8)]})
        b.take(a.answer(b.have()))
        status = b.status()
        b.take(packet)
        self.assertEqual((b.status(), b.ask("select i from s0_t")[1]), (status, [(8,)]))

    def test_packets_that_are_damaged_or_do_not_fit(self):
        a, b = pair()
        right = a.answer(b.have())
        b.flush()
        self.same(b, lambda: b.take(right + [0]), DamagedPacket)
        self.same(b, lambda: b.take(b.have()), DamagedPacket)
        self.same(b, lambda: b.take([]), DamagedPacket)
        self.same(b, lambda: b.take(Replica(0, 3).answer(Replica(0, 3).have())), UnfitPacket)
        other = Replica(0, 2)
        other.act(None, [], {0: [("table", "other")]})
        self.same(b, lambda: b.take(other.answer(Replica(0, 2).have())), UnfitPacket)
        self.same(a, lambda: a.answer(right), DamagedPacket)
        self.same(a, lambda: a.answer(b.have() + [0]), DamagedPacket)
        self.same(a, lambda: a.answer(Replica(0, 3).have()), DamagedPacket)

    def test_a_refused_packet_makes_nothing_lasting(self):
        a, b = pair()
        a.act(None, [], {0: [("row", T)]})
        before = a.log(0)
        for packet in ([], b.have() + [0]):
            with self.assertRaises(DamagedPacket):
                a.answer(packet)
        a.power(0, 0)
        self.assertLess(len(a.log(0)), len(before))

    def test_packets_that_change_later_have_no_effect(self):
        a, b = pair()
        a.act(None, [], {0: [("row", T)]})
        packet = a.answer(b.have())
        b.take(packet)
        told = b.log(0)
        packet.clear()
        self.assertEqual(b.log(0), told)
        b.flush()
        b.power(0, 0)
        b.open_again()
        self.assertEqual(b.status()[0], [2, 0])


class Asking(Case):
    def setUp(self):
        self.a, self.b = pair()

    def test_answers_and_parameters(self):
        self.assertEqual(self.a.ask("select id, i + $1 as m, l from s0_t", [1]), (["id", "m", "l"], [("0.1.4", 6, "")]))
        self.assertEqual(self.a.ask("select 1"), ([""], [(1,)]))
        self.assertEqual(self.a.ask("select $2", ("a", "b")), ([""], [("b",)]))

    def test_at_a_moment(self):
        self.a.act(None, [], {0: [("put", ROW, I, 6)]})
        for moment, rows in (([1, 0], [(5,)]), ((2, 0), [(6,)]), (None, [(6,)])):
            self.assertEqual(self.a.ask("select i from s0_t", (), moment)[1], rows)
        self.assertEqual(self.a.ask("select 1", moment=[0, 0])[1], [(1,)])
        self.same(self.a, lambda: self.a.ask("select i from s0_t", (), [0, 0]), UnknownTable)

    def test_the_moment_is_asked_before_the_question_is_read(self):
        for moment in ([], [0], [3, 0], [0, 1], [True, 0], [1, 0, 0], ["1", 0]):
            self.same(self.a, lambda: self.a.ask("?", (), moment), NoMoment)
        self.b.act(CAP, [], {})
        self.a.take(self.b.answer(self.a.have()))
        self.same(self.a, lambda: self.a.ask("?", (), [0, 1]), NoMoment)
        self.same(self.a, lambda: self.a.ask("?", (), [1, 1]), RefusedText)
        self.a.act(None, [("seal",)], {})
        self.a.trim()
        self.same(self.a, lambda: self.a.ask("?", (), [1, 0]), ForgottenPast)
        self.assertEqual(self.a.ask("select i from s0_t", (), [2, 1])[1], [(5,)])

    def test_errors_of_questions(self):
        for text, error in (("select", RefusedText), ("select x from s0_t", UnknownColumn), ("select $1", UnknownParameter),
                            ("select 1 + 'a'", KindMismatch), ("select 1 from s0_u", UnknownTable),
                            ("select 1 as k, 2 as k order by k", AmbiguousColumn)):
            for call in (lambda: self.a.ask(text), lambda: self.a.history(text), lambda: self.a.plan(text),
                         lambda: self.a.live(text), lambda: self.a.why(text, (), (1,))):
                self.same(self.a, call, error)

    def test_histories(self):
        self.a.act(None, [], {0: [("put", ROW, I, 6)]})
        self.assertEqual(self.a.history("select i from s0_t where i > $1", [4]),
                         [((0, 1), [(5,)], []), ((0, 2), [(6,)], [(5,)])])
        self.assertEqual(self.a.history("select 1"), [(None, [(1,)], [])])
        self.a.act(None, [("seal",)], {})
        self.a.trim()
        self.assertEqual(self.a.history("select i from s0_t"), [(None, [(6,)], [])])

    def test_plans(self):
        self.assertEqual(self.a.plan("select i from s0_t where i = $1 order by i limit 3", (1,)),
                         ("pick", (("column", None, "1"),), (
                             "keep", ("binary", "=", ("column", None, "1"), ("parameter", 1)), ("scan", "s0_t"))))
        self.same(self.a, lambda: self.a.plan("select (select max(i) from s0_t)"), NoPlan)

    def test_ways(self):
        self.b.act(CAP, [], {0: [("put", ROW, I, 6)]})
        self.a.take(self.b.answer(self.a.have()))
        rests = [(0, 1), (1, 1)]
        self.assertEqual(self.a.why("select i from s0_t x", (), (6,)), [[("s0_t", "0.1.4", rests)]])
        self.assertEqual(self.a.why("select x.i from s0_t x join s0_t on x.i = $1", [6], (6,)),
                         [[("s0_t", "0.1.4", rests), ("s0_t", "0.1.4", rests)]])
        self.assertEqual(self.a.why("select 1 union select 1", (), (1,)), [[], []])
        self.assertEqual(self.a.why("select i from s0_t", (), (5,)), [])
        self.same(self.a, lambda: self.a.why("select count(*) from s0_t", (), (1,)), NoReason)

    def test_live_results(self):
        watch = self.a.live("select i from s0_t where i > $1", [0])
        self.assertIsInstance(watch, Watch)
        self.assertEqual(watch.turn(), (["i"], [(5,)], []))
        self.assertEqual(watch.turn(), (["i"], [], []))
        self.a.act(None, [], {0: [("put", ROW, I, 6)]})
        other = self.a.live("select i from s0_t", ())
        self.assertEqual(watch.turn(), (["i"], [(6,)], [(5,)]))
        self.assertEqual(other.turn(), (["i"], [(6,)], []))

    def test_a_live_result_whose_question_is_refused_later(self):
        watch = self.a.live("select i from s0_t")
        watch.turn()
        self.a.act(None, [], {0: [("undo", (0, 1))]})
        for _ in range(2):
            with self.assertRaises(UnknownTable):
                watch.turn()
        self.a.act(None, [], {0: [("undo", (0, 2))]})
        self.assertEqual(watch.turn(), (["i"], [], []))

    def test_parameters_that_change_later_have_no_effect(self):
        parameters = [0]
        watch = self.a.live("select i from s0_t where i > $1", parameters)
        parameters[0] = 9
        self.assertEqual(watch.turn(), (["i"], [(5,)], []))
        watch.turn()[1].append("x")
        self.assertEqual(watch.turn(), (["i"], [], []))


class Telling(Case):
    def setUp(self):
        self.a, self.b = pair((ALL_RIGHTS[0], NO, NO, NO), spaces=(0, 1))

    def test_shares_and_danger(self):
        self.a.act(None, [], {0: [("lend", ROW, K, 1, 4)]})
        meet(self.a, self.b)
        self.assertEqual(self.a.shares(0, ROW, K), [6, 4])
        self.assertEqual(self.a.shares(1, ROW, K), [10, 0])
        self.assertEqual(self.a.shares(0, ROW, I), [0, 0])
        self.assertIsNone(self.a.danger(0, ROW, K, 6))
        [change] = self.a.danger(0, ROW, K, 7)
        self.assertEqual((change.header(), change.parts[0]), ((1, 1, (2, 0), CAP, ()), (("spend", ROW, K, 4),)))
        self.assertIsNone(self.b.danger(0, ROW, K, 4))
        [change] = self.b.danger(0, ROW, K, 5)
        self.assertEqual((change.name(), change.parts[0]), ((0, 3), (("spend", ROW, K, 6),)))

    def test_conflicts_of_each_space(self):
        self.b.act(CAP, [], {0: [("put", ROW, I, 6)]})
        self.a.act(None, [], {0: [("put", ROW, I, 7)]})
        meet(self.a, self.b)
        for replica in (self.a, self.b):
            self.assertEqual(replica.conflicts(0), ([], [], [(ROW, I, (7, 6))]))
            self.assertEqual(replica.conflicts(1), ([], [], []))

    def test_verdicts(self):
        self.assertIs(self.a.verdict((0, 1)), True)
        for name in ((0, 2), (1, 1), (0, 0), (5, 1), (9, 9)):
            self.assertIsNone(self.a.verdict(name))
        self.b.act(CAP, [], {0: [("row", T)]})
        self.a.act(None, [("revoke", CAP)], {})
        meet(self.a, self.b)
        self.assertIs(self.a.verdict((1, 1)), False)
        self.a.act(None, [("seal",)], {})
        self.a.trim()
        self.assertIsNone(self.a.verdict((0, 1)))

    def test_status(self):
        self.assertEqual(self.a.status(), ([1, 0], [0, 0], [True] * 4))
        self.assertEqual(self.b.status(), ([1, 0], [0, 0], [True, False, False, False]))
        for told in self.a.status():
            told.clear()
        self.assertEqual(self.a.status(), ([1, 0], [0, 0], [True] * 4))
        self.a.act(None, [("seal",)], {})
        self.a.trim()
        self.assertEqual(self.a.status(), ([2, 0], [2, 0], [True] * 4))
        self.b.take(self.a.answer(self.b.have()))
        self.assertEqual(self.b.status(), ([2, 0], [2, 0], [True, False, False, False]))

    def test_edits_through_a_lens(self):
        lens = (0, 2, 0)
        self.a.act(None, [], {0: [("lens", "l", T, ((I, "n"),), ())]})
        self.assertEqual(self.a.through(None, 0, lens, [("new", {"n": 7}), ("set", "0.1.4", "n", 8)]), (0, 3))
        self.assertEqual(self.a.ask("select * from s0_l")[1], [("0.1.4", 8), ("0.3.0", 7)])
        self.assertEqual(self.a.through(None, 0, lens, []), (0, 4))
        meet(self.a, self.b)
        self.assertEqual(self.b.through(CAP, 0, lens, [("gone", "0.3.0")]), (1, 1))
        self.assertEqual(stored(self.b).changes[1][0].parts, ((("drop", (0, 3, 0)),), (), (), ()))
        self.same(self.b, lambda: self.b.through(None, 0, lens, []), UncountedChange)
        self.same(self.b, lambda: self.b.through(CAP, 0, lens, [("set", "0.1.4", "i", 1)]), NotWritable, EditError)


class Trimming(Case):
    def setUp(self):
        self.a, self.b = pair((ALL_RIGHTS[0], NO, NO, NO), spaces=(0, 1))

    def test_there_must_be_an_allowed_seal(self):
        self.same(self.a, self.a.trim, NothingToTrim)
        self.a.act(None, [("seal",)], {})
        self.same(self.b, self.b.trim, NothingToTrim)
        self.assertIsNone(self.a.trim())
        self.same(self.a, self.a.trim, NothingToTrim)

    def test_the_store_is_cut_at_the_last_seal(self):
        self.a.act(None, [("seal",)], {})
        self.a.act(None, [("seal",)], {})
        self.a.act(None, [], {0: [("put", ROW, I, 9)]})
        store = stored(self.a)
        self.a.trim()
        self.assertEqual(stored(self.a).data(), cut_at(store, store.find((0, 3))).data())
        self.assertEqual((self.a.status()[1], self.a.ask("select i, k from s0_t")[1]), ([3, 0], [(9, 10)]))

    def test_the_other_file_counts_from_then_on(self):
        for turn in (2, 3, 4):
            self.a.act(None, [("seal",)], {})
            store = stored(self.a)
            self.a.trim()
            after = cut_at(store, store.changes[0][-1])
            index = (turn + 1) % 2
            self.assertEqual((self.a.log(index), self.a.log(1 - index)), (log_start(turn, after), []))
            self.a.act(None, [], {0: [("row", T)]})
            self.assertGreater(len(self.a.log(index)), len(log_start(turn, after)))
            self.assertEqual(self.a.log(1 - index), [])
            # The log was flushed, the last truncation and the note were not.
            self.a.flush()

    def test_only_spaces_that_may_be_read_must_be_known(self):
        self.a.act(None, [("seal",)], {0: [("row", T)]})
        meet(self.a, self.b)
        self.assertEqual(self.b.status()[2], [True, False, False, False])
        self.b.trim()
        self.assertEqual(self.b.status(), ([2, 0], [2, 0], [True, False, False, False]))
        self.assertEqual(self.b.ask("select id from s0_t order by id")[1], [("0.1.4",), ("0.2.0",)])

    def three(self):
        """Member 1 may read the spaces 0 and 1, member 2 only space 0."""
        a, b, c = [Replica(member, 3) for member in range(3)]
        publics = [("grant", 1, (BOTH, BOTH, NO, NO)), ("grant", 2, (BOTH, NO, NO, NO))]
        a.act(None, publics, {0: START, 1: START})
        return a, b, c

    def test_a_space_that_may_be_read_and_is_not_known(self):
        a, b, c = self.three()
        a.act(None, [("seal",)], {})
        c.take(a.answer(c.have()))
        b.take(c.answer(b.have()))
        self.assertEqual(b.status()[2], [True, False, False, False])
        self.same(b, b.trim, NothingToTrim)
        self.assertIsNone(c.trim())
        b.take(a.answer(b.have()))
        self.assertIsNone(b.trim())
        self.assertEqual(b.ask("select i from s1_t")[1], [(5,)])

    def test_what_comes_after_the_seal_need_not_be_known(self):
        a, b, c = self.three()
        a.act(None, [("seal",)], {})
        b.take(a.answer(b.have()))
        a.act(None, [], {1: [("row", T)]})
        c.take(a.answer(c.have()))
        b.take(c.answer(b.have()))
        self.assertEqual(b.status()[2], [True, False, False, False])
        self.assertIsNone(b.trim())
        self.assertEqual(b.status(), ([3, 0, 0], [2, 0, 0], [True, False, False, False]))
        b.take(a.answer(b.have()))
        self.assertEqual(b.ask("select i from s1_t order by i")[1], [(None,), (5,)])

    def test_what_may_be_read_is_told_by_the_whole_store(self):
        a, b, c, d = [Replica(member, 4) for member in range(4)]
        a.act(None, [("grant", 2, (BOTH, NO, NO, NO))], {0: START, 1: START})
        a.act(None, [("seal",)], {})
        c.take(a.answer(c.have()))
        # Only behind the seal member 2 may read space 1, and nobody tells it what is there.
        a.act(None, [("grant", 2, (NO, READ, NO, NO))], {})
        d.take(a.answer(d.have()))
        c.take(d.answer(c.have()))
        self.same(c, c.trim, NothingToTrim)
        c.take(a.answer(c.have()))
        self.assertIsNone(c.trim())
        # A member that may read nothing needs to know nothing.
        self.assertEqual(d.status()[2], [False] * 4)
        self.assertIsNone(d.trim())
        self.assertEqual(d.status(), ([3, 0, 0, 0], [2, 0, 0, 0], [False] * 4))

    def test_packets_behind_a_cut(self):
        self.a.act(None, [("seal",)], {})
        self.a.trim()
        self.b.take(self.a.answer(self.b.have()))
        self.assertEqual(self.b.status()[1], [2, 0])
        self.assertEqual(self.b.act(CAP, [], {0: [("put", ROW, I, 3)]}), (1, 1))
        meet(self.a, self.b)
        new = Replica(1, 2)
        new.take(self.a.answer(new.have()))
        for replica in (self.a, self.b, new):
            self.assertEqual(replica.ask("select i from s0_t")[1], [(3,)])


class Dark(Case):
    """Point 110: which calls raise PowerOff and ReplicaClosed, ahead of all else."""

    def calls(self, replica, watch):
        return {
            "act": lambda: replica.act((9, 9, 9), [], {}), "have": replica.have, "answer": lambda: replica.answer([]),
            "take": lambda: replica.take([]), "ask": lambda: replica.ask("?", (), [9]), "history": lambda: replica.history("?"),
            "plan": lambda: replica.plan("?"), "shares": lambda: replica.shares(0, ROW, K),
            "danger": lambda: replica.danger(0, ROW, K, 1), "through": lambda: replica.through((9, 9, 9), 0, (9, 9, 9), []),
            "live": lambda: replica.live("?"), "why": lambda: replica.why("?", (), ()),
            "conflicts": lambda: replica.conflicts(0),
            "verdict": lambda: replica.verdict((0, 1)), "status": replica.status, "trim": replica.trim, "flush": replica.flush,
            "turn": watch.turn,
        }

    def setUp(self):
        self.a, _ = pair()
        self.watch = self.a.live("select i from s0_t")
        self.watch.turn()

    def test_a_closed_replica(self):
        self.a.power(0, 0)
        logs = (self.a.log(0), self.a.log(1))
        for name, call in self.calls(self.a, self.watch).items():
            with self.subTest(name), self.assertRaises(ReplicaClosed):
                call()
        self.assertEqual((self.a.log(0), self.a.log(1)), logs)
        self.a.fail_after(100)
        self.a.power(0, 0)
        self.a.open_again()
        with self.assertRaises(ReplicaOpen):
            self.a.open_again()

    def test_without_power(self):
        self.a.fail_after(0)
        with self.assertRaises(PowerOff):
            self.a.flush()
        logs = (self.a.log(0), self.a.log(1))
        for name, call in self.calls(self.a, self.watch).items():
            with self.subTest(name), self.assertRaises(PowerOff):
                call()
        with self.assertRaises(PowerOff):
            self.a.fail_after(3)
        with self.assertRaises(PowerOff):
            self.a.open_again()
        self.assertEqual((self.a.log(0), self.a.log(1)), logs)
        self.a.power(0, 0)
        with self.assertRaises(ReplicaClosed):
            self.a.status()

    def test_a_watch_goes_on_when_the_replica_is_open_again(self):
        self.a.flush()
        self.a.power(0, 0)
        self.a.open_again()
        self.assertEqual(self.watch.turn(), (["i"], [], []))
        self.a.act(None, [], {0: [("put", ROW, I, 6)]})
        self.assertEqual(self.watch.turn(), (["i"], [(6,)], [(5,)]))

    def test_calls_without_steps_need_no_power_to_come(self):
        self.a.fail_after(0)
        self.assertEqual(self.a.ask("select i from s0_t")[1], [(5,)])
        self.a.status()
        for call, error in ((lambda: self.a.act((9, 9, 9), [], {}), UncountedChange), (self.a.trim, NothingToTrim),
                            (lambda: self.a.take([]), DamagedPacket), (lambda: self.a.answer([]), DamagedPacket)):
            with self.assertRaises(error):
                call()
        self.assertEqual(self.a.ask("select i from s0_t")[1], [(5,)])


if __name__ == "__main__":
    unittest.main()
