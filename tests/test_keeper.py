"""Points 20 and 21: keepers told pieces, poured into others, copied, going back, and what they tell."""

import copy
import random
import unittest

from latewood.anew import slack_of
from latewood.errors import (
    Clash, NoBack, NoHouse, NoPiece, NoRun, NoShifts, NotRight, NotWhole, TooMany, WoodError,
)
from latewood.heaps import cleared, holes_of, runs_of
from latewood.keeper import Keeper
from latewood.shapes import shape_of
from latewood.shifts import are_shifts, is_ring, shifts_of
from latewood.spans import span_of
from latewood.ways import way_of
from latewood.woods import wood_of

from helpers import (
    FAR_NUMBERS, NO_NUMBERS, asking, clash_by_words, clocked_heap, counted, make, nested, piece, random_piece, retold,
    right_run, sixty_pieces, spoil,
)

TOP = make(3, 0, -1, 2, 0, -5, 12)
KID = make(3, 1, 0, 1, 2, 0, 9, True)
FAR_KID = make(3, 2, 0, 5, 0, 3, 40)
OTHER = make(8, 0, -1, 6, 0, 1, 2)

NO_PIECES = (
    list(KID), KID[:7], KID + (0,), (100,) + KID[1:], (-1,) + KID[1:], KID[:1] + (100,) + KID[2:], KID[:2] + (1,) + KID[3:],
    KID[:2] + (-2,) + KID[3:], KID[:2] + (-1,) + KID[3:], KID[:3] + (8,) + KID[4:], KID[:4] + (1000,) + KID[5:],
    KID[:5] + (9, 0, True), KID[:7] + (1,), KID[:7] + (None,), (True,) + KID[1:], KID[:6] + (True, True), "3.1 0 1.2 0 9 j",
    [KID], (KID,), ("3",) + KID[1:],
) + NO_NUMBERS + FAR_NUMBERS


def keeper_of(pieces):
    """A keeper that was told these pieces, one by one."""
    keeper = Keeper()
    for one in pieces:
        keeper.tell(one)
    return keeper


class Cases(unittest.TestCase):

    def has(self, keeper, pieces, tellings=None):
        self.assertEqual(keeper.heap_now(), sorted(set(pieces)))
        self.assertEqual(len(keeper), len(set(pieces)))
        if tellings is not None:
            self.assertEqual(keeper.tellings_now(), tellings)

    def refused(self, cls, ask, *things):
        with self.assertRaises(cls, msg=repr(things)[:99]) as held:
            ask(*things)
        self.assertIs(type(held.exception), cls)
        return held.exception

    def unchanged(self, keeper, cls, ask, *things):
        """It is refused, and nothing of the keeper is changed."""
        before = (keeper.heap_now(), len(keeper), keeper.tellings_now(), keeper.copy())
        told = self.refused(cls, ask, *things)
        self.assertEqual((keeper.heap_now(), len(keeper), keeper.tellings_now(), keeper), before)
        return told


class Told(Cases):

    def test_new_and_again(self):
        keeper = Keeper()
        self.has(keeper, [], 0)
        self.assertIs(keeper.tell(KID), True)
        self.has(keeper, [KID], 1)
        self.assertIs(keeper.tell(KID), False)
        self.has(keeper, [KID], 2)
        self.assertIs(keeper.tell(TOP), True)
        self.assertIs(keeper.tell(tuple(list(KID))), False)
        self.assertIs(keeper.tell(TOP), False)
        self.has(keeper, [TOP, KID], 5)

    def test_what_is_no_piece(self):
        for pieces in ([], [KID], [TOP, KID], sixty_pieces()):
            keeper = keeper_of(pieces)
            for thing in NO_PIECES + (nested(20), nested(20, list), (0,) * 20000, [0] * 20000, Keeper()):
                self.unchanged(keeper, NoPiece, keeper.tell, thing)
            self.has(keeper, pieces, len(pieces))

    def test_what_clashes_with_one(self):
        keeper = keeper_of([TOP, KID, OTHER])
        for one in (TOP, KID, OTHER):
            late = one[:6] + (one[6] + 1, one[7])
            self.assertEqual(self.unchanged(keeper, Clash, keeper.tell, late).pair, (one, late))
            soon = one[:5] + (one[5] - 1,) + one[6:]
            self.assertEqual(self.unchanged(keeper, Clash, keeper.tell, soon).pair, (soon, one))
            by_count = make(5, 5, -1, one[3], one[4])
            self.assertEqual(self.unchanged(keeper, Clash, keeper.tell, by_count).pair, tuple(sorted([one, by_count])))
            by_number = make(one[0], one[1], 7, 7, 7)
            self.assertEqual(self.unchanged(keeper, Clash, keeper.tell, by_number).pair, tuple(sorted([one, by_number])))
        self.has(keeper, [TOP, KID, OTHER], 3)
        self.assertIs(type(self.refused(Clash, keeper.tell, make(3, 0, -1, 7)).pair), tuple)

    def test_what_clashes_with_several(self):
        keeper = keeper_of([OTHER, KID, TOP, FAR_KID])
        for one, pair in (
                (make(3, 1, 0, 2, 0), (TOP, make(3, 1, 0, 2, 0))), (make(3, 0, -1, 6, 0), (TOP, make(3, 0, -1, 6, 0))),
                (make(8, 0, -1, 1, 2), (KID, make(8, 0, -1, 1, 2))), (make(3, 2, 0, 6, 0), (FAR_KID, make(3, 2, 0, 6, 0))),
                (make(3, 1, -1, 6, 0), (make(3, 1, -1, 6, 0), KID)), (make(3, 1, -1, 5, 0), (make(3, 1, -1, 5, 0), KID))):
            pairs = [tuple(sorted([one, other])) for other in keeper.heap_now() if clash_by_words(one, other)]
            self.assertEqual(len(pairs), 2)
            self.assertEqual(self.unchanged(keeper, Clash, keeper.tell, one).pair, pair)
            self.assertEqual(min(pairs), pair)

    def test_the_least_pair(self):
        chance = random.Random(230)
        found = 0
        for _ in range(300):
            keeper = Keeper()
            for _ in range(20):
                one = random_piece(chance, 2, 6, 2, 6)
                pairs = [tuple(sorted([one, other])) for other in keeper.heap_now() if clash_by_words(one, other)]
                if pairs:
                    self.assertEqual(self.refused(Clash, keeper.tell, one).pair, min(pairs))
                    found += len(pairs) > 1
                else:
                    new = one not in keeper.heap_now()
                    self.assertIs(keeper.tell(one), new)
        self.assertGreater(found, 100)

    def test_up_to_sixty_and_one_beyond(self):
        pieces = sixty_pieces()
        keeper = Keeper()
        for at, one in enumerate(pieces):
            self.assertIs(keeper.tell(one), True)
            self.assertEqual(len(keeper), at + 1)
        for one in (OTHER[:3] + (7, 999) + OTHER[5:], make(90, 0, house=7)):
            self.unchanged(keeper, TooMany, keeper.tell, one)
        for one in pieces:
            self.assertIs(keeper.tell(one), False)
        self.has(keeper, pieces, 120)

    def test_a_clash_ahead_of_too_many(self):
        pieces = sixty_pieces()
        keeper = keeper_of(pieces)
        late = pieces[9][:6] + (pieces[9][6] + 1, pieces[9][7])
        self.assertEqual(self.unchanged(keeper, Clash, keeper.tell, late).pair, (pieces[9], late))
        self.unchanged(keeper, NoPiece, keeper.tell, None)

    def test_room_again_behind_it(self):
        keeper = keeper_of(sixty_pieces())
        late = make(90, 0, house=7)
        self.unchanged(keeper, TooMany, keeper.tell, late)
        keeper.back()
        self.assertIs(keeper.tell(late), True)
        self.has(keeper, sixty_pieces()[:59] + [late], 61)

    def test_each_keeper_by_itself(self):
        first, second = Keeper(), Keeper()
        first.tell(TOP)
        self.has(second, [], 0)
        second.tell(KID)
        self.has(first, [TOP], 1)
        self.refused(NoBack, Keeper().back)


class Poured(Cases):

    def test_others(self):
        keeper, other = keeper_of([TOP, KID]), keeper_of([OTHER, KID, FAR_KID])
        told = keeper.pour(other)
        self.assertEqual((told, type(told)), (2, int))
        self.has(keeper, [TOP, KID, FAR_KID, OTHER], 2)
        self.has(other, [OTHER, KID, FAR_KID], 3)
        self.assertEqual(keeper.pour(other), 0)
        self.assertEqual(other.pour(keeper), 1)
        self.assertEqual(keeper, other)

    def test_an_empty_one(self):
        keeper = keeper_of([TOP, KID])
        self.assertEqual(keeper.pour(Keeper()), 0)
        self.has(keeper, [TOP, KID], 2)
        fresh = Keeper()
        self.assertEqual(fresh.pour(keeper), 2)
        self.has(fresh, [TOP, KID], 0)
        self.assertEqual(Keeper().pour(Keeper()), 0)

    def test_itself(self):
        for pieces in ([], [TOP], [TOP, KID, OTHER], sixty_pieces()):
            keeper = keeper_of(pieces)
            told = keeper.pour(keeper)
            self.assertEqual((told, type(told)), (0, int))
            self.has(keeper, pieces, len(pieces))
            self.assertEqual(keeper.pour(keeper.copy()), 0)

    def test_one_that_clashes(self):
        late = KID[:6] + (10, True)
        keeper, other = keeper_of([TOP, KID]), keeper_of([OTHER, late, FAR_KID])
        self.assertEqual(self.unchanged(keeper, Clash, keeper.pour, other).pair, (KID, late))
        self.has(other, [OTHER, late, FAR_KID], 3)
        self.assertEqual(self.unchanged(other, Clash, other.pour, keeper).pair, (KID, late))
        self.has(keeper, [TOP, KID], 2)
        self.refused(NoBack, keeper.back, 3)

    def test_the_least_pair(self):
        chance = random.Random(231)
        found = 0
        for _ in range(300):
            keepers = []
            for _ in range(2):
                keeper = Keeper()
                for _ in range(chance.randrange(1, 9)):
                    try:
                        keeper.tell(random_piece(chance, 2, 8, 2, 8))
                    except Clash:
                        pass
                keepers.append(keeper)
            one, other = keepers
            pairs = [
                tuple(sorted([mine, its])) for mine in one.heap_now() for its in other.heap_now() if clash_by_words(mine, its)
            ]
            before = other.heap_now()
            if pairs:
                self.assertEqual(self.unchanged(one, Clash, one.pour, other).pair, min(pairs))
                found += len(pairs) > 1
            else:
                new = set(other.heap_now()) - set(one.heap_now())
                self.assertEqual(one.pour(other), len(new))
            self.assertEqual(other.heap_now(), before)
        self.assertGreater(found, 100)

    def test_too_many(self):
        pieces = sixty_pieces()
        keeper = keeper_of(pieces[:40])
        more = keeper_of(pieces[30:] + [make(90, 0, house=7)])
        self.unchanged(keeper, TooMany, keeper.pour, more)
        self.has(more, pieces[30:] + [make(90, 0, house=7)], 31)
        self.assertEqual(keeper.pour(keeper_of(pieces[30:])), 20)
        self.has(keeper, pieces, 40)
        self.unchanged(keeper, TooMany, keeper.pour, keeper_of([make(90, 0, house=7)]))
        self.assertEqual(keeper.pour(keeper_of(pieces[:7])), 0)
        self.assertEqual(keeper.pour(keeper), 0)

    def test_a_clash_ahead_of_too_many(self):
        pieces = sixty_pieces()
        keeper = keeper_of(pieces)
        late = pieces[9][:6] + (pieces[9][6] + 1, pieces[9][7])
        other = keeper_of([make(90, 0, house=7), late])
        self.assertEqual(self.unchanged(keeper, Clash, keeper.pour, other).pair, (pieces[9], late))

    def test_what_either_is_told_later(self):
        keeper, other = keeper_of([TOP]), keeper_of([KID])
        keeper.pour(other)
        other.tell(FAR_KID)
        self.has(keeper, [TOP, KID], 1)
        keeper.tell(OTHER)
        self.has(other, [KID, FAR_KID], 2)
        other.back(2)
        self.has(other, [], 2)
        self.has(keeper, [TOP, KID, OTHER], 2)
        self.assertEqual(keeper.pour(other), 0)
        other.tell(FAR_KID)
        self.assertEqual(keeper.pour(other), 1)
        keeper.back(4)
        self.has(other, [FAR_KID], 3)


class Back(Cases):

    def test_behind_tellings(self):
        keeper = keeper_of([TOP, KID, OTHER])
        self.assertIsNone(keeper.back())
        self.has(keeper, [TOP, KID], 3)
        self.assertIsNone(keeper.back(1))
        self.has(keeper, [TOP], 3)
        keeper.back()
        self.has(keeper, [], 3)
        self.unchanged(keeper, NoBack, keeper.back)

    def test_behind_what_brought_nothing_new(self):
        keeper = keeper_of([TOP, KID, TOP, KID, TOP])
        keeper.pour(Keeper())
        keeper.pour(keeper)
        keeper.pour(keeper_of([TOP]))
        keeper.back()
        self.has(keeper, [TOP], 5)
        keeper.back()
        self.has(keeper, [], 5)
        self.unchanged(keeper, NoBack, keeper.back)

    def test_behind_what_was_refused(self):
        keeper = keeper_of([TOP, KID])
        for thing in (None, KID[:6] + (10, True)):
            self.assertRaises(WoodError, keeper.tell, thing)
        self.assertRaises(Clash, keeper.pour, keeper_of([OTHER, KID[:6] + (10, True)]))
        keeper.back()
        self.has(keeper, [TOP], 2)

    def test_behind_pourings(self):
        keeper = keeper_of([TOP])
        keeper.pour(keeper_of([TOP, KID, OTHER]))
        keeper.tell(FAR_KID)
        keeper.back()
        self.has(keeper, [TOP, KID, OTHER], 2)
        keeper.back()
        self.has(keeper, [TOP], 2)
        keeper.back()
        self.has(keeper, [], 2)

    def test_only_what_was_new_of_a_pouring(self):
        keeper = keeper_of([TOP, KID])
        self.assertEqual(keeper.pour(keeper_of([KID, OTHER])), 1)
        keeper.back()
        self.has(keeper, [TOP, KID])

    def test_several_at_once(self):
        for many in range(1, 6):
            keeper = keeper_of([TOP, KID])
            keeper.pour(keeper_of([OTHER, make(9, 9, house=7)]))
            keeper.tell(FAR_KID)
            keeper.tell(make(50, 0, house=0))
            states = [
                [TOP, KID, OTHER, make(9, 9, house=7), FAR_KID], [TOP, KID, OTHER, make(9, 9, house=7)], [TOP, KID], [TOP], [],
            ]
            self.assertIsNone(keeper.back(many))
            self.has(keeper, states[many - 1], 4)

    def test_more_than_there_are(self):
        for pieces in ([], [TOP], [TOP, KID, OTHER]):
            keeper = keeper_of(pieces)
            for many in (len(pieces) + 1, len(pieces) + 2, 61, 1000, 10 ** 39):
                self.unchanged(keeper, NoBack, keeper.back, many)
            for _ in pieces:
                keeper.back()
            self.has(keeper, [], len(pieces))
            self.unchanged(keeper, NoBack, keeper.back)
            self.unchanged(keeper, NoBack, keeper.back, 1)

    def test_told_again_behind_it(self):
        keeper = keeper_of([TOP, KID])
        keeper.back()
        self.assertIs(keeper.tell(KID), True)
        keeper.back(2)
        self.assertIs(keeper.tell(KID[:6] + (10, True)), True)
        self.assertIs(keeper.tell(TOP), True)
        self.assertEqual(keeper.pour(keeper_of([TOP, OTHER])), 1)
        self.has(keeper, [KID[:6] + (10, True), TOP, OTHER], 5)
        keeper.back(3)
        self.has(keeper, [], 5)
        self.unchanged(keeper, NoBack, keeper.back)

    def test_sixty(self):
        pieces = sixty_pieces()
        keeper = keeper_of(pieces)
        keeper.back(60)
        self.has(keeper, [], 60)
        keeper.pour(keeper_of(pieces))
        self.unchanged(keeper, NoBack, keeper.back, 2)
        keeper.back()
        self.has(keeper, [], 60)


class Copies(Cases):

    def test_the_same_pieces_and_nothing_else(self):
        for pieces in ([], [TOP], [OTHER, KID, TOP, KID], sixty_pieces()):
            keeper = keeper_of(pieces)
            again = keeper.copy()
            self.assertIs(type(again), Keeper)
            self.assertIsNot(again, keeper)
            self.assertEqual(again, keeper)
            self.has(again, pieces, 0)
            self.unchanged(again, NoBack, again.back)
            self.has(keeper, pieces, len(pieces))

    def test_what_either_is_told_later(self):
        keeper = keeper_of([TOP, KID])
        again = keeper.copy()
        keeper.tell(OTHER)
        self.has(again, [TOP, KID], 0)
        self.assertIs(again.tell(FAR_KID), True)
        self.assertIs(again.tell(KID), False)
        self.has(keeper, [TOP, KID, OTHER], 3)
        self.has(again, [TOP, KID, FAR_KID], 2)
        keeper.back(3)
        self.has(again, [TOP, KID, FAR_KID], 2)
        again.back()
        self.has(again, [TOP, KID], 2)
        self.unchanged(again, NoBack, again.back)
        self.has(keeper, [], 3)

    def test_a_copy_of_a_copy(self):
        keeper = keeper_of([TOP])
        again = keeper.copy().copy()
        again.pour(keeper_of([KID]))
        third = again.copy()
        again.back()
        self.has(again, [TOP], 0)
        self.has(third, [TOP, KID], 0)
        self.has(keeper, [TOP], 1)


class Equal(Cases):

    def test_by_the_pieces_alone(self):
        pieces = [TOP, KID, OTHER, FAR_KID]
        keeper = keeper_of(pieces)
        others = [keeper_of(pieces[::-1]), keeper_of(pieces * 3), keeper.copy(), Keeper(), keeper_of([TOP]), keeper_of(pieces)]
        others[3].pour(keeper)
        others[4].pour(keeper_of(pieces[::-1]))
        others[5].tell(make(50, 0))
        others[5].back()
        for other in others:
            self.assertIs(keeper == other, True)
            self.assertIs(other == keeper, True)
            self.assertIs(keeper != other, False)
        self.assertIs(Keeper() == Keeper(), True)
        self.assertIs(keeper == keeper, True)

    def test_not_with_other_pieces(self):
        keeper = keeper_of([TOP, KID])
        for pieces in ([], [TOP], [KID], [TOP, OTHER], [TOP, KID, OTHER], [TOP, KID[:6] + (10, True)]):
            self.assertIs(keeper == keeper_of(pieces), False)
            self.assertIs(keeper != keeper_of(pieces), True)
            self.assertIs(keeper_of(pieces) == keeper, False)

    def test_nothing_else(self):
        for pieces in ([], [TOP], [TOP, KID]):
            keeper = keeper_of(pieces)
            for thing in (pieces, tuple(pieces), sorted(pieces), {}, None, 0, len(pieces), "", True, False, Keeper, object()):
                self.assertIs(keeper == thing, False)
                self.assertIs(thing == keeper, False)
                self.assertIs(keeper != thing, True)


class Questions(Cases):
    """What a keeper tells of its pieces is what the stages tell of them."""

    def same(self, ask, function, heap, *things):
        """Asked twice the same, or refused alike."""
        for _ in range(2):
            try:
                expected = function(heap, *things)
            except WoodError as error:
                self.refused(type(error), ask, *things)
                continue
            told = ask(*things)
            if function is shifts_of:
                self.assertEqual(told[0], expected[0])
                self.assertTrue((are_shifts if told[0] == "shifts" else is_ring)(heap, told[1]))
            else:
                self.assertEqual(told, expected)
                self.assertIs(type(told), type(expected))
            spoil(told)

    def all_the_same(self, keeper, heap):
        self.same(keeper.heap_now, cleared, heap)
        self.same(keeper.runs_now, runs_of, heap)
        self.same(keeper.holes_now, holes_of, heap)
        self.same(keeper.shifts_now, shifts_of, heap)
        for run in [one[0] for one in heap[:9]] + [0, 98, -1, None, True, "0", []]:
            self.same(keeper.wood_now, wood_of, heap, run)
            self.same(keeper.shape_now, shape_of, heap, run)
            self.same(keeper.way_now, way_of, heap, run)
            for number in [one[1] for one in heap[:4]] + [98, None, True]:
                self.same(keeper.slack_now, slack_of, heap, run, number)
        for one in (0, 1, 2, 3, 5, 8, -1, None, True):
            for other in (0, 1, 2, 3, 7, None, False):
                self.same(keeper.span_now, span_of, heap, one, other)

    def test_of_none(self):
        self.all_the_same(Keeper(), [])

    def test_of_some(self):
        chance = random.Random(233)
        for _ in range(25):
            heap = clocked_heap(chance, 3, 6, 4, chance.choice((0.0, 0.1)))
            heap += counted(right_run(chance, 70, 6))[:chance.randrange(7)] if chance.random() < 0.3 else []
            heap = counted(heap)
            self.all_the_same(keeper_of(retold(chance, heap)), heap)

    def test_of_rings_and_gaps(self):
        for askers in ({4: 5, 5: 4}, {4: -1, 5: -1}, {0: -1, 4: 5}, {4: 5, 5: 4, 0: -1}):
            heap = asking(askers) + asking({0: -1, 1: 0}, 3)
            self.all_the_same(keeper_of(heap), heap)

    def test_of_sixty(self):
        self.all_the_same(keeper_of(sixty_pieces()), sixty_pieces())

    def test_poured_copied_and_gone_back(self):
        chance = random.Random(234)
        heap = counted(right_run(chance, 0, 9) + right_run(chance, 1, 9))
        keeper = keeper_of(heap[:5] + [make(60, 0, house=7)])
        keeper.back()
        keeper.pour(keeper_of(heap[3:]))
        self.all_the_same(keeper, heap)
        self.all_the_same(keeper.copy(), heap)
        keeper.back()
        self.all_the_same(keeper, heap[:5])

    def test_what_they_tell_in_full(self):
        keeper = keeper_of([FAR_KID, KID, TOP, OTHER, make(8, 4, 9, 6, 2, 5, 6, True)])
        self.assertEqual(keeper.heap_now(), [TOP, KID, FAR_KID, OTHER, make(8, 4, 9, 6, 2, 5, 6, True)])
        self.assertEqual(keeper.runs_now(), [3, 8])
        self.assertEqual(keeper.holes_now(), [(1, 0), (1, 1), (6, 1)])
        self.assertEqual(keeper.wood_now(3), ("wood", [0], [], {0: [1, 2]}))
        self.assertEqual(keeper.wood_now(8), ("wood", [0], [9], {9: [4]}))
        self.assertEqual(keeper.span_now(2, 1), (-5, 3))
        self.assertEqual(keeper.span_now(1, 6), (None, None))
        self.assertEqual(keeper.shape_now(3), "2u(1j,5u)")
        self.assertEqual(keeper.way_now(3), [(0, -5, 0), (1, 0, 9), (0, 9, 12)])
        self.assertEqual([keeper.slack_now(3, number) for number in (0, 1, 2)], [0, 0, None])
        self.assertEqual(keeper.tellings_now(), 5)
        self.refused(NotWhole, keeper.shape_now, 8)
        self.refused(NotRight, keeper.way_now, 8)
        self.refused(NotRight, keeper.slack_now, 8, 4)
        self.refused(NoRun, keeper.wood_now, 4)
        self.refused(NoHouse, keeper.span_now, 1, 1)
        self.refused(NoPiece, keeper.slack_now, 3, 9)

    def test_no_shifts(self):
        keeper = keeper_of([piece(0, -1, 0, 9), make(0, 1, 0, 1, 0, 0, 10, True)])
        self.refused(NoShifts, keeper.span_now, 0, 1)
        kind, houses = keeper.shifts_now()
        self.assertEqual(kind, "ring")
        self.assertTrue(is_ring(keeper.heap_now(), houses))

    def test_nothing_of_the_keeper_is_told(self):
        keeper = keeper_of([FAR_KID, KID, TOP, OTHER, make(8, 4, 9, 6, 2, 5, 6, True)])
        asks = (
            keeper.heap_now, keeper.runs_now, keeper.holes_now, lambda: keeper.wood_now(3), lambda: keeper.wood_now(8),
            lambda: keeper.way_now(3), lambda: keeper.span_now(1, 2), lambda: keeper.shifts_now(),
        )
        before = [copy.deepcopy(ask()) for ask in asks]
        for ask in asks:
            spoil(ask())
        self.assertEqual([ask() for ask in asks][:7], before[:7])
        again = keeper.copy()
        for ask in asks:
            spoil(ask())
        self.assertEqual(again, keeper)
        self.assertEqual(len(keeper), 5)
        keeper.back()
        self.assertEqual(keeper.heap_now(), [TOP, KID, FAR_KID, OTHER])

    def test_what_was_told_stays(self):
        keeper = keeper_of([TOP])
        told = keeper.heap_now()
        keeper.tell(KID)
        self.assertEqual(told, [TOP])
        told = keeper.heap_now()
        keeper.back(2)
        self.assertEqual(told, [TOP, KID])

    def test_tellings(self):
        keeper = keeper_of([TOP, TOP, KID])
        self.assertEqual(keeper.tellings_now(), 3)
        for thing in (None, KID[:6] + (10, True), []):
            self.assertRaises(WoodError, keeper.tell, thing)
        self.assertEqual(keeper.tellings_now(), 3)
        keeper.back(2)
        self.assertEqual(keeper.tellings_now(), 3)
        keeper.pour(keeper_of([OTHER, KID]))
        self.assertEqual(keeper.tellings_now(), 3)
        keeper.tell(OTHER)
        self.assertEqual(keeper.tellings_now(), 4)
        self.assertIs(type(keeper.tellings_now()), int)
        self.assertEqual(keeper.copy().tellings_now(), 0)

    def test_by_names(self):
        keeper = Keeper()
        self.assertIs(keeper.tell(piece=TOP), True)
        self.assertEqual(keeper.pour(other=keeper_of([KID, FAR_KID])), 2)
        self.assertEqual(keeper.wood_now(run=3), keeper.wood_now(3))
        self.assertEqual(keeper.span_now(other=1, one=2), keeper.span_now(2, 1))
        self.assertEqual(keeper.shape_now(run=3), keeper.shape_now(3))
        self.assertEqual(keeper.way_now(run=3), keeper.way_now(3))
        self.assertEqual(keeper.slack_now(number=1, run=3), keeper.slack_now(3, 1))
        self.assertIsNone(keeper.back(many=2))
        self.has(keeper, [])


class Model:
    """A keeper as point 20 tells of it, by what it was at each step."""

    def __init__(self, pieces=()):
        self.states = [frozenset(pieces)]
        self.tellings = 0

    def take(self, pieces):
        now = self.states[-1] | set(pieces)
        clashes = [
            tuple(sorted([mine, its])) for mine in self.states[-1] for its in pieces if clash_by_words(mine, its)
        ]
        if clashes:
            raise Clash(min(clashes))
        if len(now) > 60:
            raise TooMany("")
        new = len(now) - len(self.states[-1])
        if new:
            self.states.append(now)
        return new

    def back(self, many):
        if many >= len(self.states):
            raise NoBack("")
        del self.states[-many:]


class AnySteps(Cases):

    def tried(self, ask, *things):
        try:
            return ask(*things)
        except WoodError as error:
            return (type(error), getattr(error, "pair", None))

    def test_as_a_model_tells(self):
        chance = random.Random(235)
        for many in (6, 30, 100):
            for _ in range(12):
                keepers, models = [Keeper(), Keeper()], [Model(), Model()]
                for _ in range(120):
                    at = chance.randrange(len(keepers))
                    keeper, model = keepers[at], models[at]
                    step = chance.random()
                    if step < 0.6:
                        one = random_piece(chance, many, many, 8, 10 * many)
                        again = chance.random() < 0.3 and model.states[-1]
                        self.told(keeper, model, chance.choice(sorted(model.states[-1])) if again else one)
                    elif step < 0.75:
                        other = chance.randrange(len(keepers))
                        expected = self.tried(model.take, models[other].states[-1])
                        self.assertEqual(self.tried(keeper.pour, keepers[other]), expected)
                    elif step < 0.93:
                        back = chance.choice((1, 1, 1, 2, 3, 9))
                        self.assertEqual(self.tried(keeper.back, back), self.tried(model.back, back))
                    else:
                        keepers.append(keeper.copy())
                        models.append(Model(model.states[-1]))
                    for mine, its in zip(keepers, models):
                        self.has(mine, its.states[-1], its.tellings)

    def told(self, keeper, model, one):
        expected = self.tried(model.take, [one])
        if expected in (0, 1):
            model.tellings += 1
            expected = bool(expected)
        self.assertEqual(self.tried(keeper.tell, one), expected)


if __name__ == "__main__":
    unittest.main()
