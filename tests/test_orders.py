"""Points 92 to 94, 96 and 97: which orders keep all reads, and where lots may be poured."""

import itertools
import unittest

from leastshelf.errors import NoPlace, NotClosed, Sandwiched
from leastshelf.orders import (below, kept, lots_order, pour_order, ring, sandwiched, split_order, stands_over, way_back)
from leastshelf.overlays import key_set
from leastshelf.partings import turned_pair
from leastshelf.runs import Run
from leastshelf.shelves import Shelf
from samples import KINDS, ODD_VALUES, TOP, Raising, plain, seeded
from stacks import ALL_KEYS, NO_KEYS

BAD_PLACES = ODD_VALUES + (3, -3, 99, "0", (0,), [0])
BAD_LOTS = tuple(thing for thing in ODD_VALUES) + ([], (), 0, 1, "01", {0: 1}, range(2))

# the key 6 stands in for all keys of the last cell up to the last key
KEYS = 6
GAP = (0, 3)


def random_reaches(rng, most=6, share=0.3):
    """Returns some key sets of few keys; some of them have none, or only lead from one to the next."""
    out = []
    chain = rng.random() < 0.5
    for place in range(rng.randrange(1, most + 1)):
        held = [at for at in range(KEYS) if rng.random() < share]
        if chain:
            held = [at for at in range(KEYS) if at in (place * 5 // 6, place * 5 // 6 + 1) and rng.random() < 0.9]
        out.append(key_set([(at, at + 1 if at < KEYS - 1 else TOP) for at in held]))
    return out


def random_lot(rng, reaches, most=4):
    """Returns a lot, in any order, with places told again now and then."""
    return [rng.randrange(len(reaches)) for _ in range(rng.randrange(1, most + 1))]


def samples(number, many=250, most=6):
    """Yields reaches and a lot."""
    rng = seeded(number)
    for at in range(many):
        reaches = random_reaches(rng, most, rng.choice((0.2, 0.3, 0.5)))
        lot = random_lot(rng, reaches)
        yield (reaches, lot) if at % 2 else (tuple(reaches), tuple(lot))


def over(reaches, i, j):
    """Returns the least common key if i stands over j, otherwise None."""
    common = [key for key in range(KEYS) if reaches[i].at(key) and reaches[j].at(key)]
    return common[0] if i < j and common else None


def ways(reaches, start, inner, goals):
    """Yields all ways from a place over one or more inner ones to a goal."""
    open_ways = [[start]]
    while open_ways:
        way = open_ways.pop()
        for place in range(len(reaches)):
            if over(reaches, way[-1], place) is not None:
                if place in goals and len(way) > 1:
                    yield way + [place]
                if place in inner:
                    open_ways.append(way + [place])


def turned(reaches, places, order):
    """Returns the pairs that a pour order turns."""
    def spot(place):
        return order.index(None if place in places else place)
    return [(i, j) for i, j in itertools.combinations(range(len(reaches)), 2)
            if over(reaches, i, j) is not None and not {i, j} <= places and spot(j) < spot(i)]


def spread(lot, many):
    """Returns the outside places of a lot."""
    return [place for place in range(many) if place not in lot]


def units_of(lots, many):
    """Returns the units, each a list of its places, ascending."""
    taken = {place for lot in lots for place in lot}
    return sorted([sorted(set(lot)) for lot in lots] + [[place] for place in range(many) if place not in taken])


def unit_over(reaches, one, other):
    """Returns True if the unit one stands over the unit other."""
    return any(over(reaches, i, j) is not None for i in one for j in other)


def slow_ring(reaches, units):
    """Returns the least of the shortest rings, or None."""
    for many in range(2, len(units) + 1):
        found = []
        for row in itertools.permutations(units, many):
            if row[0] == min(row) and all(unit_over(reaches, one, other) for one, other in zip(row, row[1:] + row[:1])):
                found.append([unit[0] for unit in row])
        if found:
            return min(found)
    return None


class StandsOverTest(Raising, unittest.TestCase):
    def test_point_92(self):
        for reaches, _ in samples(92, 60):
            for i, j in itertools.product(range(len(reaches)), repeat=2):
                self.assertEqual(stands_over(reaches, i, j), over(reaches, i, j))

    def test_edges(self):
        reaches = [key_set([(0, 5), (9, TOP)]), key_set([(5, 9)]), key_set([(TOP - 1, TOP)])]
        self.assertEqual([stands_over(reaches, i, j) for i, j in ((0, 1), (0, 2), (2, 0), (1, 2), (0, 0))],
                         [None, TOP - 1, None, None, None])

    def test_bad_places(self):
        reaches = [ALL_KEYS] * 3
        for place in BAD_PLACES:
            self.raised(NoPlace, [place], stands_over, reaches, place, "x")
            self.raised(NoPlace, [place], stands_over, reaches, 2, place)
            self.raised(NoPlace, [place], stands_over, reaches, 0, place)


class KeptTest(unittest.TestCase):
    def test_point_93(self):
        for reaches, _ in samples(93, 40, 5):
            for order in itertools.permutations(range(len(reaches))):
                turns = [(i, j) for i, j in itertools.combinations(range(len(reaches)), 2)
                         if order.index(j) < order.index(i) and over(reaches, i, j) is not None]
                said = (*turns[0], over(reaches, *turns[0])) if turns else None
                self.assertEqual(kept(reaches, order), said)
                self.assertEqual(kept(reaches, list(order)), said)

    def test_point_93_reads(self):
        rng = seeded(930)
        for kind in KINDS:
            for reaches, _ in samples(931, 20, 4):
                for order in itertools.permutations(range(len(reaches))):
                    told = kept(reaches, order)
                    runs = [self.filled(kind, reach, rng, len(reaches) - place) for place, reach in enumerate(reaches)]
                    one, other = Shelf(kind, runs), Shelf(kind, [runs[place] for place in order])
                    if told is None:
                        self.assertEqual(one.reads(), other.reads())
                        self.assertEqual(one.reads(2), other.reads(2))
                        continue
                    i, j, key = told
                    runs = [Run(kind, 0, 1, reach, []) for reach in reaches]
                    for place, letter in ((i, 1), (j, 2)):
                        put = (key, key + 1, ((1, True, plain(kind, (letter,))),))
                        runs[place] = Run(kind, 0, 1, reaches[place], [put])
                    one, other = Shelf(kind, runs), Shelf(kind, [runs[place] for place in order])
                    self.assertEqual((one.read(key), other.read(key)), (plain(kind, (1,)), plain(kind, (2,))))

    def filled(self, kind, reach, rng, end):
        """Returns a run with entries at all keys of its reach."""
        return Run(kind, end - 1, end, reach, [(a, b, ((end, True, plain(kind, (rng.randrange(5),))),)) for a, b, _ in reach])

    def test_no_runs(self):
        self.assertIsNone(kept([], []))
        self.assertIsNone(kept((NO_KEYS, NO_KEYS), (1, 0)))
        self.assertEqual(kept([key_set([(2, 9)]), key_set([(7, 12)])], [1, 0]), (0, 1, 7))


class LotsTest(Raising, unittest.TestCase):
    def test_point_92_below(self):
        for reaches, lot in samples(94):
            outside = spread(lot, len(reaches))
            found = set(lot)
            for place in range(len(reaches)):
                if any(over(reaches, i, place) is not None for i in found):
                    found.add(place)
            told = below(reaches, lot)
            self.assertIsInstance(told, list)
            self.assertEqual(told, [place for place in outside if place in found])

    def test_point_92_ways_back(self):
        lengths = set()
        for reaches, lot in samples(95, 400, 7):
            outside = spread(lot, len(reaches))
            found = [way for place in set(lot) for way in ways(reaches, place, outside, lot)]
            said = min(found, key=lambda way: (len(way), way)) if found else None
            told = way_back(reaches, lot)
            self.assertEqual(told, said)
            lengths.add(said and len(said))
        self.assertTrue({None, 3, 4} <= lengths)

    def test_ways_back_of_several_lengths(self):
        pairs = [key_set([(at, at + 2)]) for at in range(0, 12, 1)]
        self.assertEqual(way_back(pairs, [0, 11]), list(range(12)))
        self.assertEqual(way_back(pairs, [0, 5, 2]), [0, 1, 2])
        self.assertEqual(way_back(pairs, [5, 3, 9]), [3, 4, 5])
        self.assertEqual(way_back(pairs, [1, 9, 5, 0]), [1, 2, 3, 4, 5])
        self.assertIsNone(way_back(pairs, [3, 4, 5]))
        self.assertIsNone(way_back(pairs, list(range(12))))
        wide = [ALL_KEYS] * 24
        self.assertEqual((way_back(wide, [23, 0]), way_back(wide, [5, 9, 22])), ([0, 1, 23], [5, 6, 9]))

    def test_point_94_pour_orders(self):
        rng = seeded(940)
        closed = 0
        for reaches, lot in samples(941, 200, 5):
            outside, places = spread(lot, len(reaches)), set(lot)
            orders = list(itertools.permutations(outside + [None]))
            fits = any(not turned(reaches, places, order) for order in orders)
            self.assertIs(way_back(reaches, lot) is None, fits)
            if not fits:
                self.raised(NotClosed, [way_back(reaches, lot)[1]], pour_order, reaches, lot)
                continue
            closed += 1
            told = pour_order(reaches, lot)
            deep = below(reaches, lot)
            self.assertIsInstance(told, list)
            self.assertEqual(told, [place for place in outside if place not in deep] + [None] + deep)
            self.assertEqual(turned(reaches, places, told), [])
            self.assertEqual(pour_order(reaches, rng.sample(sorted(places), len(places)) * 2), told)
        self.assertGreater(closed, 40)

    def test_lots_of_one_place_and_of_all(self):
        for reaches, _ in samples(942, 60):
            many = len(reaches)
            for place in range(many):
                self.assertIsNone(way_back(reaches, [place]))
                self.assertIsNone(sandwiched(reaches, [place]))
                self.assertEqual([0 if at is None else 1 for at in pour_order(reaches, [place])].count(0), 1)
            every = list(range(many))[::-1]
            self.assertEqual((below(reaches, every), way_back(reaches, every), pour_order(reaches, every)), ([], None, [None]))
            self.assertIsNone(sandwiched(reaches, every))

    def test_bad_lots(self):
        reaches = [ALL_KEYS] * 3
        calls = (below, way_back, pour_order, sandwiched, split_order)
        for call in calls:
            for lot in BAD_LOTS:
                self.raised(NoPlace, [None], call, reaches, lot)
            for place in BAD_PLACES:
                self.raised(NoPlace, [place], call, reaches, [0, place, None])
                self.raised(NoPlace, [place], call, reaches, (place, 9))
            self.raised(NoPlace, [0], call, [], [0])
            self.raised(NoPlace, [None], call, [], [])

    def test_example(self):
        reaches = [key_set([(0, 10)]), key_set([(5, 15)]), key_set([(10, 20)])]
        told = [way_back(reaches, [2, 0]), below(reaches, [0]), turned_pair(reaches, [0, 2], [None, 1])]
        self.assertEqual(told, [[0, 1, 2], [1, 2], (1, 2, 10)])
        self.assertEqual(split_order(reaches, [0, 2]), [(0, 0, 5), (0, 5, 10), 1, (2, 10, 15), (2, 15, 20)])
        self.raised(NotClosed, [1], pour_order, reaches, [0, 2])

    def test_point_1_results_are_new(self):
        reaches, lot = [key_set([(0, 10)]), key_set([(5, 15)]), key_set([(10, 20)])], [0, 0]
        for call in (below, pour_order, split_order):
            said = list(call(reaches, lot))
            call(reaches, lot).clear()
            self.assertEqual((call(reaches, lot), lot, len(reaches)), (said, [0, 0], 3))
        way_back(reaches, [0, 2]).clear()
        self.assertEqual(way_back(reaches, [0, 2]), [0, 1, 2])


class SplitTest(Raising, unittest.TestCase):
    def slow_sandwiched(self, reaches, lot):
        """Returns the least sandwiched key, then the least a, x and b, or None."""
        for key in range(KEYS):
            held = [place for place in range(len(reaches)) if reaches[place].at(key)]
            for a, x, b in itertools.combinations(held, 3):
                if a in lot and b in lot and x not in lot:
                    return (key, a, x, b)
        return None

    def test_point_96_sandwiched(self):
        found = 0
        for reaches, lot in samples(96, 600):
            said = self.slow_sandwiched(reaches, lot)
            self.assertEqual(sandwiched(reaches, lot), said)
            found += said is not None
            if way_back(reaches, lot) is None:
                self.assertIsNone(said)
        self.assertGreater(found, 15)

    def test_point_96_split_orders(self):
        for reaches, lot in samples(960):
            told = self.slow_sandwiched(reaches, lot)
            if told is not None:
                self.raised(Sandwiched, [told[0]], split_order, reaches, lot)
                continue
            ends = sorted({end for reach in reaches for a, b, _ in reach for end in (a, b)})
            said = []
            for place, reach in enumerate(reaches):
                if place not in lot or not reach.pieces():
                    said.append(place)
                    continue
                for a, b in zip(ends, ends[1:]):
                    if [other for other in sorted(lot) if reaches[other].at(a)][:1] == [place]:
                        said.append((place, a, b))
            self.assertEqual(split_order(reaches, lot), said)

    def test_a_lot_that_sandwiches_none_need_not_be_closed(self):
        reaches = [key_set([(0, 2)]), key_set([(1, 3)]), key_set([(2, 4)])]
        self.assertEqual((sandwiched(reaches, [0, 2]), way_back(reaches, [0, 2])), (None, [0, 1, 2]))

    def test_runs_without_keys_stay(self):
        reaches = [NO_KEYS, key_set([(2, 4)]), NO_KEYS, key_set([(2, 4)])]
        self.assertEqual(split_order(reaches, [0, 1, 2, 3]), [0, (1, 2, 4), 2])
        self.assertEqual(split_order(reaches, [2]), [0, 1, 2, 3])
        self.assertEqual(split_order([NO_KEYS], [0]), [0])

    def test_the_least_of_each(self):
        reaches = [ALL_KEYS, key_set([(4, 9)]), key_set([(6, 7)]), ALL_KEYS, key_set([(4, 5)]), ALL_KEYS]
        self.assertEqual(sandwiched(reaches, [0, 3, 5]), (4, 0, 1, 3))
        self.assertEqual(sandwiched(reaches, [1, 2, 5]), (4, 1, 3, 5))
        self.assertEqual(sandwiched(reaches, [2, 5]), (6, 2, 3, 5))
        self.assertEqual(sandwiched(reaches, [0, 5, 1]), (0, 0, 3, 5))


class RingTest(Raising, unittest.TestCase):
    def lot_rows(self, number, many=250, most=6):
        """Yields reaches and a row of lots that share no place."""
        rng = seeded(number)
        for _ in range(many):
            reaches = random_reaches(rng, most, rng.choice((0.2, 0.35)))
            places = rng.sample(range(len(reaches)), len(reaches))
            lots, at = [], 0
            while at < len(places) and rng.random() < 0.8:
                size = rng.randrange(1, 4)
                lots.append(places[at:at + size] * rng.choice((1, 2)))
                at += size
            yield reaches, lots

    def test_point_97_rings(self):
        lengths = set()
        for reaches, lots in self.lot_rows(97):
            said = slow_ring(reaches, units_of(lots, len(reaches)))
            told = ring(reaches, lots)
            self.assertEqual(told, said)
            lengths.add(said and len(said))
            if said is not None:
                self.assertIsInstance(told, list)
                self.raised(NotClosed, [said[0]], lots_order, reaches, lots)
        self.assertTrue({None, 2, 3} <= lengths)

    def test_point_97_orders(self):
        for reaches, lots in self.lot_rows(970):
            units = units_of(lots, len(reaches))
            if slow_ring(reaches, units) is not None:
                continue
            said, left = [], units
            while left:
                free = [unit for unit in left if not any(unit_over(reaches, one, unit) for one in left if one != unit)]
                said.append(free[0][0])
                left = [unit for unit in left if unit != free[0]]
            told = lots_order(tuple(reaches), tuple(lots))
            self.assertIsInstance(told, list)
            self.assertEqual(told, said)

    def test_point_97_a_ring_exactly_if_no_order_keeps_all_reads(self):
        for reaches, lots in self.lot_rows(971, 120, 5):
            units = units_of(lots, len(reaches))
            fits = any(all(not unit_over(reaches, row[j], row[i]) for i, j in itertools.combinations(range(len(row)), 2))
                       for row in itertools.permutations(units))
            self.assertIs(ring(reaches, lots) is None, fits)

    def test_one_lot(self):
        for reaches, lot in samples(972, 150):
            back = way_back(reaches, lot)
            self.assertIs(ring(reaches, [lot]) is None, back is None)
            if back is not None and len(back) == 3:
                self.assertEqual(len(ring(reaches, [lot])), 2)

    def test_no_lots(self):
        for reaches, _ in samples(973, 40):
            self.assertEqual((ring(reaches, []), lots_order(reaches, ())), (None, list(range(len(reaches)))))
        self.assertEqual((ring([], []), lots_order([], [])), (None, []))

    def test_a_ring_of_lots_that_are_closed(self):
        reaches = [key_set([(0, 1)]), key_set([(2, 3)]), key_set([(2, 3)]), key_set([(0, 1)])]
        for lots in ([[0, 2], [1, 3]], [[3, 1], [2, 0, 0]]):
            self.assertEqual([way_back(reaches, lot) for lot in lots], [None, None])
            self.assertEqual(ring(reaches, lots), [0, 1])
            self.raised(NotClosed, [0], lots_order, reaches, lots)
        self.assertEqual(lots_order(reaches, [[0, 2]]), [1, 0, 3])
        around = [key_set([(0, 1)]), key_set([(2, 3)]), key_set([(4, 5)]), key_set([(2, 3)]), key_set([(4, 5)]), key_set([(0, 1)])]
        self.assertEqual(ring(around, [[0, 4], [2, 3], [1, 5]]), [0, 1, 2])

    def test_bad_lots(self):
        reaches = [ALL_KEYS] * 3
        for call in (ring, lots_order):
            for lot in BAD_LOTS:
                self.raised(NoPlace, [None], call, reaches, [[0], lot, [0]])
            for place in BAD_PLACES:
                self.raised(NoPlace, [place], call, reaches, [[0], [1, place], [0]])
                self.raised(NoPlace, [place], call, reaches, [[0], [0], (place, None)])
            for lots, place in (([[0, 1], [1]], 1), ([[1, 0], [2, 1, 0]], 0), ([[2], [1], [2, 1]], 1), ([[0, 0], [1], [1]], 1),
                                ([[2, 0], [1, 2], [0]], 2)):
                self.raised(NoPlace, [place], call, reaches, lots)

    def test_point_1_results_are_new(self):
        reaches, lots = [ALL_KEYS] * 4, [[0, 2], [3]]
        ring(reaches, lots).clear()
        lots_order(reaches, [[0, 1]]).clear()
        self.assertEqual((ring(reaches, lots), lots_order(reaches, [[1, 0]]), lots), ([0, 1], [0, 2, 3], [[0, 2], [3]]))


if __name__ == "__main__":
    unittest.main()
