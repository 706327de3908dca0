"""Late triples and bars, paths, and roads, against plain rules."""

import itertools
import unittest

from tests.test_drawings import FULL, WIDE, some_rows
from tests.values import flat, pairs_over, right_drawing
from wiredorders.crossings import course, crossings, wires_at
from wiredorders.drawings import drawn, is_least_drawing, order_drawn
from wiredorders.fields import least_drawings
from wiredorders.orders import last_order, plain_order, swapped
from wiredorders.overtakings import some_row
from wiredorders.paths import count_edges, count_paths, path_parted, paths, with_path
from wiredorders.roads import is_road, order_of_road, road_of, squares_on, squares_under
from wiredorders.triples import drawing_late, is_triple_bar, late_triples, triple_bar, triples_of

A = (3, ((0,), (1,), (0,)))


def all_lots(order):
    every = triples_of(order)
    return [lot for count in range(len(every) + 1) for lot in itertools.combinations(every, count)]


def ahead_of(order, lot):
    """Return the set of all pairs of overtakings the former of which has to come ahead of the latter."""
    over = set(pairs_over(order))
    found = set()
    for a, b, c in itertools.combinations(range(len(order)), 3):
        ab, ac, bc = (a, b), (a, c), (b, c)
        has = (ab in over, ac in over, bc in over)
        if has == (True, True, True):
            found |= {(bc, ac), (ac, ab), (bc, ab)} if (a, b, c) in lot else {(ab, ac), (ac, bc), (ab, bc)}
        elif has == (False, True, True):
            found.add((bc, ac))
        elif has == (True, True, False):
            found.add((ab, ac))
    return found


def is_bar(order, lot, value):
    ahead = ahead_of(order, lot)
    return len(value) >= 3 and all((value[at - 1], value[at]) in ahead for at in range(len(value)))


class Triples(unittest.TestCase):
    def test_triples(self):
        for many in (1, 2, 3, 4, 5):
            for order in itertools.permutations(range(many)):
                over = pairs_over(order)
                told = [
                    three for three in itertools.combinations(range(many), 3)
                    if all(pair in over for pair in itertools.combinations(three, 2))
                ]
                self.assertEqual(triples_of(order), told)
        self.assertEqual(triples_of(last_order(30)), list(itertools.combinations(range(30), 3)))
        self.assertEqual(triples_of(plain_order(30)), [])

    def test_late(self):
        for many in (1, 2, 3, 4, 5):
            for order in list(itertools.permutations(range(many)))[::1 if many < 5 else 3] + [last_order(many)]:
                told = {}
                for drawing in least_drawings(order):
                    column = {wires_at(drawing, crossing): crossing[0] for crossing in crossings(drawing)}
                    late = tuple((a, b, c) for a, b, c in triples_of(order) if column[b, c] < column[a, b])
                    self.assertEqual(late_triples(drawing), late)
                    told[late] = drawing
                self.assertEqual(len(told), len(least_drawings(order)))
                for lot in all_lots(order):
                    self.check_lot(order, lot, told.get(lot))

    def check_lot(self, order, lot, drawing):
        self.assertEqual(drawing_late(order, lot), drawing)
        bar = triple_bar(order, lot)
        self.assertEqual(bar is None, drawing is not None)
        if bar is not None:
            self.assertIs(type(bar), tuple)
            self.assertEqual(len(set(bar)), len(bar))
            self.assertTrue(is_bar(order, lot, bar))
            self.assertTrue(is_triple_bar(order, lot, bar))
            self.assertTrue(is_triple_bar(order, lot, bar + bar))
            self.assertTrue(is_triple_bar(order, lot, bar[1:] + bar[:1]))
            self.assertEqual(is_triple_bar(order, lot, bar[::-1]), is_bar(order, lot, bar[::-1]))
            self.assertFalse(is_triple_bar(order, lot, list(bar)))

    def test_is_bar(self):
        for order in ((3, 2, 1, 0), (3, 1, 2, 0), (2, 3, 0, 1)):
            over = pairs_over(order)
            for lot in all_lots(order):
                for count in (0, 1, 2, 3, 4):
                    for value in itertools.product(over, repeat=count):
                        self.assertEqual(is_triple_bar(order, lot, value), is_bar(order, lot, value))
        self.assertFalse(is_triple_bar((3, 2, 1, 0), (), ((0, 1), (0, 4), (0, 2))))
        self.assertFalse(is_triple_bar((0, 1, 2), (), ((0, 1), (0, 2), (1, 2))))

    def test_twelve(self):
        late = late_triples(drawn(12, some_row(last_order(12))))
        self.assertEqual(late_triples(drawing_late(last_order(12), late)), late)
        none = drawing_late(last_order(12), ())
        self.assertTrue(is_least_drawing(none))
        self.assertEqual((order_drawn(none), late_triples(none)), (last_order(12), ()))
        every = tuple(triples_of(last_order(12)))
        self.assertEqual(late_triples(drawing_late(last_order(12), every)), every)
        self.assertEqual(drawing_late(last_order(12), every[::2]), None)

    def test_thirty(self):
        every = tuple(triples_of(last_order(30)))
        self.assertEqual((triple_bar(last_order(30), ()), triple_bar(last_order(30), every)), (None, None))
        for lot in (every[::2], every[5:6], every[:100:3]):
            bar = triple_bar(last_order(30), lot)
            self.assertEqual(len(set(bar)), len(bar))
            self.assertTrue(is_bar(last_order(30), set(lot), bar))
            self.assertTrue(is_triple_bar(last_order(30), lot, bar * (500 // len(bar))))
        self.assertEqual(triple_bar(plain_order(30), ()), None)


class Paths(unittest.TestCase):
    def columns_at(self, drawing, height):
        """Return the sorted pairs (column, exchange) of the crossings that part the edges at a height."""
        return sorted(
            (at, exchange) for at, column in enumerate(drawing[1]) for exchange in column
            if exchange in (height - 1, height)
        )

    def all_paths(self, drawing):
        many = drawing[0]
        found = []
        marks = [self.columns_at(drawing, height) for height in range(many)]
        for edges in itertools.product(*[range(len(each) + 1) for each in marks[::-1]]):
            path = edges[::-1]
            if all(
                sum(exchange == at - 1 for _, exchange in marks[at][:path[at]])
                == sum(exchange == at - 1 for _, exchange in marks[at - 1][:path[at - 1]])
                for at in range(1, many)
            ):
                found.append(edges)
        return found

    def check_path(self, drawing, path):
        many = drawing[0]
        longer = with_path(drawing, path)
        self.assertTrue(right_drawing(longer))
        self.assertEqual(longer[0], many + 1)
        self.assertEqual(order_drawn(longer)[0], many)
        self.assertEqual(sorted(course(longer, many)), list(range(many)))
        for wire in range(many):
            self.assertEqual(tuple(other for other in course(longer, wire) if other != many), course(drawing, wire))
        # The wire on an edge has crossed others as often as at its height so far.
        for height, crossed in zip(reversed(range(many)), course(longer, many)):
            self.assertEqual(crossed, self.wire_on(drawing, height, path[many - 1 - height]))
        self.assertEqual(path_parted(longer), (drawing, path))

    def wire_on(self, drawing, height, edge):
        wires, passed = list(range(drawing[0])), 0
        for exchange in flat(drawing):
            if exchange in (height - 1, height):
                if passed == edge:
                    return wires[height]
                passed += 1
            wires[exchange:exchange + 2] = [wires[exchange + 1], wires[exchange]]
        return wires[height]

    def test_all(self):
        for many, length in ((1, 0), (2, 3), (3, 4), (4, 4), (5, 3)):
            for drawing in {drawn(many, row) for row in some_rows(many, length)} | {(many, ())}:
                for height in range(many):
                    self.assertEqual(count_edges(drawing, height), len(self.columns_at(drawing, height)) + 1)
                told = self.all_paths(drawing)
                self.assertEqual(paths(drawing), told)
                self.assertEqual(count_paths(drawing), len(told))
                for path in told[::2]:
                    self.check_path(drawing, path)

    def test_parted(self):
        for many, length in ((2, 3), (3, 4), (4, 5)):
            for drawing in {drawn(many, row) for row in some_rows(many, length)}:
                once = sorted(course(drawing, many - 1)) == list(range(many - 1))
                told = path_parted(drawing)
                self.assertEqual(told is not None, once)
                if told is not None:
                    self.assertIn(told[1], self.all_paths(told[0]))
                    self.assertEqual(with_path(*told), drawing)
        self.assertEqual(path_parted((2, ((0,),))), ((1, ()), (0,)))
        self.assertEqual(path_parted((12, ())), None)

    def test_last_order(self):
        for many in (1, 2, 3, 4):
            shorter = least_drawings(last_order(many))
            longer = [with_path(drawing, path) for drawing in shorter for path in paths(drawing)]
            self.assertEqual(sorted(longer), least_drawings(last_order(many + 1)))

    def test_greatest(self):
        drawing = (6, ((0, 2, 4), (1, 3)) * 4)
        self.assertEqual(len(flat(drawing)), 20)
        told = paths(drawing)
        self.assertEqual(len(told), count_paths(drawing))
        self.assertEqual(told, sorted(set(told)))
        self.assertEqual(paths((6, ())), [(0,) * 6])
        self.assertEqual((count_paths((12, ())), count_paths((1, ())), paths((1, ()))), (1, 1, [(0,)]))
        self.assertEqual(count_edges(WIDE, 11), 201)
        self.assertEqual(count_edges(FULL, 5), 201)
        self.assertEqual(count_paths((2, ((0,),) * 200)), 201)
        self.assertEqual(count_paths((12, ((0, 2, 4, 6, 8, 10),) * 200)), 201 ** 6)

    def test_many_wires(self):
        row = some_row(last_order(11))
        path = (0,) * 11
        longer = with_path(drawn(11, row), path)
        self.assertEqual(order_drawn(longer), last_order(12))
        self.assertEqual(path_parted(longer), (drawn(11, row), path))
        self.assertEqual(with_path((2, ((0,),) * 198), (99, 99))[0], 3)


class Roads(unittest.TestCase):
    def test_few(self):
        for many in (1, 2, 3, 4, 5):
            for order in itertools.permutations(range(many)):
                road = tuple(tuple(sorted(order[:places])) for places in range(many + 1))
                self.assertEqual(road_of(order), road)
                self.assertTrue(is_road(road))
                self.assertFalse(is_road(list(road)))
                self.assertEqual(order_of_road(road), order)
                self.check_squares(order, road)

    def check_squares(self, order, road):
        on, under = [], []
        for at in range(len(order) - 1):
            base, one, other = road[at], order[at], order[at + 1]
            (on if one < other else under).append((base, min(one, other), max(one, other)))
        self.assertEqual(squares_on(order), sorted(on))
        self.assertEqual(squares_under(order), sorted(under))
        for at in range(len(order) - 1):
            if order[at] < order[at + 1]:
                self.assertIn((road[at], order[at], order[at + 1]), squares_under(swapped(order, at)))

    def test_all_points(self):
        points = [point for count in range(4) for point in itertools.combinations(range(3), count)]
        for many in (1, 2, 3):
            right = [road_of(order) for order in itertools.permutations(range(many))]
            for value in itertools.product(points, repeat=many + 1):
                self.assertEqual(is_road(value), value in right)

    def test_thirty(self):
        for order in (plain_order(30), last_order(30), tuple(7 * place % 31 - 1 for place in range(1, 31))):
            self.assertEqual(order_of_road(road_of(order)), order)
            self.assertEqual(len(squares_on(order)) + len(squares_under(order)), 29)
            self.check_squares(order, road_of(order))
        self.assertEqual((squares_under(plain_order(30)), squares_on(last_order(30))), ([], []))
        self.assertFalse(is_road(tuple(tuple(range(at)) for at in range(32))))
        self.assertTrue(is_road(tuple(tuple(range(at)) for at in range(31))))
        self.assertEqual((road_of((0,)), squares_on((0,)), squares_under((0,))), (((), (0,)), [], []))
