"""Each statement that the document makes for all orders, over all orders, rows, drawings, tables and nets of few things."""

import functools
import itertools
import math
import random
import unittest
from fractions import Fraction

from tests.test_spans import drawn_shares, plain_table, product, read, stand_in_order
from tests.test_states import all_steps
from tests.values import all_orders
from wiredorders.climbs import climbs, pipes_by
from wiredorders.codes import code, order_with_code
from wiredorders.countcarried import rings_to_tops, weight_to_size
from wiredorders.countwords import both_spread, signed_spread, spread, word_number
from wiredorders.crossings import course, drawing_by_courses, wires_at, crossings
from wiredorders.drawings import drawn, is_least_drawing, order_drawn
from wiredorders.errors import OrderError
from wiredorders.fields import fields, least_drawings, triangle_turned, triangles, turnings_to
from wiredorders.inserted import order_of, tables_of
from wiredorders.ladders import climbed, ladder_way, ladders, ladders_down
from wiredorders.layings import count_layings, count_rows_of, laying_of_row, layings
from wiredorders.leastrows import count_rows, row_begins, rows_of
from wiredorders.lifebenches import Bench
from wiredorders.lifestates import is_state, step_back, stepped
from wiredorders.lots import most_falling, most_rising
from wiredorders.nearnets import is_near, kept_row, near_more, near_net, near_rest
from wiredorders.nets import first_parted, idle_comparers, is_sorter, marks_by, sorted_by, unsorted_marks
from wiredorders.numbered import count_numbered, numbered_tables, table_falls, table_turned
from wiredorders.orders import (
    last_order, led, led_on, opposite, order_behind, plain_order, renamed, swapped, turned_about, turned_over,
)
from wiredorders.overtakings import falls, is_least_row, order_by, overtakings, size_of, some_row
from wiredorders.paths import path_parted, paths, with_path
from wiredorders.patterns import count_spots, has_pattern
from wiredorders.pipeproducts import in_orders
from wiredorders.pipes import all_pipes, count_pipes, high_pipes, low_pipes, pipe_tiles, pipes_order, pipes_row
from wiredorders.pipesums import order_sum, stepped_down
from wiredorders.rings import rings, sign
from wiredorders.rowlots import lot_form, lot_forms, lot_size, rounds_of, same_lot
from wiredorders.rowmoves import is_move_way, move_way, row_moved, row_moves
from wiredorders.rowsteps import goes_for, row_overtakings, waste
from wiredorders.rowtables import left_tables, order_with_left, row_of, row_on, stair_row, tables_of_row
from wiredorders.shapes import hook_at, shape_turned, shapes_with, stair
from wiredorders.sixes import high_triples, laying_high, six_turned, sixes, turns_between
from wiredorders.slides import led_back, led_table, rest_of, table_over
from wiredorders.spans import moved_far, moved_near, span
from wiredorders.stacks import (
    bubble_pass, bubble_passes, falling_places, is_lines_way, is_stacks_way, lines_needed, lines_way, stack_bar, stack_moves,
    stack_pass, stacks_needed, stacks_way,
)
from wiredorders.strongly import is_strongly_below, part_of_row
from wiredorders.strongsums import is_smooth, sizes_below
from wiredorders.strongways import strong_signed
from wiredorders.tilings import laying_mirrored, points_of
from wiredorders.triples import drawing_late, is_triple_bar, late_triples, triple_bar, triples_of
from wiredorders.vexing import has_one
from wiredorders.weakly import is_weakly_below, weak_join
from wiredorders.weakways import weak_signed

MANY = (1, 2, 3, 4)
FEW = [order for many in MANY for order in all_orders(many)]
FIVE = [(3, 0, 4, 1, 2), (4, 3, 2, 1, 0), (2, 1, 4, 3, 0), (0, 1, 2, 3, 4), (1, 4, 0, 2, 3)]


def every_row(many, most):
    """Return the list of all rows of so many things, of at most so many exchanges."""
    return [row for length in range(most + 1) for row in itertools.product(range(many - 1), repeat=length)]


def reached_by(start, steps):
    """Return the set of all that steps lead to."""
    found, left = {start}, [start]
    while left:
        for other in steps(left.pop()):
            if other not in found:
                found.add(other)
                left.append(other)
    return found


def size_in(table):
    return sum(map(len, table))


def shape_in(table):
    return tuple(map(len, table))


def shape_cells(shape):
    return [(line, spot) for line, length in enumerate(shape) for spot in range(length)]


def all_marks(many):
    return list(itertools.product((0, 1), repeat=many))


def comparers(many):
    return list(itertools.combinations(range(many), 2))


@functools.lru_cache(None)
def rows_in(order):
    return rows_of(order)


class Orders(unittest.TestCase):
    def test_overtakings_and_codes(self):
        for order in FEW + FIVE:
            self.assertEqual(len(overtakings(order)), sum(code(order)))
            for at in range(len(order) - 1):
                self.assertEqual(abs(size_of(swapped(order, at)) - size_of(order)), 1)
            self.assertEqual(order_by(len(order), tuple(overtakings(order))), order)
            self.assertEqual(order_with_code(code(order)), order)
        for many in MANY:
            every = all_orders(many)
            self.assertEqual(len({tuple(overtakings(order)) for order in every}), len(every))
            self.assertEqual(len({code(order) for order in every}), len(every))

    def test_opposite(self):
        for order in FEW + FIVE:
            back = opposite(order)
            self.assertEqual(size_of(back), size_of(order))
            pairs = sorted(tuple(sorted((order.index(one), order.index(other)))) for one, other in overtakings(order))
            self.assertEqual(overtakings(back), pairs)
            self.assertEqual(led(order, back), plain_order(len(order)))

    def test_lengths_of_rows(self):
        for many, most in ((1, 0), (2, 6), (3, 6), (4, 5)):
            for row in every_row(many, most):
                more = len(row) - size_of(order_behind(many, row))
                self.assertGreaterEqual(more, 0)
                self.assertEqual(more % 2, 0)
        for order in FEW + FIVE:
            self.assertEqual(order_behind(len(order), some_row(order)), order)
            self.assertEqual(len(some_row(order)), size_of(order))

    def test_sign(self):
        for order in FEW + FIVE:
            self.assertEqual(sign(order) == 1, size_of(order) % 2 == 0)
            self.assertEqual(sign(order) == 1, len(order) % 2 == len(rings(order)) % 2)


class Rows(unittest.TestCase):
    def moved_all(self, many, row):
        return [(move, row_moved(many, row, move)) for move in row_moves(many, row)]

    def test_moves(self):
        for order in FEW + FIVE[:1] + FIVE[2:]:
            many, rows = len(order), rows_in(order)
            for row in rows:
                self.assertEqual(reached_by(row, lambda held: [behind for _, behind in self.moved_all(many, held)]), set(rows))
                self.assertTrue(is_move_way(many, row, rows[0], move_way(many, row, rows[0])))
            # Each row has one parity of near moves, and one of far moves, from the first one.
            for word in ("near", "far"):
                found = {rows[0]: 0}
                for row in reached_by(rows[0], lambda held: self.note(many, held, word, found)):
                    for move, behind in self.moved_all(many, row):
                        self.assertEqual((found[row] + found[behind]) % 2, int(move[0] == word))

    def note(self, many, held, word, found):
        behind = self.moved_all(many, held)
        for move, row in behind:
            found.setdefault(row, (found[held] + (move[0] == word)) % 2)
        return [row for _, row in behind]

    def test_numbers_of_rows(self):
        for order in FEW + FIVE:
            many = len(order)
            behind = [count_rows(swapped(order, at)) for at in falls(order)]
            self.assertEqual(count_rows(order), sum(behind) if behind else 1)
            self.assertEqual(count_rows(order), sum(lot_size(many, form) for form in lot_forms(order)))

    def test_lots(self):
        for many, most in ((1, 0), (2, 3), (3, 4), (4, 3)):
            for row, other in itertools.product(every_row(many, most), repeat=2):
                told = same_lot(many, row, other)
                self.assertIs(told, lot_form(many, row) == lot_form(many, other))
                self.assertIs(told, rounds_of(many, row) == rounds_of(many, other))

    def test_rows_that_are_not_least(self):
        for many, most in ((2, 4), (3, 5), (4, 5)):
            for row in every_row(many, most):
                found = waste(many, row)
                self.assertEqual(found is None, is_least_row(many, row))
                if found is not None:
                    kept = tuple(exchange for at, exchange in enumerate(row) if at not in found)
                    self.assertEqual(order_behind(many, kept), order_behind(many, row))

    def test_one_exchange_more(self):
        for order in FEW:
            many = len(order)
            for row, exchange in itertools.product(rows_in(order), range(many - 1)):
                longer, goes = row + (exchange,), goes_for(many, row, exchange)
                same = [at for at in range(len(row)) if order_behind(many, row[:at] + row[at + 1:]) == order_behind(many, longer)]
                self.assertEqual(same, [] if is_least_row(many, longer) else [goes])

    def test_row_overtakings(self):
        for order in FEW + FIVE[:1]:
            many = len(order)
            for row in rows_in(order):
                pairs = row_overtakings(many, row)
                self.assertEqual(sorted(pairs), overtakings(order))
                for move, behind in self.moved_all(many, row):
                    if move[0] == "near":
                        at = move[1]
                        turned = pairs[:at] + pairs[at:at + 3][::-1] + pairs[at + 3:]
                        self.assertEqual(row_overtakings(many, behind), turned)


class Drawings(unittest.TestCase):
    def test_same_drawing(self):
        for many, most in ((2, 4), (3, 4), (4, 4)):
            for row, other in itertools.product(every_row(many, most), repeat=2):
                self.assertIs(drawn(many, row) == drawn(many, other), same_lot(many, row, other))

    def test_least_drawings(self):
        for many, most in ((1, 0), (2, 4), (3, 6), (4, 6)):
            for row in every_row(many, most):
                drawing = drawn(many, row)
                found = crossings(drawing)
                least = is_least_drawing(drawing)
                self.assertIs(least, len(found) == size_of(order_drawn(drawing)))
                if least:
                    pairs = sorted(wires_at(drawing, crossing) for crossing in found)
                    self.assertEqual(pairs, overtakings(order_drawn(drawing)))

    def test_turnings(self):
        for order in FEW + FIVE[:1] + FIVE[2:]:
            every = least_drawings(order)
            for drawing in every:
                turned = {crossing: triangle_turned(drawing, crossing) for crossing in triangles(drawing)}
                for behind in turned.values():
                    self.assertEqual(len(set(late_triples(behind)) ^ set(late_triples(drawing))), 1)
                reached = reached_by(drawing, lambda held: [triangle_turned(held, at) for at in triangles(held)])
                self.assertEqual(reached, set(every))
                for crossing in turnings_to(every[0], drawing):
                    self.assertIsInstance(crossing, tuple)

    def test_known(self):
        for order in FEW + FIVE:
            every = least_drawings(order)
            self.assertEqual(len({late_triples(drawing) for drawing in every}), len(every))
            for drawing in every:
                self.assertEqual(drawing_late(order, late_triples(drawing)), drawing)
        for many, most in ((1, 0), (2, 3), (3, 5), (4, 5)):
            for row in every_row(many, most):
                drawing = drawn(many, row)
                courses = tuple(course(drawing, wire) for wire in range(many))
                self.assertEqual(drawing_by_courses(many, courses), drawing)

    def test_drawing_or_bar(self):
        for order in FEW + [(4, 3, 2, 1, 0), (2, 1, 4, 3, 0), (4, 0, 3, 2, 1)]:
            triples = triples_of(order)
            lots = [lot for size in range(len(triples) + 1) for lot in itertools.combinations(triples, size)]
            for lot in lots if len(lots) < 100 else lots[::11]:
                drawing, bar = drawing_late(order, lot), triple_bar(order, lot)
                self.assertNotEqual(drawing is None, bar is None)
                self.assertTrue(bar is None or is_triple_bar(order, lot, bar))
                self.assertTrue(drawing is None or late_triples(drawing) == lot)

    def test_fields_of_the_last_order(self):
        for many in (3, 4, 5):
            for drawing in least_drawings(last_order(many)):
                self.assertEqual(len(fields(drawing)), (many - 1) * (many - 2) // 2)
                self.assertGreaterEqual(len(triangles(drawing)), many - 2)

    def test_paths(self):
        for many in MANY:
            found = []
            for drawing in least_drawings(last_order(many)):
                for path in paths(drawing):
                    longer = with_path(drawing, path)
                    self.assertEqual(path_parted(longer), (drawing, path))
                    found.append(longer)
            self.assertEqual(sorted(found), least_drawings(last_order(many + 1)))


class Layings(unittest.TestCase):
    def test_rows(self):
        for order in FEW + FIVE:
            many, rows = len(order), rows_in(order)
            for row, other in itertools.product(rows if len(rows) < 20 else rows[::97], repeat=2):
                same = laying_of_row(many, row) == laying_of_row(many, other)
                self.assertIs(same, same_lot(many, row, other))
            self.assertEqual(sum(count_rows_of(order, laying) for laying in layings(order)), count_rows(order))

    def test_sixes(self):
        for order in FEW + FIVE[:1] + FIVE[2:]:
            every = layings(order)
            self.assertEqual(len(every), count_layings(order))
            self.assertGreater(len(every), 0)
            for laying in every:
                reached = reached_by(laying, lambda held: [six_turned(order, held, six) for six in sixes(order, held)])
                self.assertEqual(reached, set(every))
                for six in sixes(order, laying):
                    high = set(high_triples(order, laying)) ^ set(high_triples(order, six_turned(order, laying, six)))
                    self.assertEqual(high, {six[1:]})
                held = every[0]
                for six in turns_between(order, held, laying):
                    held = six_turned(order, held, six)
                self.assertEqual(held, laying)

    def test_high(self):
        for order in FEW + FIVE:
            every = layings(order)
            highs = [tuple(high_triples(order, laying)) for laying in every]
            self.assertEqual(len(set(highs)), len(every))
            for laying, high in zip(every, highs):
                self.assertEqual(laying_high(order, high), laying)
            if order == last_order(len(order)):
                triples = tuple(itertools.combinations(order[::-1], 3))
                self.assertEqual((highs.count(()), highs.count(triples)), (1, 1))

    def test_points(self):
        for order in FEW + FIVE[:3]:
            for laying in layings(order):
                self.assertEqual(len(points_of(order, laying)), len(order) + 1 + len(laying))

    def test_mirrored(self):
        for order in FEW + FIVE[:3]:
            aim = turned_over(turned_about(order))
            for laying in layings(order):
                mirrored = laying_mirrored(order, laying)
                self.assertIn(mirrored, layings(aim))
                self.assertEqual(laying_mirrored(aim, mirrored), laying)


class Tables(unittest.TestCase):
    def test_orders(self):
        for many in MANY:
            pairs = [pair for shape in shapes_with(many) for pair in itertools.product(numbered_tables(shape), repeat=2)]
            self.assertEqual(sorted(order_of(*pair) for pair in pairs), all_orders(many))
        for order in FEW + FIVE:
            left, right = tables_of(order)
            self.assertEqual(order_of(left, right), order)
            self.assertEqual(tables_of(opposite(order)), (right, left))
            self.assertEqual(tables_of(turned_about(order))[0], table_turned(left))
            self.assertEqual(tables_of(turned_over(turned_about(order))), (table_over(left), table_over(right)))
            self.assertEqual(falls(order), table_falls(right))

    def test_least_rows(self):
        for order in FEW + FIVE:
            many, lefts = len(order), left_tables(order)
            pairs = [(left, right) for left in lefts for right in numbered_tables(shape_in(left))] if size_of(order) < 10 else []
            for left in lefts:
                self.assertEqual(order_with_left(many, left), order)
            self.assertEqual(count_rows(order), sum(count_numbered(shape_in(left)) for left in lefts))
            if pairs:
                self.assertEqual(sorted(row_of(many, left, right) for left, right in pairs), rows_in(order))
            for row in rows_in(order)[::1 if pairs else 50]:
                self.check_row(many, row)

    def check_row(self, many, row):
        left, right = tables_of_row(many, row)
        self.assertEqual(row_of(many, left, right), row)
        self.assertEqual(table_falls(right), [at for at in range(len(row) - 1) if row[at] > row[at + 1]])
        for first in range(len(row) + 1):
            self.assertEqual(tables_of_row(many, row[first:])[1], rest_of(right, first))

    def test_last_order(self):
        for many in (1, 2, 3, 4, 5):
            tables = [tables_of_row(many, row) for row in rows_in(last_order(many))]
            self.assertEqual(len({left for left, _ in tables}), 1)
            every = numbered_tables(stair(many)) if many < 5 else [right for _, right in tables]
            self.assertEqual(sorted(right for _, right in tables), sorted(every))
            self.assertEqual(len(set(every)), count_numbered(stair(many)))
            for row in rows_in(last_order(many))[::1 if many < 5 else 20]:
                right = tables_of_row(many, row)[1]
                self.assertEqual(stair_row(many, right), row)
                self.assertEqual(tables_of_row(many, row_on(many, row))[1], led_table(right))
                held = right
                for _ in range(size_in(right)):
                    held = led_table(held)
                self.assertEqual(held, table_turned(right))

    def test_lots(self):
        for order in FEW + FIVE:
            shape = shape_in(tables_of(order)[0])
            for lots in range(1, len(order) + 2):
                self.assertEqual(most_rising(order, lots), sum(shape[:lots]))
                self.assertEqual(most_falling(order, lots), sum(shape_turned(shape)[:lots]))

    def test_led(self):
        for shape in [shape for size in range(8) for shape in shapes_with(size)]:
            for table in numbered_tables(shape):
                self.assertEqual(led_back(led_table(table)), table)
                self.assertEqual(led_table(led_back(table)), table)
                self.assertEqual(table_over(table_over(table)), table)

    def test_hooks(self):
        for shape in [shape for size in range(10) for shape in shapes_with(size)]:
            hooks = math.prod(hook_at(shape, cell) for cell in shape_cells(shape))
            self.assertEqual(hooks * count_numbered(shape), math.factorial(sum(shape)))


class Below(unittest.TestCase):
    def pairs(self):
        return [pair for many in MANY for pair in itertools.product(all_orders(many), repeat=2)]

    def test_weak_and_strong(self):
        for one, other in self.pairs():
            weakly, strongly = is_weakly_below(one, other), is_strongly_below(one, other)
            self.assertTrue(strongly or not weakly)
            self.assertIs(is_weakly_below(turned_about(other), turned_about(one)), weakly)
            self.assertIs(is_strongly_below(turned_about(other), turned_about(one)), strongly)
            self.assertIs(is_strongly_below(opposite(one), opposite(other)), strongly)

    def test_parts(self):
        for one, other in self.pairs():
            strongly = is_strongly_below(one, other)
            for row in rows_in(other)[:3]:
                part = part_of_row(one, row)
                self.assertIs(part is not None, strongly)
                if strongly:
                    items = tuple(row[at] for at in part)
                    self.assertTrue(is_least_row(len(one), items) and order_behind(len(one), items) == one)
            first = [zip(sorted(one[:count]), sorted(other[:count])) for count in range(len(one))]
            self.assertIs(all(low <= high for each in first for low, high in each), strongly)

    def test_joins(self):
        for one, other in self.pairs():
            pairs = set(overtakings(one)) | set(overtakings(other))
            more = True
            while more:
                more = {(a, c) for a, b in pairs for k, c in pairs if b == k} - pairs
                pairs |= more
            self.assertEqual(overtakings(weak_join(one, other)), sorted(pairs))

    def test_signed(self):
        for one, other in self.pairs():
            told = (-1) ** (size_of(other) - size_of(one)) if is_strongly_below(one, other) else 0
            self.assertEqual(strong_signed(one, other), told)
            self.assertIn(weak_signed(one, other), (0, 1, -1))

    def test_smooth(self):
        for order in FEW + all_orders(5)[::4]:
            sizes = sizes_below(order)
            self.assertIs(is_smooth(order), sizes == sizes[::-1])


class Pipes(unittest.TestCase):
    def test_ways(self):
        for order in FEW + FIVE:
            many = len(order)
            for lot in all_pipes(order):
                ways = pipe_tiles(many, lot)
                self.assertEqual([way[-1] for way in ways], [(0, thing) for thing in order])
                for one, other in itertools.combinations(ways, 2):
                    self.assertLessEqual(len(set(one) & set(other) & set(lot)), 1)

    def test_ladders(self):
        for order in FEW + FIVE:
            many, every = len(order), all_pipes(order)
            reached = reached_by(low_pipes(order), lambda lot: [climbed(many, lot, ladder) for ladder in ladders(many, lot)])
            self.assertEqual(reached, set(every))
            self.assertEqual([lot for lot in every if ladders_down(many, lot) == []], [low_pipes(order)])
            self.assertEqual(ladders(many, high_pipes(order)), [])
            for lot in every:
                held = low_pipes(order)
                for ladder in ladder_way(many, lot):
                    held = climbed(many, held, ladder)
                self.assertEqual(held, lot)

    def test_climbs(self):
        for order in FEW + FIVE[:1] + FIVE[2:]:
            many = len(order)
            found = [pipes_by(many, row, climb) for row in rows_in(order) for climb in climbs(many, row)]
            self.assertEqual(sorted(found), all_pipes(order))
            self.assertTrue(all(pipes_order(many, lot) == order and pipes_row(many, lot) in rows_in(order) for lot in found))

    def test_sums(self):
        for order in FEW + FIVE:
            own = order_sum(order)
            self.assertEqual(sum(number for _, number in own), count_pipes(order))
            self.assertEqual(max(powers[::-1] for powers, _ in own), code(order)[::-1])
            for at in range(len(order) - 1):
                behind = order_sum(swapped(order, at)) if at in falls(order) else ()
                self.assertEqual(stepped_down(len(order), own, at), behind)

    def test_sums_are_known(self):
        for many in MANY:
            every = all_orders(many)
            self.assertEqual(len({order_sum(order) for order in every}), len(every))
            # As many orders as narrow products: each of these comes of their sums.
            products = list(itertools.product(*[range(many - thing) for thing in range(many)]))
            self.assertEqual(len(products), len(every))
            for powers in products:
                numbers = {}
                for order, often in in_orders(many, ((powers, 1),)):
                    for each, number in order_sum(order):
                        numbers[each] = numbers.get(each, 0) + often * number
                self.assertEqual({each: number for each, number in numbers.items() if number}, {powers: 1})

    def test_products_of_rows(self):
        for order in FEW + FIVE:
            total = sum(math.prod(exchange + 1 for exchange in row) for row in rows_in(order))
            self.assertEqual(total, count_pipes(order) * math.factorial(size_of(order)))

    def test_has_one(self):
        for order in FEW + all_orders(5):
            self.assertIs(has_one(order), count_pipes(order) == 1)
            self.assertIs(has_one(order), not has_pattern(order, (0, 2, 1)))


class Sorting(unittest.TestCase):
    def nets(self, many, most):
        return [net for length in range(most + 1) for net in itertools.product(comparers(many), repeat=length)]

    def test_nets(self):
        for many, most in ((1, 0), (2, 2), (3, 3), (4, 3)):
            for net in self.nets(many, most):
                sorts = all(sorted_by(order, net) == plain_order(many) for order in all_orders(many))
                self.assertIs(is_sorter(many, net), sorts)
                self.assertIs(unsorted_marks(many, net) == [], sorts)
                idle = [
                    at for at in range(len(net))
                    if all(marks_by(many, net[:at], marks) == marks_by(many, net[:at + 1], marks) for marks in all_marks(many))
                ]
                self.assertEqual(idle_comparers(many, net), idle)

    def test_two_nets(self):
        for many, most in ((2, 2), (3, 2), (4, 1)):
            for one, other in itertools.product(self.nets(many, most), repeat=2):
                orders = all(sorted_by(order, one) == sorted_by(order, other) for order in all_orders(many))
                marks = all(marks_by(many, one, row) == marks_by(many, other, row) for row in all_marks(many))
                self.assertIs(orders, marks)
                self.assertIs(first_parted(many, one, other) is None, orders)

    def test_near_nets(self):
        for many, most in ((1, 0), (2, 3), (3, 5), (4, 5)):
            last = last_order(many)
            for row in every_row(many, most):
                net = near_net(many, row)
                behind = sorted_by(last, net)
                self.assertIs(is_sorter(many, net), behind == plain_order(many))
                self.assertEqual(behind, led_on(last, kept_row(many, row)))
                self.assertEqual(near_more(many, net), size_of(behind))
                rest = near_rest(many, net)
                self.assertTrue(is_near(many, rest) and is_sorter(many, net + rest))
                self.assertEqual(len(rest), size_of(behind))

    def test_stacks_and_lines(self):
        for order in FEW + all_orders(5)[::3]:
            self.assertEqual(stack_moves(order) is None, stack_bar(order) is not None)
            self.assertEqual(stack_pass(order) == plain_order(len(order)), stack_moves(order) is not None)
            self.assertEqual(lines_needed(order), len(falling_places(order)))
            self.assertTrue(is_lines_way(order, lines_way(order)))
            needed = stacks_needed(order)
            for number in range(1, len(order) + 1):
                self.assertEqual(stacks_way(order, number) is None, number < needed)
            self.assertTrue(is_stacks_way(order, stacks_way(order, needed)))
            self.assertEqual(needed == 1, stack_moves(order) is not None)

    def test_bubbles(self):
        for order in FEW + FIVE + all_orders(5)[::3]:
            count, held = 0, order
            while held != plain_order(len(order)):
                count, held = count + 1, bubble_pass(held)
            self.assertEqual(bubble_passes(order), count)
            ahead = [len([other for other in order[:at] if other > thing]) for at, thing in enumerate(order)]
            self.assertEqual(count, max(ahead))


class Counts(unittest.TestCase):
    def test_spreads(self):
        for many in range(1, 31):
            for one, other in (("size", "weight"), ("falls", "overs"), ("rings", "tops")):
                self.assertEqual(spread(one, many), spread(other, many))
        for many in range(1, 7):
            self.assertEqual(both_spread("size", "weight", many), both_spread("weight", "size", many))

    def test_carried(self):
        for order in FEW + all_orders(5):
            behind = weight_to_size(order)
            self.assertEqual(word_number("size", behind), word_number("weight", order))
            self.assertEqual(falls(opposite(behind)), falls(opposite(order)))
            behind = rings_to_tops(order)
            self.assertEqual(word_number("tops", behind), word_number("rings", order))
            self.assertEqual(word_number("falls", behind), word_number("overs", opposite(order)))

    def test_signed_falls(self):
        for many in range(1, 31):
            told = spread("falls", many - many // 2)
            for _ in range(many // 2):
                told = tuple(one - other for one, other in zip(told + (0,), (0,) + told))
            self.assertEqual(signed_spread("falls", many), told)

    def test_patterns(self):
        patterns = [pattern for many in (1, 2, 3) for pattern in all_orders(many)] + [(1, 0, 3, 2), (2, 0, 3, 1)]
        for order in FEW + FIVE:
            for pattern in patterns:
                told = has_pattern(order, pattern)
                self.assertIs(has_pattern(opposite(order), opposite(pattern)), told)
                self.assertIs(has_pattern(turned_about(order), turned_about(pattern)), told)
                self.assertIs(has_pattern(turned_over(order), turned_over(pattern)), told)
        for many, pattern in itertools.product((3, 4, 5), patterns):
            if len(pattern) <= many:
                total = sum(count_spots(order, pattern) for order in all_orders(many))
                choices = math.comb(many, len(pattern))
                self.assertEqual(total, math.factorial(many) // math.factorial(len(pattern)) * choices)

    def test_row_begins(self):
        for order in FEW:
            self.assertEqual(row_begins(order), sorted({row[0] for row in rows_in(order) if row}))
            for exchange in row_begins(order):
                self.assertEqual(size_of(renamed(order, exchange)), size_of(order) - 1)


class Life(unittest.TestCase):
    def rows(self):
        """Return some rows, each with the number of its things and with shares."""
        chance = random.Random(40)
        rows = [(many, row) for many, most in ((1, 0), (2, 3), (3, 4), (4, 3)) for row in every_row(many, most)]
        rows += [(len(order), row) for order in FEW[9:] for row in rows_in(order)[:3]]
        return [(many, row, drawn_shares(chance, row)) for many, row in rows]

    def test_moves_leave_spans(self):
        for many, row, shares in self.rows():
            for word, at in row_moves(many, row):
                behind = (moved_far if word == "far" else moved_near)(many, row, shares, at)
                self.assertEqual(behind[0], row_moved(many, row, (word, at)))
                self.assertEqual(span(many, *behind), span(many, row, shares))

    def test_two_rows(self):
        chance, rows = random.Random(41), self.rows()
        for many, row, shares in rows:
            _, other, others = chance.choice([each for each in rows if each[0] == many])
            both = product(read(span(many, row, shares)), read(span(many, other, others)))
            self.assertEqual(read(span(many, row + other, shares + others)), both)

    def test_turned_about(self):
        for many, row, shares in self.rows():
            about = read(span(many, row[::-1], shares[::-1]))
            signed = [[(-1) ** (at + by) * item for by, item in enumerate(line)] for at, line in enumerate(about)]
            self.assertEqual(product(read(span(many, row, shares)), signed), plain_table(many))
            self.assertEqual(product(signed, read(span(many, row, shares))), plain_table(many))

    def test_items(self):
        for many, row, shares in self.rows():
            for at, line in enumerate(read(span(many, row, shares))):
                for by, item in enumerate(line):
                    self.assertGreaterEqual(item, 0)
                    if at < by:
                        self.assertEqual(item > 0, stand_in_order(row, range(at, by)))

    def states(self):
        """Return all states of some least rows, with each spot and each seat."""
        chance = random.Random(42)
        for order in [order for many in (1, 2, 3) for order in all_orders(many)] + all_orders(4)[::5]:
            for row in rows_in(order)[:2]:
                shares = drawn_shares(chance, row)
                for spot, seat in itertools.product(range(len(row) + 1), range(len(order))):
                    yield (len(order), row, shares, spot, seat)

    def test_scaling(self):
        for state in self.states():
            many, table = state[0], read(span(*state[:3]))
            for height in range(many):
                behind = read(span(*stepped(state, ("scale", height, (3, 2)))[:3]))
                for at, by in itertools.product(range(many), repeat=2):
                    factor = Fraction(3, 2) ** ((at == height) - (by == height))
                    self.assertEqual(behind[at][by], table[at][by] * factor)

    def test_steps(self):
        for state in self.states():
            for step in all_steps(4):
                try:
                    behind = stepped(state, step)
                except OrderError:
                    continue
                self.assertTrue(is_state(behind))
                back = step_back(state, step)
                self.assertEqual(back is None, step == ("drop",))
                self.assertTrue(back is None or stepped(behind, back) == state)

    def test_scripts_on_benches(self):
        """All scripts of two steps of few kinds, and then one step, taken back and done anew."""
        few = [("near", 0), ("far", 0), ("add", 0, (1, 2)), ("drop",), ("about",), ("over",), ("scale", 1, (2, 3)), ("put", 1), ("watch", 1)]
        for state in itertools.islice(self.states(), 0, None, 7):
            for script in itertools.product(few, repeat=2):
                bench, shown = Bench(state), []
                shown.append((bench.state, bench.log))
                for call in (lambda: bench.__iadd__(script), lambda: bench.do(("about",)), lambda: bench.__iadd__(script[:1])):
                    try:
                        call()
                        shown.append((bench.state, bench.log))
                    except OrderError:
                        self.assertEqual((bench.state, bench.log), shown[-1])
                for told in shown[-2::-1]:
                    bench.undo()
                    self.assertEqual((bench.state, bench.log), told)
                for told in shown[1:]:
                    bench.redo()
                    self.assertEqual((bench.state, bench.log), told)
                self.assertEqual(len(bench), len(shown) - 1)


if __name__ == "__main__":
    unittest.main()
