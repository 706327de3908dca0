"""Wrong inputs: each argument any value, and the first error from left to right."""

from tests.sweeps import FREE, LEAST_ROW, MANY, ORDER, ROW, Sweep
from tests.values import (
    ANY, all_orders, are_ints, flat, is_int, led_to, pairs_over, right_drawing, right_least_drawing, right_order,
    right_pairs, right_row, rises,
)
from wiredorders import (
    blocks, codes, crossings, drawings, errors, fields, leastrows, orders, overtakings, paths, rings, roads, rowlots,
    rowmoves, rowsteps, triples,
)

M = (3, 0, 4, 1, 2)
A = (3, ((0,), (1,), (0,)))
D = (4, ((0, 2), (1,), (0, 2), (1,)))


def is_pair_set(many, value):
    if not right_pairs(many, value) or not rises(value):
        return False
    return any(pairs_over(order) == list(value) for order in all_orders(many))


def is_rings(many, value):
    if type(value) not in (list, tuple):
        return False
    if not all(are_ints(ring, 0, many - 1) and ring for ring in value):
        return False
    things = [thing for ring in value for thing in ring]
    return len(things) == len(set(things))


def is_code(value):
    if type(value) is not tuple or not 1 <= len(value) <= 30:
        return False
    return all(is_int(item, 0, len(value) - 1 - at) for at, item in enumerate(value))


def is_step_pairs(many, value):
    if not right_pairs(many, value) or len(set(value)) != len(value):
        return False
    things = list(range(many))
    for one, other in value:
        at = things.index(one)
        if at + 1 == many or things[at + 1] != other:
            return False
        things[at:at + 2] = [other, one]
    return True


def is_move(row, value):
    if type(value) is not tuple or len(value) != 2 or type(value[0]) is not str:
        return False
    word, at = value
    if word == "far":
        return is_int(at, 0, len(row) - 2) and abs(row[at] - row[at + 1]) >= 2
    return word == "near" and is_int(at, 0, len(row) - 3) and row[at] == row[at + 2] and abs(row[at] - row[at + 1]) == 1


def is_crossing(drawing, value):
    return are_ints(value, 0, 200) and value in [(at, x) for at, col in enumerate(drawing[1]) for x in col]


def is_lot(order, value):
    if not right_pairs(len(order), value, 3) or not rises(value):
        return False
    over = pairs_over(order)
    return all((a, b) in over and (b, c) in over for a, b, c in value)


def is_path(drawing, value):
    """Only for the drawing A, whose paths the document tells."""
    return are_ints(value, 0, 9) and value in [(0, 0, 0), (0, 1, 1), (1, 2, 1), (1, 3, 2)]


def is_road(value):
    if type(value) is not tuple or not 2 <= len(value) <= 31:
        return False
    if not all(are_ints(point, 0, len(value) - 2) and rises(point) and len(point) == at for at, point in enumerate(value)):
        return False
    return all(set(value[at]) < set(value[at + 1]) for at in range(len(value) - 1))


WIRES = (errors.InvalidMany, lambda args, value: is_int(value, 1, 12))
SHORT_ROW = (errors.InvalidRow, lambda args, value: right_row(args[0], value) and len(value) <= 200)
ORDER_ROW = (errors.InvalidRow, lambda args, value: right_row(len(args[0]), value))
EXCHANGE = (errors.InvalidExchange, lambda args, value: is_int(value, 0, args[0] - 2))
ORDER_EXCHANGE = (errors.InvalidExchange, lambda args, value: is_int(value, 0, len(args[0]) - 2))
DRAWING = (errors.InvalidDrawing, lambda args, value: right_drawing(value))
LEAST = (errors.InvalidDrawing, lambda args, value: right_least_drawing(value))
CROSSING = (errors.InvalidCrossing, lambda args, value: is_crossing(args[0], value))
LOT = (errors.InvalidTriples, lambda args, value: is_lot(args[0], value))
WIRE = (errors.InvalidThing, lambda args, value: is_int(value, 0, args[0][0] - 1))

TABLE = [
    (orders.plain_order, (3,), (MANY,)),
    (orders.last_order, (3,), (MANY,)),
    (orders.opposite, (M,), (ORDER,)),
    (orders.led, (M, M), (ORDER, ORDER)),
    (orders.turned_about, (M,), (ORDER,)),
    (orders.turned_over, (M,), (ORDER,)),
    (orders.swapped, (M, 3), (ORDER, ORDER_EXCHANGE)),
    (orders.swapped, ((1, 0), 0), (ORDER, ORDER_EXCHANGE)),
    (orders.renamed, (M, 3), (ORDER, ORDER_EXCHANGE)),
    (orders.is_row, (3, (0, 1)), (MANY, FREE)),
    (orders.order_behind, (3, (0, 1)), (MANY, ROW)),
    (orders.order_behind, (1, ()), (MANY, ROW)),
    (orders.order_behind, (30, (28,) * 450), (MANY, ROW)),
    (orders.led_on, (M, (0, 1)), (ORDER, ORDER_ROW)),
    (overtakings.overtakings, (M,), (ORDER,)),
    (overtakings.size_of, (M,), (ORDER,)),
    (overtakings.falls, (M,), (ORDER,)),
    (overtakings.are_overtakings, (3, ()), (MANY, FREE)),
    (overtakings.order_by, (3, ()), (MANY, (errors.InvalidPairs, lambda args, value: is_pair_set(args[0], value)))),
    (overtakings.is_least_row, (3, (0, 1)), (MANY, ROW)),
    (overtakings.some_row, (M,), (ORDER,)),
    (codes.code, (M,), (ORDER,)),
    (codes.order_with_code, ((0,),), ((errors.InvalidCode, lambda args, value: is_code(value)),)),
    (codes.number_of, (M,), (ORDER,)),
    (codes.order_with, (3, 5), (MANY, (errors.InvalidNumber, lambda args, value: is_int(value, 0, 5)))),
    (codes.order_with, (1, 0), (MANY, (errors.InvalidNumber, lambda args, value: is_int(value, 0, 0)))),
    (codes.orders, (3,), (MANY,)),
    (rings.rings, (M,), (ORDER,)),
    (rings.sign, (M,), (ORDER,)),
    (rings.period, (M,), (ORDER,)),
    (rings.power, (M, 2),
     (ORDER, (errors.InvalidNumber, lambda args, value: is_int(value, -10 ** 30, 10 ** 30)))),
    (rings.order_with_rings, (4, ()), (MANY, (errors.InvalidRings, lambda args, value: is_rings(args[0], value)))),
    (blocks.gaps, (M,), (ORDER,)),
    (blocks.blocks, (M,), (ORDER,)),
    (blocks.side_by_side, (M, (0,)), (ORDER, ORDER)),
    (blocks.counts_table, (M,), (ORDER,)),
    (leastrows.row_begins, (M,), (ORDER,)),
    (leastrows.first_row, (M,), (ORDER,)),
    (leastrows.last_row, (M,), (ORDER,)),
    (leastrows.count_rows, (M,), (ORDER,)),
    (leastrows.row_with, (M, 4), (ORDER, (errors.InvalidNumber, lambda args, value: is_int(value, 0, 4)))),
    (leastrows.row_number_of, ((2, 1, 0), (0, 1, 0)),
     (ORDER, (errors.InvalidRow, lambda args, value: are_ints(value, 0, 1) and value in [(0, 1, 0), (1, 0, 1)]))),
    (leastrows.rows_of, (M,), (ORDER,)),
    (rowlots.lot_form, (3, (0, 1)), (MANY, ROW)),
    (rowlots.same_lot, (3, (0, 1), ()), (MANY, ROW, ROW)),
    (rowlots.lot_size, (3, (0, 1)), (MANY, ROW)),
    (rowlots.rounds_of, (3, (0, 1)), (MANY, ROW)),
    (rowlots.lot_forms, (M,), (ORDER,)),
    (rowlots.count_lots, (M,), (ORDER,)),
    (rowmoves.row_moves, (3, (0, 1)), (MANY, ROW)),
    (rowmoves.row_moved, (3, (0, 1, 0), ("near", 0)),
     (MANY, ROW, (errors.InvalidMove, lambda args, value: is_move(args[1], value)))),
    (rowmoves.row_moved, (4, (1, 0, 2), ("far", 1)),
     (MANY, ROW, (errors.InvalidMove, lambda args, value: is_move(args[1], value)))),
    (rowmoves.is_move_way, (3, (0, 1), (), ()), (MANY, ROW, ROW, FREE)),
    (rowmoves.move_way, (3, (0, 1), (0, 1)), (MANY, LEAST_ROW, LEAST_ROW)),
    (rowmoves.fewest_moves, (3, (0, 1), (0, 1)), (MANY, LEAST_ROW, LEAST_ROW)),
    (rowmoves.fewest_near, (3, (0, 1), (0, 1)), (MANY, LEAST_ROW, LEAST_ROW)),
    (rowsteps.row_overtakings, (3, (0, 1)), (MANY, LEAST_ROW)),
    (rowsteps.are_row_overtakings, (3, ()), (MANY, FREE)),
    (rowsteps.row_by_overtakings, (3, ()),
     (MANY, (errors.InvalidPairs, lambda args, value: is_step_pairs(args[0], value)))),
    (rowsteps.waste, (3, (0, 1)), (MANY, ROW)),
    (rowsteps.kept_steps, (3, (0, 1)), (MANY, ROW)),
    (rowsteps.is_kept, (3, (0, 1), ()), (MANY, ROW, FREE)),
    (rowsteps.goes_for, (3, (0, 1), 1), (MANY, LEAST_ROW, EXCHANGE)),
    (rowsteps.goes_for, (2, (), 0), (MANY, LEAST_ROW, EXCHANGE)),
    (rowsteps.pushed_order, (M, (0, 1)), (ORDER, ORDER_ROW)),
    (drawings.drawn, (3, (0, 1)), (WIRES, SHORT_ROW)),
    (drawings.row_drawn, (A,), (DRAWING,)),
    (drawings.order_drawn, (A,), (DRAWING,)),
    (drawings.is_least_drawing, (A,), (DRAWING,)),
    (drawings.turned_drawing, (A,), (DRAWING,)),
    (drawings.over_drawing, (A,), (DRAWING,)),
    (drawings.rows_drawn, (A,), (DRAWING,)),
    (drawings.count_rows_drawn, (A,), (DRAWING,)),
    (crossings.crossings, (A,), (DRAWING,)),
    (crossings.wires_at, (D, (2, 0)), (DRAWING, CROSSING)),
    (crossings.course, (D, 3), (DRAWING, WIRE)),
    (crossings.drawing_by_courses, (3, ()), (WIRES, FREE)),
    (fields.fields, (A,), (DRAWING,)),
    (fields.field_corners, (A, (0, 0)), (DRAWING, CROSSING)),
    (fields.triangles, (A,), (DRAWING,)),
    (fields.triangle_turned, (A, (0, 0)), (DRAWING, CROSSING)),
    (fields.least_drawings, (M,), (ORDER,)),
    (fields.turnings_to, (A, A), (LEAST, LEAST)),
    (triples.triples_of, (M,), (ORDER,)),
    (triples.late_triples, (A,), (LEAST,)),
    (triples.drawing_late, ((2, 1, 0), ()), (ORDER, LOT)),
    (triples.triple_bar, ((2, 1, 0), ()), (ORDER, LOT)),
    (triples.is_triple_bar, ((2, 1, 0), (), ()), (ORDER, LOT, FREE)),
    (paths.count_edges, (D, 3), (DRAWING, WIRE)),
    (paths.paths, (A,), (DRAWING,)),
    (paths.count_paths, (A,), (DRAWING,)),
    (paths.with_path, (A, (0, 1, 1)),
     (DRAWING, (errors.InvalidPath, lambda args, value: is_path(args[0], value)))),
    (paths.path_parted, (A,), ((errors.InvalidDrawing, lambda args, value: right_drawing(value) and value[0] > 1),)),
    (roads.road_of, (M,), (ORDER,)),
    (roads.order_of_road, (((), (0,)),), ((errors.InvalidRoad, lambda args, value: is_road(value)),)),
    (roads.squares_on, (M,), (ORDER,)),
    (roads.squares_under, (M,), (ORDER,)),
]


class Wrong(Sweep):
    def test_each_argument(self):
        self.sweep_arguments(TABLE)

    def test_from_left_to_right(self):
        self.sweep_from_left(TABLE)

    def test_alone(self):
        self.check_error(errors.InvalidExchange, orders.swapped, ((0,), 0), "one thing")
        self.check_error(errors.InvalidExchange, orders.renamed, ((0,), 0), "one thing")
        self.check_error(errors.InvalidExchange, rowsteps.goes_for, (1, (), 0), "one thing")
        self.check_error(errors.InvalidRow, orders.order_behind, (1, (0,)), "one thing")
        self.check_error(errors.InvalidRow, orders.order_behind, (30, (0,) * 451), "451 exchanges")
        self.check_error(errors.InvalidRow, drawings.drawn, (12, (0,) * 201), "201 exchanges")
        self.check_error(errors.InvalidMany, drawings.drawn, (13, ()), "13 wires")
        self.check_error(errors.InvalidField, fields.field_corners, (A, (1, 1)), "no field")
        self.check_error(errors.InvalidField, fields.triangle_turned, (D, (1, 1)), "four corners")
        self.check_error(errors.InvalidField, fields.triangle_turned, (A, (2, 0)), "no field")
        self.check_error(errors.InvalidField, fields.triangle_turned, ((2, ((0,), (0,))), (0, 0)), "two corners")
        self.check_error(errors.InvalidDrawing, paths.path_parted, ((1, ()),), "one wire")
        self.check_error(errors.InvalidDrawing, triples.late_triples, ((2, ((0,), (0,))),), "not least")
        self.check_error(errors.InvalidNumber, codes.order_with, (5, 120), "one too many")
        self.check_error(errors.InvalidNumber, leastrows.row_with, (M, 5), "one too many")

    def test_unlike(self):
        for function, args in (
            (orders.led, (M, (0,))),
            (rowmoves.move_way, (3, (0,), (1,))),
            (rowmoves.move_way, (30, tuple(range(11)), (1,))),
            (rowmoves.fewest_moves, (6, (0,), (1, 0))),
            (rowmoves.fewest_near, (6, (0,), (1, 0))),
            (fields.turnings_to, (A, (3, ((0,),)))),
            (fields.turnings_to, ((6, ((4,),)), (5, ()))),
            (fields.turnings_to, ((2, ()), (3, ()))),
        ):
            self.check_error(errors.Unlike, function, args, "unlike")
        self.check_error(errors.InvalidOrder, orders.led, (M, None), "behind both")
        self.check_error(errors.InvalidRow, rowmoves.fewest_near, (3, (0,), (1, 1)), "behind both")
        self.check_error(errors.InvalidDrawing, fields.turnings_to, (A, (2, ((0,), (0,)))), "behind both")


class Told(Sweep):
    """The functions that take any value for some argument, and tell whether it is right."""

    def test_orders(self):
        self.check_told(orders.is_order, right_order)
        for many in (1, 2, 3, 30):
            self.check_told(lambda value: orders.is_row(many, value), lambda value: right_row(many, value))

    def test_overtakings(self):
        for many in (1, 2, 3, 4):
            self.check_told(lambda value: overtakings.are_overtakings(many, value), lambda value: is_pair_set(many, value))

    def test_codes(self):
        self.check_told(codes.is_code, is_code)

    def test_moves(self):
        row = (0, 1, 0)
        self.check_told(
            lambda value: rowmoves.is_move_way(3, row, (1, 0, 1), value),
            lambda value: type(value) is tuple and len(value) == 1 and is_move(row, value[0]),
        )
        self.check_told(
            lambda value: rowmoves.is_move_way(3, row, row, value), lambda value: type(value) is tuple and value == (),
        )

    def test_row_steps(self):
        for many in (1, 2, 3):
            self.check_told(
                lambda value: rowsteps.are_row_overtakings(many, value), lambda value: is_step_pairs(many, value),
            )
        for many, row in ((2, ()), (2, (0,)), (2, (0, 0, 0)), (3, (0, 1, 0, 1))):
            self.check_told(lambda value: rowsteps.is_kept(many, row, value), lambda value: self.is_kept(many, row, value))

    def is_kept(self, many, row, value):
        if not are_ints(value, 0, len(row) - 1) or not rises(value):
            return False
        items = [row[index] for index in value]
        return led_to(many, items) == led_to(many, row) and len(items) == len(pairs_over(led_to(many, items)))

    def test_drawings(self):
        self.check_told(drawings.is_drawing, right_drawing)

    def test_courses(self):
        for many in (1, 2, 3):
            for index, value in enumerate(ANY):
                drawing = crossings.drawing_by_courses(many, value)
                if drawing is not None:
                    self.assertTrue(right_drawing(drawing), f"value {index}")
                    self.assertEqual(tuple(crossings.course(drawing, wire) for wire in range(many)), value)
                    self.assertTrue(all(are_ints(each, 0, many - 1) for each in value), f"value {index}")

    def test_bars(self):
        self.check_told(
            lambda value: triples.is_triple_bar((2, 1, 0), (), value), lambda value: False,
        )

    def test_roads(self):
        self.check_told(roads.is_road, is_road)


class Unchanged(Sweep):
    def test_a_list_that_is_handed_in(self):
        value = [(1, 0), (3, 2)]
        rings.order_with_rings(4, value)
        self.assertEqual(value, [(1, 0), (3, 2)])

    def test_returned_lists_are_new(self):
        self.check_new_lists((
            (overtakings.overtakings, (M,)), (overtakings.falls, (M,)), (codes.orders, (3,)), (rings.rings, (M,)),
            (blocks.gaps, ((0, 1),)), (blocks.blocks, (M,)), (leastrows.row_begins, (M,)), (leastrows.rows_of, (M,)),
            (rowlots.lot_forms, (M,)), (rowmoves.row_moves, (4, (0, 2))), (drawings.rows_drawn, (D,)),
            (crossings.crossings, (D,)), (fields.fields, (D,)), (fields.field_corners, (D, (0, 0))),
            (fields.triangles, (D,)), (fields.least_drawings, (M,)), (triples.triples_of, ((2, 1, 0),)),
            (paths.paths, (D,)), (roads.squares_on, (M,)), (roads.squares_under, (M,)),
        ))
