"""Wrong inputs of layings, tables and lots."""

from tests.sweeps import FREE, LEAST_ROW, MANY, ORDER, Sweep
from tests.values import (
    all_lefts, all_sixes, is_among, is_int, right_cell, right_laying, right_rising, right_shape, right_table, shape_of,
)
from wiredorders import errors, inserted, layings, lots, numbered, rowtables, shapes, sixes, tilings

M, W, LAST = (3, 0, 4, 1, 2), (2, 0, 1), (2, 1, 0)
PUT, LOW = (((), 0, 2), ((0,), 1, 2)), (((), 0, 1), ((), 1, 2), ((1,), 0, 2))
ONE, ALSO = ((0, 1), (2,)), ((0, 2), (1,))


def number_to(high):
    return (errors.InvalidNumber, lambda args, value: is_int(value, 0, high))


def is_unlike_rising(value):
    return right_rising(value) and len(set(sum(value, ()))) == len(sum(value, ()))


LAYING = (errors.InvalidLaying, lambda args, value: right_laying(args[0], value))
SQUARE = (errors.InvalidSquare, lambda args, value: is_among(value, 2, args[1]))
SIX = (errors.InvalidSix, lambda args, value: is_among(value, 2, all_sixes(len(args[0]), args[1])))
SHAPE = (errors.InvalidShape, lambda args, value: right_shape(value))
CELL = (errors.InvalidCell, lambda args, value: right_cell(args[0], value))
NUMBERED = (errors.InvalidTable, lambda args, value: right_table(value))
LOTS = (errors.InvalidNumber, lambda args, value: is_int(value, 1, 30))
SHORT = (errors.InvalidTable, lambda args, value: right_table(value) and 1 <= len(sum(value, ())) <= 30)
LEFT = (errors.InvalidTable, lambda args, value: is_among(value, 2, all_lefts(args[0])))

TABLE = [
    (layings.laying_of_row, (3, (0, 1)), (MANY, LEAST_ROW)),
    (layings.is_laying, (M, ()), (ORDER, FREE)),
    (layings.layings, (M,), (ORDER,)),
    (layings.count_layings, (M,), (ORDER,)),
    (layings.first_row_of, (W, PUT), (ORDER, LAYING)),
    (layings.count_rows_of, (W, PUT), (ORDER, LAYING)),
    (layings.count_rows_of, ((0,), ()), (ORDER, LAYING)),
    (layings.comes_behind, (LAST, LOW, LOW[0], LOW[2]), (ORDER, LAYING, SQUARE, SQUARE)),
    (layings.comes_behind, (W, PUT, PUT[0], PUT[0]), (ORDER, LAYING, SQUARE, SQUARE)),
    (sixes.sixes, (W, PUT), (ORDER, LAYING)),
    (sixes.six_turned, (LAST, LOW, ((), 0, 1, 2)), (ORDER, LAYING, SIX)),
    (sixes.high_triples, (LAST, LOW), (ORDER, LAYING)),
    (sixes.laying_high, (LAST, ()), (ORDER, FREE)),
    (sixes.turns_between, (LAST, LOW, LOW), (ORDER, LAYING, LAYING)),
    (tilings.points_of, (W, PUT), (ORDER, LAYING)),
    (tilings.count_roads, (W, PUT), (ORDER, LAYING)),
    (tilings.orders_within, (W, PUT), (ORDER, LAYING)),
    (tilings.laying_mirrored, (LAST, LOW), (ORDER, LAYING)),
    (shapes.shape_turned, ((2, 1),), (SHAPE,)),
    (shapes.hook_at, ((2, 1), (0, 0)), (SHAPE, CELL)),
    (shapes.hook_at, ((1, 1, 1), (2, 0)), (SHAPE, CELL)),
    (shapes.hook_at, ((3,), (0, 0)), (SHAPE, CELL)),
    (shapes.shapes_above, ((2, 1),), (SHAPE,)),
    (shapes.shapes_with, (5,), (number_to(20),)),
    (shapes.count_shapes, (5,), (number_to(450),)),
    (shapes.stair, (5,), (MANY,)),
    (numbered.table_turned, (ONE,), (NUMBERED,)),
    (numbered.table_falls, (ONE,), (NUMBERED,)),
    (numbered.count_numbered, ((2, 1),), (SHAPE,)),
    (numbered.numbered_tables, ((2, 1),), (SHAPE,)),
    (numbered.table_number, (ONE,), (NUMBERED,)),
    (numbered.numbered_with, ((2, 1), 1), (SHAPE, number_to(1))),
    (numbered.numbered_with, ((), 0), (SHAPE, number_to(0))),
    (numbered.numbered_with, ((3, 2), 0), (SHAPE, number_to(4))),
    (numbered.count_by_falls, ((2, 1),), (SHAPE,)),
    (inserted.put_thing, (((1, 3), (4,)), 2), (
        (errors.InvalidTable, lambda args, value: is_unlike_rising(value)),
        (errors.InvalidNumber, lambda args, value: is_int(value, 0, 10 ** 6) and value not in (1, 3, 4)),
    )),
    (inserted.tables_of, (M,), (ORDER,)),
    (inserted.order_of, (ONE, ALSO), (SHORT, SHORT)),
    (inserted.orders_with_left, (ONE,),
     ((errors.InvalidTable, lambda args, value: right_table(value) and value != ()),)),
    (rowtables.tables_of_row, (3, (0, 1)), (MANY, LEAST_ROW)),
    (rowtables.is_left, (3, ()), (MANY, FREE)),
    (rowtables.order_with_left, (3, ((0, 1),)), (MANY, LEFT)),
    (rowtables.order_with_left, (1, ()), (MANY, LEFT)),
    (rowtables.row_of, (3, ((0, 1), (1,)), ONE), (MANY, LEFT, NUMBERED)),
    (rowtables.row_of, (4, ((0, 1),), ((0, 1),)), (MANY, LEFT, NUMBERED)),
    (rowtables.left_tables, (M,), (ORDER,)),
    (rowtables.stair_row, (3, ONE),
     (MANY, (errors.InvalidTable, lambda args, value: right_table(value) and shape_of(value) == (2, 1)))),
    (rowtables.stair_row, (1, ()),
     (MANY, (errors.InvalidTable, lambda args, value: right_table(value) and value == ()))),
    (rowtables.row_on, (3, (0, 1, 0)),
     (MANY, (errors.InvalidRow, lambda args, value: is_among(value, 1, [(0, 1, 0), (1, 0, 1)])))),
    (rowtables.row_on, (1, ()), (MANY, (errors.InvalidRow, lambda args, value: is_among(value, 1, [()])))),
    (lots.are_rising, (M, ()), (ORDER, FREE)),
    (lots.are_falling, (M, ()), (ORDER, FREE)),
    (lots.most_rising, (M, 2), (ORDER, LOTS)),
    (lots.most_falling, (M, 2), (ORDER, LOTS)),
    (lots.rising_lots, (M, 2), (ORDER, LOTS)),
    (lots.longest_rising, (M,), (ORDER,)),
    (lots.count_longest, (M,), (ORDER,)),
]


class Wrong(Sweep):
    def test_each_argument(self):
        self.sweep_arguments(TABLE)

    def test_from_left_to_right(self):
        self.sweep_from_left(TABLE)

    def test_alone(self):
        check = self.check_error
        check(errors.InvalidLaying, sixes.sixes, (W, LOW), "a laying of another order")
        check(errors.InvalidLaying, sixes.sixes, (W, PUT[::-1]), "not ascending")
        check(errors.InvalidLaying, sixes.sixes, ((1, 0, 2), ()), "no squares")
        check(errors.InvalidSquare, layings.comes_behind, (W, PUT, ((), 0, 1), PUT[0]), "another square")
        check(errors.InvalidSquare, layings.comes_behind, (W, PUT, PUT[0], ((2,), 0, 1)), "another square")
        check(errors.InvalidSix, sixes.six_turned, (W, PUT, ((), 0, 1, 2)), "no sixes")
        check(errors.InvalidCell, shapes.hook_at, ((2, 1), (1, 1)), "behind the line")
        check(errors.InvalidCell, shapes.hook_at, ((), (0, 0)), "no cells")
        check(errors.InvalidNumber, shapes.shapes_with, (21,), "a size too great")
        check(errors.InvalidNumber, shapes.count_shapes, (451,), "a size too great")
        check(errors.InvalidShape, shapes.shape_turned, ((226, 225),), "a size too great")
        check(errors.InvalidNumber, lots.rising_lots, (M, 31), "too many lots")
        check(errors.InvalidNumber, inserted.put_thing, ((), 10 ** 6 + 1), "a thing too great")
        check(errors.InvalidNumber, numbered.numbered_with, ((2, 1), 2), "one too many")
        check(errors.InvalidNumber, numbered.numbered_with, ((450,), 1), "one too many")
        check(errors.InvalidNumber, inserted.put_thing, (((0,),), 0), "a thing that is there")
        check(errors.InvalidNumber, inserted.put_thing, (((1,), (5,)), 5), "a thing that is there")
        check(errors.InvalidTable, inserted.put_thing, (((0, 1), (1,)), 2), "a thing twice")
        check(errors.InvalidTable, inserted.order_of, ((), ()), "the empty tables")
        check(errors.InvalidTable, inserted.order_of, ((tuple(range(31)),), (tuple(range(31)),)), "31 things")
        check(errors.InvalidTable, inserted.orders_with_left, ((),), "the empty table")
        check(errors.InvalidTable, rowtables.order_with_left, (3, ((0, 2),)), "an exchange too great")
        check(errors.InvalidTable, rowtables.order_with_left, (4, ((0,), (1,), (2,))[1:] + ((1,),)), "falling columns")
        check(errors.InvalidTable, rowtables.stair_row, (2, ()), "another stair")
        check(errors.InvalidTable, rowtables.stair_row, (3, ((0, 1, 2),)), "no stair")
        check(errors.InvalidRow, rowtables.row_on, (3, (0, 1)), "of another order")
        check(errors.InvalidRow, rowtables.row_on, (2, (0, 0, 0)), "not least")
        check(errors.InvalidRow, layings.laying_of_row, (2, (0, 0)), "not least")
        check(errors.InvalidRow, rowtables.tables_of_row, (3, (0, 1, 0, 1)), "not least")

    def test_unlike(self):
        for function, args in (
            (inserted.order_of, (ONE, ((0, 1, 2),))),
            (inserted.order_of, (((0,),), ONE)),
            (rowtables.row_of, (3, ((0, 1), (1,)), ((0, 1, 2),))),
            (rowtables.row_of, (3, (), ((0,),))),
            (rowtables.row_of, (4, ((0, 1),), ((0,), (1,)))),
        ):
            self.check_error(errors.Unlike, function, args, "unlike")
        self.check_error(errors.InvalidTable, inserted.order_of, (ONE, ((0, 2),)), "behind both")
        self.check_error(errors.InvalidTable, rowtables.row_of, (3, ((0,),), ((1,),)), "behind both")

    def test_returned_lists_are_new(self):
        self.check_new_lists((
            (layings.layings, (LAST,)), (sixes.sixes, (LAST, LOW)), (tilings.points_of, (W, PUT)),
            (sixes.high_triples, (LAST, sixes.laying_high(LAST, ((0, 1, 2),)))), (tilings.orders_within, (W, PUT)),
            (shapes.shapes_above, ((2, 1),)), (shapes.shapes_with, (4,)), (numbered.table_falls, (ONE,)),
            (numbered.numbered_tables, ((2, 1),)), (inserted.orders_with_left, (ONE,)), (rowtables.left_tables, (W,)),
        ))
