"""Wrong inputs of tables led on, of the weak and the strong order, and of pipes."""

from tests.sweeps import FREE, MANY, ORDER, Sweep
from tests.test_pipes import every_pipes, ladders_of
from tests.values import is_among, is_int, right_least_row, right_table
from wiredorders import (
    errors, ladders, pipes, slides, strongly, strongsums, strongways, weakly, weakways,
)

M, W, U, LAST = (3, 0, 4, 1, 2), (2, 0, 1), (1, 2, 0), (2, 1, 0)
ONE = ((0, 1), (2,))

NUMBERED = (errors.InvalidTable, lambda args, value: right_table(value))
# Orders of other numbers of things are unlike then; these are not swept.
BOTH = (ORDER, ORDER)
PIPES = (errors.InvalidPipes, lambda args, value: is_among(value, 2, every_pipes(args[0])))
PIPE = (errors.InvalidPlace, lambda args, value: is_int(value, 0, args[0] - 1))
LADDER = (errors.InvalidLadder, lambda args, value: is_among(value, 2, ladders_of(args[0], args[1])))
LADDER_DOWN = (errors.InvalidLadder, lambda args, value: is_among(value, 2, [((1, 0), (0, 1))]))

TABLE = [
    (slides.led_table, (ONE,), (NUMBERED,)),
    (slides.led_back, (ONE,), (NUMBERED,)),
    (slides.table_over, (ONE,), (NUMBERED,)),
    (slides.rest_of, (ONE, 2), (NUMBERED, (errors.InvalidNumber, lambda args, value: is_int(value, 0, 3)))),
    (slides.rest_of, ((), 0), (NUMBERED, (errors.InvalidNumber, lambda args, value: is_int(value, 0, 0)))),
    (slides.steps_round, (ONE,), (NUMBERED,)),
    (weakly.is_weakly_below, (W, U), BOTH),
    (weakly.weak_paper, (W, U), BOTH),
    (weakly.weak_meet, (W, U), BOTH),
    (weakly.weak_join, (W, U), BOTH),
    (weakly.weak_steps, (M,), (ORDER,)),
    (weakways.weak_way, (W, LAST), BOTH),
    (weakways.weakly_between, (W, LAST), BOTH),
    (weakways.count_weak_ways, (W, LAST), BOTH),
    (weakways.count_weakly_below, (M,), (ORDER,)),
    (weakways.weak_signed, (W, LAST), BOTH),
    (strongly.is_strongly_below, (W, U), BOTH),
    (strongly.strong_paper, (W, U), BOTH),
    (strongly.strong_steps, (M,), (ORDER,)),
    (strongly.strong_drops, (M,), (ORDER,)),
    (strongly.part_of_row, (W, (0, 1)),
     (ORDER, (errors.InvalidRow, lambda args, value: right_least_row(len(args[0]), value)))),
    (strongly.part_of_row, ((0,), ()),
     (ORDER, (errors.InvalidRow, lambda args, value: right_least_row(len(args[0]), value)))),
    (strongways.strong_way, (W, LAST), BOTH),
    (strongways.strongly_between, (W, LAST), BOTH),
    (strongways.count_strong_ways, (W, LAST), BOTH),
    (strongways.least_above, (W, LAST), BOTH),
    (strongways.strong_signed, (W, LAST), BOTH),
    (strongsums.is_smooth, (M,), (ORDER,)),
    (strongsums.sizes_below, (M,), (ORDER,)),
    (strongsums.step_polynomial, (W, LAST), BOTH),
    (pipes.are_pipes, (3, ()), (MANY, FREE)),
    (pipes.pipes_row, (3, ((0, 0), (0, 1))), (MANY, PIPES)),
    (pipes.pipes_order, (3, ((0, 0), (0, 1))), (MANY, PIPES)),
    (pipes.pipes_order, (1, ()), (MANY, PIPES)),
    (pipes.pipe_tiles, (4, ((0, 0),)), (MANY, PIPES)),
    (pipes.pipes_crossed, (3, ((0, 0), (0, 1)), 0, 2), (MANY, PIPES, PIPE, PIPE)),
    (pipes.all_pipes, (M,), (ORDER,)),
    (pipes.count_pipes, (M,), (ORDER,)),
    (pipes.low_pipes, (M,), (ORDER,)),
    (pipes.high_pipes, (M,), (ORDER,)),
    (ladders.ladders, (3, ((1, 0),)), (MANY, PIPES)),
    (ladders.climbed, (3, ((1, 0),), ((1, 0), (0, 1))), (MANY, PIPES, LADDER)),
    (ladders.ladders_down, (3, ((0, 1),)), (MANY, PIPES)),
    (ladders.climbed_down, (3, ((0, 1),), ((1, 0), (0, 1))), (MANY, PIPES, LADDER_DOWN)),
    (ladders.ladder_way, (3, ((0, 1),)), (MANY, PIPES)),
]

UNLIKE = (
    weakly.is_weakly_below, weakly.weak_paper, weakly.weak_meet, weakly.weak_join, weakways.weak_way,
    weakways.weakly_between, weakways.count_weak_ways, weakways.weak_signed, strongly.is_strongly_below,
    strongly.strong_paper, strongways.strong_way, strongways.strongly_between, strongways.count_strong_ways,
    strongways.least_above, strongways.strong_signed, strongsums.step_polynomial,
)


class Wrong(Sweep):
    def test_each_argument(self):
        self.sweep_arguments(TABLE)

    def test_from_left_to_right(self):
        self.sweep_from_left(TABLE)

    def test_unlike(self):
        long = tuple(range(30))
        for function in UNLIKE:
            for args in ((W, (0,)), ((1, 0), W), (long, long[:29]), (M, long), (long[:7], long[:6])):
                self.check_error(errors.Unlike, function, args, "unlike")
            self.check_error(errors.InvalidOrder, function, (W, (0, 0)), "behind both")
            self.check_error(errors.InvalidOrder, function, ((2,), W), "behind both")

    def test_alone(self):
        check = self.check_error
        check(errors.InvalidPlace, pipes.pipes_crossed, (3, ((0, 0), (0, 1)), 1, 1), "the same row")
        check(errors.InvalidPlace, pipes.pipes_crossed, (1, (), 0, 0), "the same row")
        check(errors.InvalidPlace, pipes.pipes_crossed, (3, (), 0, 3), "no row")
        check(errors.InvalidPipes, pipes.pipes_row, (3, ((0, 1), (1, 0))), "not least")
        check(errors.InvalidPipes, pipes.pipes_row, (3, ((0, 2),)), "beyond the tiles")
        check(errors.InvalidPipes, pipes.pipes_row, (3, ((0, 1), (0, 0))), "not ascending")
        check(errors.InvalidLadder, ladders.climbed, (5, ((0, 0), (0, 1), (0, 2), (1, 1), (1, 2)), ((2, 0), (1, 1))), "none")
        check(errors.InvalidLadder, ladders.climbed_down, (3, ((1, 0),), ((1, 0), (0, 1))), "a ladder up")
        check(errors.InvalidLadder, ladders.climbed, (3, ((0, 1),), ((1, 0), (0, 1))), "a ladder down")
        check(errors.InvalidNumber, slides.rest_of, (ONE, 4), "one too many")
        check(errors.InvalidRow, strongly.part_of_row, (W, (0, 1, 0, 1)), "not least")
        check(errors.InvalidRow, strongly.part_of_row, (W, (2,)), "of more things")
        check(errors.InvalidRow, strongly.part_of_row, ((0,), (0,)), "of one thing")

    def test_returned_lists_are_new(self):
        self.check_new_lists((
            (weakly.weak_steps, (W,)), (weakways.weakly_between, (W, LAST)), (strongly.strong_steps, (W,)),
            (strongly.strong_drops, (W,)), (strongways.strongly_between, (W, LAST)), (strongways.least_above, (W, U)),
            (pipes.all_pipes, (W,)), (ladders.ladders, (3, ((1, 0),))), (ladders.ladders_down, (3, ((0, 1),))),
        ))
