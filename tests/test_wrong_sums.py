"""Wrong inputs of sums, climbs, vexing orders, nets, stacks and words for counts."""

from tests.sweeps import FREE, LEAST_ROW, MANY, ORDER, ROW, Sweep
from tests.test_nets import X, Y
from tests.test_pipes import every_pipes
from tests.test_sums import every_climb, has_four
from tests.values import are_ints, is_among, is_int, right_net, right_sum
from wiredorders import climbs, countwords, errors, nearnets, nets, pipeproducts, pipesums, stacks, vexing

M, W, V = (3, 0, 4, 1, 2), (2, 0, 1), (1, 0, 3, 2)
B = (((0, 1, 0), 1), ((1, 0, 0), 1))
WORDS = ("size", "falls", "weight", "rings", "tops", "stills", "overs")


def number_from(low, high):
    return (errors.InvalidNumber, lambda args, value: is_int(value, low, high))


def is_narrow(many, value):
    return right_sum(many, value) and all(power < many - at for powers, _ in value for at, power in enumerate(powers))


def is_near(many, value):
    return right_net(many, value) and all(high - low == 1 for low, high in value)


SUM = (errors.InvalidSum, lambda args, value: right_sum(args[0], value))
NARROW = (errors.InvalidSum, lambda args, value: is_narrow(args[0], value))
EXCHANGE = (errors.InvalidExchange, lambda args, value: is_int(value, 0, args[0] - 2))
VALUES = (errors.InvalidValues, lambda args, value: are_ints(value, -1000, 1000) and len(value) == args[0])
CLIMB = (errors.InvalidClimb, lambda args, value: is_among(value, 1, every_climb(args[1])))
PIPES = (errors.InvalidPipes, lambda args, value: is_among(value, 2, every_pipes(args[0])))
PLACE = (errors.InvalidPlace, lambda args, value: is_int(value, 0, len(args[0]) - 1))
NET = (errors.InvalidNet, lambda args, value: right_net(args[0], value))
NEAR = (errors.InvalidNet, lambda args, value: is_near(args[0], value))
ORDER_NET = (errors.InvalidNet, lambda args, value: right_net(len(args[0]), value))
MARKS = (errors.InvalidMarks, lambda args, value: are_ints(value, 0, 1) and len(value) == args[0])
WORD = (errors.InvalidWord, lambda args, value: type(value) is str and value in WORDS)

TABLE = [
    (pipesums.is_pipe_sum, (3, B), (MANY, FREE)),
    (pipesums.order_sum, (M,), (ORDER,)),
    (pipesums.sums_added, (3, B, ()), (MANY, SUM, SUM)),
    (pipesums.sums_multiplied, (3, (), B), (MANY, SUM, SUM)),
    (pipesums.stepped_down, (3, B, 1), (MANY, SUM, EXCHANGE)),
    (pipesums.stepped_down, (30, (), 28), (MANY, SUM, EXCHANGE)),
    (pipesums.sum_at, (3, B, (1, 0, -1000)), (MANY, SUM, VALUES)),
    (pipesums.sum_at, (1, (), (1000,)), (MANY, SUM, VALUES)),
    (climbs.is_climb, (3, (0, 1), (0, 1)), (MANY, LEAST_ROW, FREE)),
    (climbs.climbs, (3, (0, 1)), (MANY, LEAST_ROW)),
    (climbs.count_climbs, (3, (0, 1)), (MANY, LEAST_ROW)),
    (climbs.pipes_by, (3, (0, 1), (0, 1)), (MANY, LEAST_ROW, CLIMB)),
    (climbs.pipes_by, (4, (2, 0), (0, 0)), (MANY, LEAST_ROW, CLIMB)),
    (climbs.pipes_by, (1, (), ()), (MANY, LEAST_ROW, CLIMB)),
    (climbs.climb_of, (3, ((0, 0), (0, 1))), (MANY, PIPES)),
    (pipeproducts.orders_up, (M, 4), (ORDER, PLACE)),
    (pipeproducts.orders_up, ((0,), 0), (ORDER, PLACE)),
    (pipeproducts.fall_step, (M,), (ORDER,)),
    (pipeproducts.in_orders, (3, B), (MANY, NARROW)),
    (pipeproducts.in_orders, (1, ()), (MANY, NARROW)),
    (vexing.is_vexing, (M,), (ORDER,)),
    (vexing.has_one, (M,), (ORDER,)),
    (vexing.vexing_shape, (M,), (ORDER,)),
    (vexing.vexing_flags, (M,), (ORDER,)),
    (vexing.vexing_count, (M,), (ORDER,)),
    (nets.is_net, (3, Y), (MANY, FREE)),
    (nets.sorted_by, (W, Y), (ORDER, ORDER_NET)),
    (nets.sorted_by, ((0,), ()), (ORDER, ORDER_NET)),
    (nets.marks_by, (3, Y, (0, 1, 1)), (MANY, NET, MARKS)),
    (nets.marks_by, (4, X, (0, 1, 0, 1)), (MANY, NET, MARKS)),
    (nets.layers_of, (3, Y), (MANY, NET)),
    (nets.is_sorter, (3, Y), (MANY, NET)),
    (nets.unsorted_marks, (3, Y), (MANY, NET)),
    (nets.first_unsorted, (3, Y), (MANY, NET)),
    (nets.idle_comparers, (3, Y), (MANY, NET)),
    (nets.without_idle, (3, Y), (MANY, NET)),
    (nets.first_parted, (3, Y, ()), (MANY, NET, NET)),
    (nearnets.is_near, (3, Y), (MANY, FREE)),
    (nearnets.near_net, (3, (0, 1)), (MANY, ROW)),
    (nearnets.kept_row, (3, (0, 1)), (MANY, ROW)),
    (nearnets.near_more, (3, Y), (MANY, NEAR)),
    (nearnets.near_rest, (3, Y), (MANY, NEAR)),
    (nearnets.fewest_more, (3, Y), (MANY, NET)),
    (nearnets.more_for, (3, Y), (MANY, NET)),
    (stacks.stack_moves, (M,), (ORDER,)),
    (stacks.stack_bar, (M,), (ORDER,)),
    (stacks.is_stack_bar, (M, (0, 2, 3)), (ORDER, FREE)),
    (stacks.stack_pass, (M,), (ORDER,)),
    (stacks.stack_passes, (M,), (ORDER,)),
    (stacks.bubble_pass, (M,), (ORDER,)),
    (stacks.bubble_passes, (M,), (ORDER,)),
    (stacks.lines_needed, (M,), (ORDER,)),
    (stacks.lines_way, (M,), (ORDER,)),
    (stacks.falling_places, (M,), (ORDER,)),
    (stacks.is_lines_way, (M, ()), (ORDER, FREE)),
    (stacks.stacks_needed, (M,), (ORDER,)),
    (stacks.stacks_way, (M, 2), (ORDER, number_from(1, 9))),
    (stacks.is_stacks_way, (M, ()), (ORDER, FREE)),
    (stacks.count_stacked, (5,), (MANY,)),
    (stacks.count_lined, (5, 2), (MANY, number_from(1, 30))),
    (stacks.count_bubbled, (5, 2), (MANY, number_from(0, 30))),
    (countwords.word_number, ("size", M), (WORD, ORDER)),
    (countwords.spread, ("falls", 5), (WORD, MANY)),
    (countwords.signed_spread, ("stills", 5), (WORD, MANY)),
    (countwords.both_spread, ("overs", "tops", 4), (WORD, WORD, MANY)),
]


class Wrong(Sweep):
    def test_each_argument(self):
        self.sweep_arguments(TABLE)

    def test_from_left_to_right(self):
        self.sweep_from_left(TABLE)

    def test_no_fall_and_not_vexing(self):
        for order in ((0,), (0, 1), tuple(range(30))):
            self.check_error(errors.NoFall, pipeproducts.fall_step, (order,), "no fall")
        for order in (V, (1, 0) + tuple(range(2, 28)) + (29, 28), (0, 2, 1, 4, 3)):
            self.assertTrue(has_four(order))
            for function in (vexing.vexing_shape, vexing.vexing_flags, vexing.vexing_count):
                self.check_error(errors.NotVexing, function, (order,), "not vexing")

    def test_alone(self):
        check = self.check_error
        for value in ((((1, 0, 0), 1), ((0, 1, 0), 1)), (((0, 0), 1),), (((0, 0, 0), 0),), (((0, 0, 61), 1),)):
            check(errors.InvalidSum, pipesums.sums_added, (3, value, value), "no sum")
            check(errors.InvalidSum, pipeproducts.in_orders, (3, value), "no sum")
        for powers in ((3, 0, 0), (0, 2, 0), (0, 0, 1), (2, 1, 1)):
            check(errors.InvalidSum, pipeproducts.in_orders, (3, ((powers, 1),)), "not narrow")
        check(errors.InvalidSum, pipeproducts.in_orders, (8, (((8,) + (0,) * 7, 1),)), "not narrow")
        check(errors.InvalidExchange, pipesums.stepped_down, (1, (), 0), "one thing")
        check(errors.InvalidExchange, pipesums.stepped_down, (3, B, 2), "one beyond")
        for values in ((1001, 0, 0), (0, -1001, 0), (0, 0), (0, 0, 0, 0), [0, 0, 0], (0, 0, True)):
            check(errors.InvalidValues, pipesums.sum_at, (3, B, values), "no values")
        check(errors.InvalidRow, climbs.climbs, (3, (0, 0)), "not least")
        check(errors.InvalidRow, climbs.count_climbs, (3, (0, 1, 0, 1)), "not least")
        check(errors.InvalidClimb, climbs.pipes_by, (4, (0, 2), (0, 0)), "not rising")
        check(errors.InvalidClimb, climbs.pipes_by, (4, (0, 2), (1, 2)), "beyond the exchange")
        check(errors.InvalidPipes, climbs.climb_of, (3, ((0, 1), (1, 0))), "not least")
        check(errors.InvalidPlace, pipeproducts.orders_up, (M, 5), "no place")
        check(errors.InvalidNet, nearnets.near_more, (4, X), "not near")
        check(errors.InvalidNet, nearnets.near_rest, (3, ((0, 2),)), "not near")
        check(errors.InvalidNet, nets.is_sorter, (3, X), "of more things")
        check(errors.InvalidMarks, nets.marks_by, (3, Y, (0, 1)), "too few")
        check(errors.InvalidMarks, nets.marks_by, (3, Y, (0, 1, 2)), "no mark")
        check(errors.InvalidNumber, stacks.stacks_way, (M, 0), "no stack")
        check(errors.InvalidNumber, stacks.stacks_way, (M, 10), "too many")
        check(errors.InvalidNumber, stacks.count_lined, (3, 0), "no line")
        check(errors.InvalidNumber, stacks.count_bubbled, (3, -1), "below 0")
        for word in ("Size", "size ", "", "sizes", None, ["size"], ("size",)):
            check(errors.InvalidWord, countwords.spread, (word, 3), "no word")

    def test_returned_lists_are_new(self):
        self.check_new_lists((
            (climbs.climbs, (4, (0, 2))), (pipeproducts.orders_up, ((1, 0), 1)), (pipeproducts.in_orders, (3, B)),
            (nets.layers_of, (4, X)), (nets.unsorted_marks, (4, X[:4])), (nets.idle_comparers, (3, ((0, 1), (0, 1)))),
        ))
