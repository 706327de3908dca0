"""Sweeps of wrong inputs: each argument any value, and the first error from left to right."""

import itertools
import unittest

from tests.values import ANY, is_int, right_least_row, right_order, right_row
from wiredorders import errors

# Kinds of arguments: the error for any other value, and whether any value is right beside the arguments told.
MANY = (errors.InvalidMany, lambda args, value: is_int(value, 1, 30))
ORDER = (errors.InvalidOrder, lambda args, value: right_order(value))
ROW = (errors.InvalidRow, lambda args, value: right_row(args[0], value))
LEAST_ROW = (errors.InvalidRow, lambda args, value: right_least_row(args[0], value))
FREE = (None, lambda args, value: True)


class Sweep(unittest.TestCase):
    def check_error(self, error, function, args, place):
        try:
            function(*args)
        except errors.OrderError as caught:
            # The value itself is not shown: written out, some would have no end.
            self.assertIs(caught.__class__, error, f"{function.__name__}, {place}")
        else:
            self.fail(f"{function.__name__}, {place}: no error")

    def wrong_at(self, args, right):
        return [index for index, value in enumerate(ANY) if not right(args, value)]

    def sweep_arguments(self, table):
        for function, args, kinds in table:
            function(*args)
            for at, (error, right) in enumerate(kinds):
                for index in self.wrong_at(args, right):
                    others = args[:at] + (ANY[index],) + args[at + 1:]
                    self.check_error(error, function, others, f"argument {at}, value {index}")

    def sweep_from_left(self, table):
        for function, args, kinds in table:
            for at, after in itertools.combinations(range(len(kinds)), 2):
                wrong, also = self.wrong_at(args, kinds[at][1]), self.wrong_at(args, kinds[after][1])
                for one, other in list(zip(wrong, also)) + [(wrong[0], also[-1])] if also else []:
                    both = args[:at] + (ANY[one],) + args[at + 1:after] + (ANY[other],) + args[after + 1:]
                    self.check_error(kinds[at][0], function, both, f"values {one} and {other}")

    def check_told(self, function, right):
        """A function that takes any value, and tells whether it is right, against a plain rule."""
        for index, value in enumerate(ANY):
            self.assertIs(function(value), right(value), f"value {index}")

    def check_new_lists(self, calls):
        for function, args in calls:
            first = function(*args)
            self.assertIs(type(first), list)
            kept = list(first)
            first.clear()
            self.assertEqual(function(*args), kept)
            self.assertNotEqual(kept, [])
