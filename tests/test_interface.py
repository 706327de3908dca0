"""The names and arguments of the interface, each defined in its own file."""

import importlib
import inspect
import unittest

INTERFACE = {
    "orders": """is_order(value) plain_order(many) last_order(many) opposite(order) led(one,other) turned_about(order)
        turned_over(order) swapped(order,exchange) renamed(order,exchange) is_row(many,value) order_behind(many,row)
        led_on(order,row)""",
    "overtakings": """overtakings(order) size_of(order) falls(order) are_overtakings(many,value) order_by(many,pairs)
        is_least_row(many,row) some_row(order)""",
    "codes": """code(order) is_code(value) order_with_code(value) number_of(order) order_with(many,number)
        orders(many)""",
    "rings": """rings(order) sign(order) period(order) power(order,number) order_with_rings(many,value)""",
    "blocks": """gaps(order) blocks(order) side_by_side(one,other) counts_table(order)""",
    "leastrows": """row_begins(order) first_row(order) last_row(order) count_rows(order) row_with(order,number)
        row_number_of(order,row) rows_of(order)""",
    "rowmoves": """row_moves(many,row) row_moved(many,row,move) is_move_way(many,row,other_row,value)
        move_way(many,row,other_row) fewest_moves(many,row,other_row) fewest_near(many,row,other_row)""",
    "rowlots": """lot_form(many,row) same_lot(many,row,other_row) lot_size(many,row) rounds_of(many,row)
        lot_forms(order) count_lots(order)""",
    "rowsteps": """row_overtakings(many,row) are_row_overtakings(many,value) row_by_overtakings(many,pairs)
        waste(many,row) kept_steps(many,row) is_kept(many,row,value) goes_for(many,row,exchange)
        pushed_order(order,row)""",
    "drawings": """is_drawing(value) drawn(many,row) row_drawn(drawing) order_drawn(drawing) is_least_drawing(drawing)
        turned_drawing(drawing) over_drawing(drawing) rows_drawn(drawing) count_rows_drawn(drawing)""",
    "crossings": """crossings(drawing) wires_at(drawing,crossing) course(drawing,wire)
        drawing_by_courses(many,value)""",
    "fields": """fields(drawing) field_corners(drawing,crossing) triangles(drawing) triangle_turned(drawing,crossing)
        least_drawings(order) turnings_to(least,aim)""",
    "triples": """triples_of(order) late_triples(least) drawing_late(order,lot) triple_bar(order,lot)
        is_triple_bar(order,lot,value)""",
    "paths": """count_edges(drawing,height) paths(drawing) count_paths(drawing) with_path(drawing,path)
        path_parted(drawing)""",
    "roads": """road_of(order) is_road(value) order_of_road(value) squares_on(order) squares_under(order)""",
}


class Interface(unittest.TestCase):
    def test_all(self):
        for name, told in INTERFACE.items():
            module = importlib.import_module(f"wiredorders.{name}")
            for each in told.split():
                function, _, arguments = each.rstrip(")").partition("(")
                found = getattr(module, function)
                self.assertTrue(inspect.isfunction(found), each)
                self.assertEqual(found.__module__, f"wiredorders.{name}", each)
                self.assertEqual(list(inspect.signature(found).parameters), arguments.split(","), each)
