"""The names and arguments of the interface, each defined in its own file."""

import importlib
import inspect
import pathlib
import unittest

PACKAGE = pathlib.Path(__file__).parent.parent / "wiredorders"

INTERFACE = {
    "orders": """is_order(value) plain_order(many) last_order(many) opposite(order) led(one,other) turned_about(order)
        turned_over(order) swapped(order,exchange) renamed(order,exchange) is_row(many,value) order_behind(many,row)
        led_on(order,row)""",
    "overtakings": """overtakings(order) size_of(order) falls(order) are_overtakings(many,value) order_by(many,pairs)
        is_least_row(many,row) some_row(order)""",
    "codes": """code(order) is_code(value) order_with_code(value) number_of(order) order_with(many,number)
        orders(many)""",
    "rings": """rings(order) sign(order) period(order) power(order,number) order_with_rings(many,value)""",
    "blocks": """gaps(order) blocks(order) side_by_side(one,other) counts_table(order)""",
    "leastrows": """row_begins(order) first_row(order) last_row(order) count_rows(order) row_with(order,number)
        row_number_of(order,row) rows_of(order)""",
    "rowmoves": """row_moves(many,row) row_moved(many,row,move) is_move_way(many,row,other_row,value)
        move_way(many,row,other_row) fewest_moves(many,row,other_row) fewest_near(many,row,other_row)""",
    "rowlots": """lot_form(many,row) same_lot(many,row,other_row) lot_size(many,row) rounds_of(many,row)
        lot_forms(order) count_lots(order)""",
    "rowsteps": """row_overtakings(many,row) are_row_overtakings(many,value) row_by_overtakings(many,pairs)
        waste(many,row) kept_steps(many,row) is_kept(many,row,value) goes_for(many,row,exchange)
        pushed_order(order,row)""",
    "drawings": """is_drawing(value) drawn(many,row) row_drawn(drawing) order_drawn(drawing) is_least_drawing(drawing)
        turned_drawing(drawing) over_drawing(drawing) rows_drawn(drawing) count_rows_drawn(drawing)""",
    "crossings": """crossings(drawing) wires_at(drawing,crossing) course(drawing,wire)
        drawing_by_courses(many,value)""",
    "fields": """fields(drawing) field_corners(drawing,crossing) triangles(drawing) triangle_turned(drawing,crossing)
        least_drawings(order) turnings_to(least,aim)""",
    "triples": """triples_of(order) late_triples(least) drawing_late(order,lot) triple_bar(order,lot)
        is_triple_bar(order,lot,value)""",
    "paths": """count_edges(drawing,height) paths(drawing) count_paths(drawing) with_path(drawing,path)
        path_parted(drawing)""",
    "roads": """road_of(order) is_road(value) order_of_road(value) squares_on(order) squares_under(order)""",
    "layings": """laying_of_row(many,row) is_laying(order,value) layings(order) count_layings(order)
        first_row_of(order,laying) count_rows_of(order,laying) comes_behind(order,laying,square,other)""",
    "sixes": """sixes(order,laying) six_turned(order,laying,six) high_triples(order,laying) laying_high(order,triples)
        turns_between(order,laying,other)""",
    "tilings": """points_of(order,laying) count_roads(order,laying) orders_within(order,laying)
        laying_mirrored(order,laying)""",
    "shapes": """is_shape(value) shape_turned(shape) hook_at(shape,cell) shapes_above(shape) shapes_with(size)
        count_shapes(size) stair(many)""",
    "numbered": """is_rising(value) is_numbered(value) table_turned(table) table_falls(table) count_numbered(shape)
        numbered_tables(shape) table_number(table) numbered_with(shape,number) count_by_falls(shape)""",
    "inserted": """put_thing(table,thing) tables_of(order) order_of(left,right) orders_with_left(left)""",
    "rowtables": """tables_of_row(many,row) is_left(many,value) order_with_left(many,left) row_of(many,left,right)
        left_tables(order) stair_row(many,table) row_on(many,row)""",
    "lots": """are_rising(order,value) are_falling(order,value) most_rising(order,lots) most_falling(order,lots)
        rising_lots(order,lots) longest_rising(order) count_longest(order)""",
    "slides": """led_table(table) led_back(table) table_over(table) rest_of(table,number) steps_round(table)""",
    "weakly": """is_weakly_below(one,other) weak_paper(one,other) weak_meet(one,other) weak_join(one,other)
        weak_steps(order)""",
    "weakways": """weak_way(one,other) weakly_between(one,other) count_weak_ways(one,other) count_weakly_below(order)
        weak_signed(one,other)""",
    "strongly": """is_strongly_below(one,other) strong_paper(one,other) strong_steps(order) strong_drops(order)
        part_of_row(one,row)""",
    "strongways": """strong_way(one,other) strongly_between(one,other) count_strong_ways(one,other)
        least_above(one,other) strong_signed(one,other)""",
    "strongsums": """is_smooth(order) sizes_below(order) step_polynomial(one,other)""",
    "pipes": """are_pipes(many,value) pipes_row(many,pipes) pipes_order(many,pipes) pipe_tiles(many,pipes)
        pipes_crossed(many,pipes,one_row,other_row) all_pipes(order) count_pipes(order) low_pipes(order)
        high_pipes(order)""",
    "ladders": """ladders(many,pipes) climbed(many,pipes,ladder) ladders_down(many,pipes)
        climbed_down(many,pipes,ladder) ladder_way(many,pipes)""",
    "pipesums": """is_pipe_sum(many,value) order_sum(order) sums_added(many,one_sum,other_sum)
        sums_multiplied(many,one_sum,other_sum) stepped_down(many,one_sum,exchange) sum_at(many,one_sum,values)""",
    "climbs": """is_climb(many,row,value) climbs(many,row) count_climbs(many,row) pipes_by(many,row,climb)
        climb_of(many,pipes)""",
    "pipeproducts": """orders_up(order,place) fall_step(order) in_orders(many,one_sum)""",
    "vexing": """is_vexing(order) has_one(order) vexing_shape(order) vexing_flags(order) vexing_count(order)""",
    "nets": """is_net(many,value) sorted_by(order,net) marks_by(many,net,marks) layers_of(many,net) is_sorter(many,net)
        unsorted_marks(many,net) first_unsorted(many,net) idle_comparers(many,net) without_idle(many,net)
        first_parted(many,one_net,other_net)""",
    "nearnets": """is_near(many,value) near_net(many,row) kept_row(many,row) near_more(many,net) near_rest(many,net)
        fewest_more(many,net) more_for(many,net)""",
    "stacks": """stack_moves(order) stack_bar(order) is_stack_bar(order,value) stack_pass(order) stack_passes(order)
        bubble_pass(order) bubble_passes(order) lines_needed(order) lines_way(order) falling_places(order)
        stacks_needed(order) stacks_way(order,number) is_stacks_way(order,value) is_lines_way(order,value)
        count_stacked(many) count_lined(many,number) count_bubbled(many,number)""",
    "countwords": """word_number(word,order) spread(word,many) signed_spread(word,many)
        both_spread(one_word,other_word,many)""",
    "countcarried": """weight_to_size(order) size_to_weight(order) rings_to_tops(order) tops_to_rings(order)""",
    "patterns": """spots(order,pattern) count_spots(order,pattern) has_pattern(order,pattern)
        orders_without(many,patterns) count_without(many,patterns)""",
    "bigcounts": """count_falls_at(many,places) count_sized(things,size) count_ringed(things,less)
        falls_rest(things,falls,modulus) unstill_rest(things,modulus)""",
    "spans": """are_shares(many,row,value) span(many,row,shares) span_at(many,row,shares,first,last)
        moved_far(many,row,shares,index) moved_near(many,row,shares,index) met_pairs(many,row)
        heights_of(many,row,thing)""",
    "lifestates": """is_state(value) is_step(value) is_script(value) stepped(state,step) all_stepped(state,script)
        step_back(state,step)""",
    "tellrows": """rows_told(order,facts) surely_ahead(order,facts,pair,other) fewest_items(order,row)""",
    "lifetexts": """order_text(order) row_text(many,row) shares_text(many,row,shares) script_text(script)
        read_order(text) read_row(many,text) read_shares(many,row,text) read_script(text)""",
}

# The classes of the interface: methods with their arguments, behind these properties.
CLASSES = {
    ("lifevalues", "Spanned"): (
        """__init__(self,many,row,shares) ones(many,row) __add__(self,other) __iadd__(self,other) __xor__(self,other)
        __invert__(self) __call__(self,first,last) __getitem__(self,index) __contains__(self,value) __len__(self)
        __bool__(self) __str__(self) same(self,other) __iter__(self) __eq__(self,other)""",
        "many row shares order",
    ),
    ("lifebenches", "Bench"): (
        """__init__(self,state) do(self,step) __iadd__(self,other) undo(self) redo(self) attempt(self,action)
        __getitem__(self,index) __contains__(self,value) __len__(self) __bool__(self) __iter__(self)
        __eq__(self,other) lines(self)""",
        "state row shares spot seat order here wire table log",
    ),
}


def parted(told):
    """Return the list of the pairs of a name and of the list of its arguments."""
    pairs = [each.rstrip(")").partition("(") for each in told.split()]
    return [(name, arguments.split(",")) for name, _, arguments in pairs]


class Interface(unittest.TestCase):
    def test_functions(self):
        for name, told in INTERFACE.items():
            module = importlib.import_module(f"wiredorders.{name}")
            for function, arguments in parted(told):
                found = getattr(module, function)
                self.assertTrue(inspect.isfunction(found), function)
                self.assertEqual(found.__module__, f"wiredorders.{name}", function)
                self.assertEqual(list(inspect.signature(found).parameters), arguments, function)

    def test_classes(self):
        for (name, told), (methods, properties) in CLASSES.items():
            owner = getattr(importlib.import_module(f"wiredorders.{name}"), told)
            self.assertTrue(inspect.isclass(owner))
            self.assertEqual(owner.__module__, f"wiredorders.{name}")
            for method, arguments in parted(methods):
                self.assertIn(method, vars(owner))
                self.assertEqual(list(inspect.signature(getattr(owner, method)).parameters), arguments, method)
            for each in properties.split():
                self.assertIsInstance(vars(owner)[each], property, each)
        self.assertIsInstance(vars(importlib.import_module("wiredorders.lifevalues").Spanned)["ones"], classmethod)
        self.assertEqual(vars(importlib.import_module("wiredorders.lifebenches").Bench)["MOST"], 60)

    def test_every_module(self):
        """All modules but what they share are of the interface, and README.md tells of all."""
        files = {path.stem for path in PACKAGE.glob("*.py")} - {"__init__"}
        self.assertEqual(files, set(INTERFACE) | {name for name, _ in CLASSES} | {"errors", "common"})
        readme = (PACKAGE.parent / "README.md").read_text()
        for name in files:
            self.assertIn(f"`{name}`", readme)
