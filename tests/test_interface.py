"""The interface: each name is defined in its file, with its arguments, and each method in its class."""

import ast
import pathlib
import unittest

PACKAGE = pathlib.Path(__file__).resolve().parent.parent / "rootward"

FUNCTIONS = {
    "labels": """is_label(value) is_name(value) is_asked(value) name_of(text) show_name(name) is_under(name,other)
        labels_ahead(name,other) common(one,other) compared(one,other) ordered(names) neighbours(names,name) size(name)
        first(names) labels_of(length) names_of(size) nth_label(index) label_index(label) label_but(labels)""",
    "records": """is_kind(value) is_record(value) is_data(kind,value) data_compared(kind,one,other) sets_of(records)
        records_of(sets) first_unlike(one,other) names_in(record) put_below(records,old,new)""",
    "zones": "faults(apex,records)",
    "answers": """source(zone,name) answer(zone,name,kind) answers(zone,name) chase(zone,name,kind) chase_end(zone,name,kind)
        chase_age(zone,name,kind) reply(zone,name,kind)""",
    "namesets": """every() nobody() just(names) below(name) under(name) join(one,other) meet(one,other) without(one,other)
        others(names) put_under(names,name) taken_from(names,name) with_label(names,label) first_in(names)
        first_apart(one,other) count(names,size) counts(names,most)""",
    "zonenames": """with_word(zone,kind,word) found_with(zone,kind,data) by_wild(zone,name) same_answers(zone,name,kind)
        counted(zone,kind,word,size) first_unlike(one,other) are_alike(one,other) needless(zone) lean(zone)""",
    "moves": """moves_of(zones) step(moves,name) chase(moves,name,most) ending(moves,name) judge_growth(moves,name,value)""",
    "allmoves": """endless(moves) in_rings(moves) growing(moves) coming_to(moves,goal) ending_in(moves,goal) first_endless(moves)
        longest(moves) longest_name(moves) first_apart(one,other) needless_moves(moves)""",
    "gaps": """gaps(zone) is_gap(value) shown(apex,gaps,name,kind) showing(zone,name,kind)
        judge_showing(apex,word,name,kind,value) clash(apex,gaps)""",
    "allgaps": """first_between(one,other) between(one,other,size) first_untold(zone,gaps,kind) told(zone,gaps,kind,size)
        fewest(zone,names,kind)""",
    "serials": """newer(one,other) further(serial,steps) newest(serials) fewest_steps(one,other,missed) steps(one,other,missed)
        judge_steps(one,other,missed,value)""",
    "changes": """is_change(value) applies(records,change) changed(records,change) changed_zone(zone,change)
        back(records,change)""",
    "allchanges": """apart(one,other) order_apart(one,other) judge_apart(one,other,value) judge_order(one,other,value) when(change)
        behind(one,other) idle(change) lean(change)""",
    "journals": """is_difference(value) difference(one,other) brought(zone,difference) turned_back(difference)
        put_together(differences) chain(journal,old,new) weight(journal,indexes) caught_up(zone,journal,new)
        is_cheaper(zone,journal,old)""",
    "zonetexts": "show_zone(zone) shortest_text(zone) shortest_size(zone)",
    "zonereads": "read_zone(text) read_names(text)",
    "messages": """is_message(value) question(number,name,kind,is_deep) replied(zone,message) records_of(message)
        told_of(message,name,kind)""",
    "wires": "plain_bytes(message) packed(message) packed_size(message) cut_to(message,size) spared(message)",
    "wirereads": "unpacked(code) is_packed(code) is_shortest(code) same_message(one,other)",
    "forests": "home(forest,name) parent(forest,apex) plain(forest,name,kind) homes(forest,name,kind) faults(forest)",
    "asking": "ask(forest,name,kind,*,up=None)",
    "reach": """reached(forest,*,up=None) findable(forest,name,kind,*,up=None) way_to(forest,apex,*,up=None)
        judge_way(forest,apex,value,*,up=None) block_of(forest,apex,*,up=None) judge_block(forest,apex,value,*,up=None)
        prices(forest,*,up=None) judge_prices(forest,value,*,up=None)""",
    "failures": """keeping(forest,apex) stopping(forest,apex) fewest_to_stop(forest,apex) safe_against(forest,apex,count)
        stop_tree(forest,apex) judge_stop_tree(forest,apex,count,value)""",
    "trust": """takeable(forest,bad) take_steps(forest,bad,apex) judge_take_steps(forest,bad,apex,value) sound(forest,bad,apex)
        least_takers(forest,apex) counts(forest,bad,telling) wrong_names(forest,bad,tellings,*,strict=True)""",
    "forwards": """route(books,node,name) origin_of(books,name) rings(books) first_ring(books,node) ranks(books,name)
        judge_ranks(books,value) unlike_routes(books,other_books,node)""",
    "views": """view_of(views,machine) idle_views(views) view_ranges(views) unlike_view(views,other_views)
        merged_views(views)""",
    "caches": "life(policy,age) clash(entry,other)",
    "cacheruns": """in_force(timeline,moment) staleness(timeline,moment,value) told(timeline,policy,schedule)
        may_tell(timeline,policy,moment) schedule_for(timeline,policy,moment,value) settled(timeline,policy)""",
    "stale": """told_silent(timeline,policy,grace,schedule,silence) longest_stale(timeline,policy,grace,until)
        stale_run(timeline,policy,grace,until) judge_stale_run(timeline,policy,grace,until,value)
        stale_bound(age,policy,grace) worst_timeline(age,policy,grace)""",
    "chains": """told_run(caches,timeline,run) greatest_stale(caches,node,age) stale_way(caches,node,age)
        worst_run(caches,node,age) stale_ranks(caches,age) judge_ranks(caches,age,value) settled_net(caches,node,age,change)""",
    "torn": """may_tell_whole(story,policy,name,moment) torn(story,policy,name,moment) first_torn(story,policy,name)
        least_wait(age,new_age,policy)""",
    "seconds": """told_second(history,lost,moment) askings(history,lost,until) longest_lag(timers,losses)
        longest_silence(timers,losses) longest_lag_in(history,losses,until) lag_plan(history,losses,until)
        success_moments(history,losses,until) longest_lag_noticed(timers,losses)""",
    "secondnets": """tells_until(seconds,run) longest_life(seconds,node) life_run(seconds,node) life_ring(seconds,node)
        judge_lives(seconds,value) moves_of(seconds,serial,stand) settled_stands(seconds,serial,stand)
        endless(seconds,serial,stand) judge_endless(seconds,serial,stand,value) comes_to_newest(seconds,serial,stand)""",
    "transfers": "pieces(load,size) zone_behind(zone,load)",
    "questions": "tries(search,name) unlike_tries(search,other_search) asked_for(search,forest,name,kind)",
    "worldruns": """played(world,script) same_answers(world,other_world,script) first_stale(world,script)
        age_limit(world)""",
    "worldtexts": "show_forest(forest) show_resolvers(resolvers) show_deeds(deeds)",
    "worldreads": "read_forest(text) read_resolvers(text) read_deeds(text)",
}

METHODS = {
    ("zones", "Zone"): """__init__(apex,records) __len__() __eq__(other) records() sets() set_at(name,kind) has(name) names()
        cuts() trees() wilds() nearest(name) with_records(records) without(records) with_serial(serial)""",
    ("namesets", "Names"): "__init__(rows) __len__() __eq__(other) rows() holds(name)",
    ("moves", "Moves"): "__init__(moves) __len__() __eq__(other) moves()",
    ("forests", "Forest"): "__init__(zones,serves,roots) __eq__(other) zone(apex) serves(machine)",
    ("caches", "Cache"): """__init__(policy) __eq__(other) put(moment,entry,rank) look(moment,name,kind) living(moment) drop(name)
        undo() twin()""",
    ("transfers", "Gathered"): "__init__() __len__() __eq__(other) take(piece) lacking() load() undo()",
    ("worlds", "World"): """__init__(forest,resolvers) __len__() __eq__(other) wait(count) change(zone) stop(machine)
        start_again(machine) ask(node,name,kind) undo() begin() keep() drop() twin() held(node) plainly(name,kind)""",
    ("desk", "Desk"): "__init__() execute(line)",
}

PROPERTIES = {
    ("zones", "Zone"): ["apex", "serial", "absent_age"], ("forests", "Forest"): ["zones", "machines", "roots"],
    ("caches", "Cache"): ["policy"], ("worlds", "World"): ["clock", "forest", "up", "deeds", "depth"]}


def told(function, skipped):
    """Return a function as the lists above tell it."""
    arguments = function.args
    plain = [one.arg for one in arguments.args][skipped:]
    if arguments.posonlyargs or arguments.vararg or arguments.kwarg or arguments.defaults:
        plain.append("something else")
    if arguments.kwonlyargs:
        plain.append("*")
    plain.extend([one.arg + "=" + ast.unparse(default) for one, default in zip(arguments.kwonlyargs, arguments.kw_defaults)])
    return function.name + "(" + ",".join(plain) + ")"


def body_of(word):
    return ast.parse((PACKAGE / (word + ".py")).read_text()).body


class InterfaceTest(unittest.TestCase):
    def test_functions(self):
        for word, functions in FUNCTIONS.items():
            found = [told(one, 0) for one in body_of(word) if isinstance(one, ast.FunctionDef)]
            for function in functions.split():
                self.assertIn(function, found)

    def test_methods_and_properties(self):
        for (word, name), methods in METHODS.items():
            body = [one for one in body_of(word) if isinstance(one, ast.ClassDef) and one.name == name][0].body
            defined = [one for one in body if isinstance(one, ast.FunctionDef)]
            plain = [told(one, 1) for one in defined if one.decorator_list == []]
            for method in methods.split():
                self.assertIn(method, plain)
            marked = [one for one in defined if one.decorator_list != []]
            self.assertTrue(all([one.decorator_list[0].id == "property" for one in marked]))
            self.assertEqual(PROPERTIES.get((word, name), []), [one.name for one in marked])

    def test_nothing_is_imported_into_its_file(self):
        for word, functions in FUNCTIONS.items():
            imported = [alias.name for one in body_of(word) if isinstance(one, ast.ImportFrom) for alias in one.names]
            own = [function.split("(")[0] for function in functions.split()]
            self.assertEqual([], [name for name in own if name in imported])
