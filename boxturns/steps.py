"""The steps of a process, one at a time."""

from boxturns.operations import operated
from boxturns.pairs import NAME, NUMBER
from boxturns.patterns import with_kept
from boxturns.process import AT_END, AWAITS, CAME, ENDED_BY, RAISED, WORKS

WRONG = 101

# Where in what's written the part stands that is worked out first, or second.
FIRST_PART = {2: 1, 3: 2, 4: 1, 5: 1, 6: 2, 9: 1, 10: 2, 12: 1, 13: 1, 14: 1, 15: 1}
SECOND_PART = {2: 2, 3: 3, 9: 2}


def take_steps(world, process, most):
    taken = 0
    while taken < most and take_step(world, process):
        taken += 1
    return taken


# Gives back whether a step could be done.
def take_step(world, process):
    if process.has_ended():
        return False
    if process.mode == AWAITS:
        return go_on_awaiting(world, process)
    if process.mode == WORKS:
        work_out(world, process)
    elif process.mode == CAME:
        go_on_with_value(world, process)
    elif process.mode == RAISED:
        go_on_raised(world, process)
    return True


def work_out(world, process):
    node = process.node
    if node[0] == 0:
        process.come_to((NUMBER, node[1]))
    elif node[0] == 1:
        work_out_variable(process, node[1])
    elif node[0] == 11:
        process.come_to((NAME, process.number))
    elif node[0] == 7 or node[0] == 8:
        process.await_word(world.time)
    else:
        process.todo.append((node, process.variables, None))
        process.work_on(node[FIRST_PART[node[0]]], process.variables)


def work_out_variable(process, place):
    if place < len(process.variables):
        process.come_to(process.variables[place])
    else:
        go_wrong(process)


def go_wrong(process):
    process.fail_with((NUMBER, WRONG))


def go_on_awaiting(world, process):
    node = process.node
    if node[0] == 7:
        return take_word(world, process, ((node[1], node[2]), (node[3], node[4])))
    if take_word(world, process, ((node[2], node[3]),)):
        return True
    if world.time - process.since < node[1]:
        return False
    process.work_on(node[4], process.variables)
    return True


def take_word(world, process, choices):
    found = find_word(world, process, choices)
    if found is None:
        process.looked = len(process.box)
        return False
    process.box.pop(found[0])
    process.work_on(found[1], found[2])
    return True


def find_word(world, process, choices):
    for place in range(process.looked, len(process.box)):
        for choice in choices:
            variables = with_kept(world.pairs, choice[0], process.box[place], process.variables)
            if variables is not None:
                return (place, choice[1], variables)
    return None


def go_on_raised(world, process):
    if len(process.todo) == 0:
        world.end(process, ENDED_BY)
        return
    thing = process.todo.pop()
    if thing[0][0] == 14:
        process.work_on(thing[0][2], (process.value,) + thing[1])


def go_on_with_value(world, process):
    if len(process.todo) == 0:
        world.end(process, AT_END)
        return
    thing = process.todo.pop()
    node = thing[0]
    if node[0] in SECOND_PART and thing[2] is None:
        process.todo.append((node, thing[1], process.value))
        process.work_on(node[SECOND_PART[node[0]]], thing[1])
    else:
        DOING[node[0]](world, process, thing)


def do_both(world, process, thing):
    process.come_to(world.pairs.both(thing[2], process.value))


def do_operation(world, process, thing):
    outcome = operated(world.pairs, thing[0][1], thing[2], process.value)
    if outcome is None:
        go_wrong(process)
    else:
        process.come_to(outcome)


def do_let(world, process, thing):
    process.work_on(thing[0][2], (process.value,) + thing[1])


def do_choice(world, process, thing):
    node = thing[0]
    variables = with_kept(world.pairs, node[2], process.value, thing[1])
    if variables is None:
        process.work_on(node[4], thing[1])
    else:
        process.work_on(node[3], variables)


def do_call(world, process, thing):
    f = thing[0][1]
    if world.has_function(f):
        process.work_on(world.functions[f], (process.value,))
    else:
        go_wrong(process)


def do_send(world, process, thing):
    receiver = thing[2]
    if receiver[0] == NAME:
        world.send(process.number, receiver[1], process.value)
        process.come_to(process.value)
    else:
        go_wrong(process)


def do_start(world, process, thing):
    f = thing[0][1]
    if world.has_function(f):
        process.come_to(world.start_child(process, f, process.value))
    else:
        go_wrong(process)


def do_watch(world, process, thing):
    watched = process.value
    if watched[0] == NAME:
        world.send(process.number, watched[1], None)
        process.come_to(watched)
    else:
        go_wrong(process)


def do_raise(world, process, thing):
    process.fail_with(process.value)


def do_catch(world, process, thing):
    process.come_to(process.value)


def do_say(world, process, thing):
    process.said.append(process.value)
    process.come_to(process.value)


DOING = {2: do_both, 3: do_operation, 4: do_let, 5: do_choice, 6: do_call, 9: do_send, 10: do_start,
         12: do_watch, 13: do_raise, 14: do_catch, 15: do_say}
