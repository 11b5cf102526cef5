"""Journals: calls of a terminal that are done again."""

from quaybest.terminal import Terminal


def do_add_ship(terminal, arrival):
    """Call add_ship."""
    return terminal.add_ship(arrival)


def do_berth(terminal, ship):
    """Call berth."""
    return terminal.berth(ship)


def do_move_crane(terminal, crane, position):
    """Call move_crane."""
    return terminal.move_crane(crane, position)


def do_tick(terminal):
    """Call tick."""
    return terminal.tick()


def do_lift(terminal, ship, stack):
    """Call lift."""
    return terminal.lift(ship, stack)


def do_restow(terminal, ship, stack):
    """Call restow."""
    return terminal.restow(ship, stack)


def do_stow(terminal, ship, stack, code):
    """Call stow."""
    return terminal.stow(ship, stack, code)


def do_fill(terminal, ship, tank, amount):
    """Call fill."""
    return terminal.fill(ship, tank, amount)


def do_lash(terminal, ship, stack, rods):
    """Call lash."""
    return terminal.lash(ship, stack, rods)


def do_sail(terminal, ship):
    """Call sail."""
    return terminal.sail(ship)


def do_to_yard(terminal, code, slot):
    """Call to_yard."""
    return terminal.to_yard(code, slot)


def do_to_reefers(terminal, code):
    """Call to_reefers."""
    return terminal.to_reefers(code)


def do_plan_reefers(terminal):
    """Call plan_reefers."""
    return terminal.plan_reefers()


def do_next_hour(terminal):
    """Call next_hour."""
    return terminal.next_hour()


def do_book(terminal, start, stop):
    """Call book."""
    return terminal.book(start, stop)


def do_cancel(terminal, truck):
    """Call cancel."""
    return terminal.cancel(truck)


def do_receive(terminal, truck, box):
    """Call receive."""
    return terminal.receive(truck, box)


def do_release(terminal, truck, code):
    """Call release."""
    return terminal.release(truck, code)


def do_declare(terminal, message):
    """Call declare."""
    return terminal.declare(message)


def do_pay(terminal, code):
    """Call pay."""
    return terminal.pay(code)


def do_raise_bond(terminal, by):
    """Call raise_bond."""
    return terminal.raise_bond(by)


# What does the call of an entry, by the word with which it begins.
CALLS = {
    "add_ship": do_add_ship, "berth": do_berth, "move_crane": do_move_crane, "tick": do_tick, "lift": do_lift,
    "restow": do_restow, "stow": do_stow, "fill": do_fill, "lash": do_lash, "sail": do_sail, "to_yard": do_to_yard,
    "to_reefers": do_to_reefers, "plan_reefers": do_plan_reefers, "next_hour": do_next_hour, "book": do_book,
    "cancel": do_cancel, "receive": do_receive, "release": do_release, "declare": do_declare, "pay": do_pay,
    "raise_bond": do_raise_bond}


def perform(terminal, entry):
    """Do the call of an entry of a journal; return what it returns."""
    call = CALLS[entry[0]]
    arguments = entry[1:]
    return call(terminal, *arguments)


def rebuilt(setup, entries):
    """A new terminal on which the calls of entries were done."""
    terminal = Terminal(setup)
    for entry in entries:
        perform(terminal, entry)
    return terminal
