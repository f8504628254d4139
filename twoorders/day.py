"""A day: deeds done one after the other in a store that begins without rows."""

from twoorders.errors import Full, Missing, NoOrder, NotBegun, Taken
from twoorders.questions import rows_from, rows_of_text, rows_within, spot_of
from twoorders.store import Store

DONE = "done"
QUESTIONS = ("row", "within", "both", "from", "spot")


def answers(room, deeds):
    return answers_in(Store(room), deeds)


def both_orders(room, deeds):
    store = Store(room)
    answers_in(store, deeds)
    return (store.by_rank.rows(), store.by_text.rows())


def both_blocks(room, deeds):
    store = Store(room)
    answers_in(store, deeds)
    return (blocks_of(store.by_rank), blocks_of(store.by_text))


def blocks_of(order):
    return [list(block) for block in order.blocks]


def answers_in(store, deeds):
    found = []
    for deed in deeds:
        found.append(answer_of(store, deed))
    return found


def answer_of(store, deed):
    if deed[0] == "all":
        return all_or_none(store, deed[1])
    return answer_of_one(store, deed)


def all_or_none(store, changes):
    store.begin()
    for place in range(len(changes)):
        answer = answer_of_one(store, changes[place])
        if answer != DONE:
            store.break_off()
            return (place, answer)
    store.keep()
    return DONE


def answer_of_one(store, deed):
    try:
        if deed[0] in QUESTIONS:
            return answer_to_question(store, deed)
        do_change(store, deed)
        return DONE
    except Taken:
        return "taken"
    except Missing:
        return "missing"
    except Full:
        return "full"
    except NotBegun:
        return "not begun"
    except NoOrder:
        return "no order"


def do_change(store, deed):
    if deed[0] == "bring":
        store.bring(deed[1])
    elif deed[0] == "alter":
        store.alter(deed[1])
    elif deed[0] == "cut":
        store.cut(deed[1])
    elif deed[0] == "begin":
        store.begin()
    elif deed[0] == "keep":
        store.keep()
    elif deed[0] == "break":
        store.break_off()


def answer_to_question(store, deed):
    if deed[0] == "row":
        return store.row_of(deed[1])
    if deed[0] == "within":
        return rows_within(store, deed[1], deed[2], deed[3])
    if deed[0] == "both":
        return rows_of_text(store, deed[1], deed[2], deed[3])
    if deed[0] == "from":
        return rows_from(store, deed[1], deed[2], deed[3])
    return spot_of(store, deed[1], deed[2])
