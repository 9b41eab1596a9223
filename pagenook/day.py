"""A day of deeds: their answers, and the texts and pointers behind them."""

from pagenook.errors import Refusal
from pagenook.nook import Nook


def do_deed(nook, deed):
    kind = deed[0]
    if kind == "write":
        return nook.write_page(deed[1], deed[2])
    if kind == "rename":
        return nook.rename_page(deed[1], deed[2])
    if kind == "join":
        return nook.join_pages(deed[1], deed[2])
    if kind == "cut":
        return nook.cut_page(deed[1], deed[2], deed[3])
    if kind == "drop":
        return nook.drop_page(deed[1])
    if kind == "text":
        return nook.text_of(deed[1])
    if kind == "back":
        return nook.back_from(deed[1])
    return nook.find_pages(deed[1], deed[2])


def answer_deed(nook, deed):
    try:
        return do_deed(nook, deed)
    except Refusal as refusal:
        return refusal.answer


def answer_all(nook, deeds):
    return [answer_deed(nook, deed) for deed in deeds]


def nook_behind(deeds):
    nook = Nook()
    answer_all(nook, deeds)
    return nook


def answers(deeds):
    return answer_all(Nook(), deeds)


def texts(deeds):
    return nook_behind(deeds).all_texts()


def pointers(deeds):
    return nook_behind(deeds).all_pointers()
