"""The calls. Each gives back one list of whole numbers: the number that is
answered, then each list that is told, with how many numbers it has ahead."""

from pagefiles.cells import cells_handed, cells_told, is_kind
from pagefiles.layout import head_numbers, page_bytes, right_cells

NOT_AS_TOLD = -1
NO_RIGHT_PAGE = -2
TOO_FEW = -4


def answer_with_list(number, numbers):
    return [number, len(numbers)] + numbers


def page(k, cells):
    if not is_kind(k):
        return [NOT_AS_TOLD]
    page_cells = cells_handed(k, cells)
    if page_cells is None:
        return [NOT_AS_TOLD]
    written = page_bytes(k, page_cells)
    return answer_with_list(len(written), written)


def judge(k, the_bytes):
    if not is_kind(k):
        return [NOT_AS_TOLD]
    return [0 if right_cells(k, the_bytes) is None else 1]


def look(k, the_bytes):
    if not is_kind(k):
        return [NOT_AS_TOLD]
    if right_cells(k, the_bytes) is None:
        return [NO_RIGHT_PAGE]
    return answer_with_list(0, head_numbers(the_bytes))


def read(k, start, n, the_bytes):
    if not is_kind(k):
        return [NOT_AS_TOLD]
    page_cells = right_cells(k, the_bytes)
    if page_cells is None:
        return [NO_RIGHT_PAGE]
    if start + n > len(page_cells):
        return [TOO_FEW]
    return answer_with_list(n, cells_told(k, page_cells[start:start + n]))
