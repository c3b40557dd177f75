"""Machines and books as texts."""

from actasone.usable import need_book, need_machine


def machine_text(machine):
    need_machine(machine)
    return "\n".join(machine_lines(machine))


def book_text(book):
    need_book(book)
    machine, trust, clocks, looking, waking = book
    lines = ["\n".join(machine_lines(machine))]
    lines.extend([house_line(house, lots, fears) for house, lots, fears in trust])
    lines.extend([f"gap {begin} {end} {gap}" for begin, end, gap in clocks])
    lines.extend([looking_line(rule) for rule in looking])
    lines.extend([f"waking {house} {many}" for house, many in waking])
    return "\n".join(lines)


def machine_lines(machine):
    letters, looks, moves, answers = machine
    lines = ["letters " + " ".join(letters), "looks " + " ".join(looks)]
    for row, told in zip(moves, answers):
        states = " ".join([str(state) for state in row])
        numbers = " ".join([str(number) for number in told])
        lines.append(f"state {states} : {numbers}")
    return lines


def house_line(house, lots, fears):
    lot_words = " ".join([set_word(lot) for lot in lots])
    fear_words = " ".join([set_word(fear) for fear in fears])
    return f"house {house} : {lot_words} : {fear_words}"


def looking_line(rule):
    house, looks, lot, end, promises = rule
    words = ["looking", house, set_word(looks), set_word(lot), str(end)]
    words.extend([f"{name}:{until}" for name, until in promises])
    return " ".join(words)


def set_word(names):
    return ",".join(names) if names else "-"
