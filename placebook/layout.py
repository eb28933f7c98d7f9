"""The one rule by which members are laid out. Places and widths are in bits, sizes and alignments in bytes."""


def round_up(number, step):
    return (number + step - 1) // step * step


def member_place(record, alignment):
    if record.is_union:
        return 0
    return place_behind(record.used, alignment)


def place_behind(used, alignment):
    return round_up(used, 8 * alignment)


def bit_field_place(record, stretch_size, width):
    if record.is_union:
        return 0
    stretch = 8 * stretch_size
    # A width of 0 would always fit, but it stands for a way to the next stretch.
    if width > 0 and record.used % stretch + width <= stretch:
        return record.used
    return round_up(record.used, stretch)


def used_with(record, member):
    # A union's members all begin at 0, so the last one's end need not be the farthest.
    return max(record.used, member.place + member.width)


def record_size(used, alignment):
    return round_up(round_up(used, 8) // 8, alignment)
