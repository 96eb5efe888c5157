"""The texts of settings and of states, and reading them."""

from lastheld.errors import InvalidText
from lastheld.rationals import integer_of_text, integer_text, is_integer_text, number_text, parse_number
from lastheld.settings import check_setting, is_setting
from lastheld.sheets import Sheet
from lastheld.spaces import Space
from lastheld.states import State


def parse_integer(text):
    """The integer with this decimal text."""
    if not is_integer_text(text):
        raise InvalidText(1)
    return integer_of_text(text)


def parse_unsigned(text):
    """The integer with this decimal text without a sign."""
    if text.startswith("-"):
        raise InvalidText(1)
    return parse_integer(text)


def setting_text(sheet, setting):
    """The text of a setting."""
    check_setting(sheet, setting)
    level, time, replica, field, value = setting
    return " ".join([integer_text(level), integer_text(time), replica, field, number_text(value)])


def parse_setting(sheet, text):
    """The setting with this text."""
    if not isinstance(text, str):
        raise InvalidText(0)
    words = text.split(" ")
    if len(words) != 5:
        raise InvalidText(1)
    level, time, replica, field, value = words
    setting = (parse_integer(level), parse_integer(time), replica, field, parse_number(value))
    if not is_setting(sheet, setting):
        raise InvalidText(1)
    return setting


def state_text(state):
    """The text of a state."""
    sheet = state.space().sheet()
    lines = [f"sheet {sheet}", f"clock {integer_text(state.clock)}"]
    lines.extend([f"equation {sheet.equation_text(row)}" for row in state.space().rows()])
    lines.extend([f"setting {setting_text(sheet, setting)}" for setting in state.held()])
    return "".join([line + "\n" for line in lines])


def words_behind(first, line):
    """The words behind the first word of a line, which must be this one."""
    if not line.startswith(first + " "):
        raise InvalidText(1)
    return line.removeprefix(first + " ")


def with_row(state, row):
    """The state with one more row, which must stand behind the others in normal form, and ahead of all settings."""
    longer = state.with_equation(row)
    if len(state) > 0 or longer.space().rows() != state.space().rows() + [row]:
        raise InvalidText(1)
    return longer


def with_weaker(state, setting):
    """The state with one more held setting, which must be weaker than the others, and not later than the clock."""
    longer = state.with_setting(setting)
    if longer.clock != state.clock or longer.held() != state.held() + [setting]:
        raise InvalidText(1)
    return longer


def with_line(state, at, line):
    """The state of all lines up to this one, from the state of the lines before it. at: the index of the line."""
    if at == 0:
        return State(Space(Sheet.read(words_behind("sheet", line))))
    if at == 1:
        return State(state.space(), clock=parse_unsigned(words_behind("clock", line)))
    sheet = state.space().sheet()
    if line.startswith("equation "):
        return with_row(state, sheet.parse_equation(words_behind("equation", line)))
    return with_weaker(state, parse_setting(sheet, words_behind("setting", line)))


def parse_state(text):
    """The state with this text."""
    if not isinstance(text, str):
        raise InvalidText(0)
    *lines, unended = text.split("\n")
    state = None
    for at, line in enumerate(lines):
        # Beyond the second line, all lines so far are the text of a state; so the first wrong one is to blame.
        try:
            state = with_line(state, at, line)
        except InvalidText:
            raise InvalidText(at + 1) from None
    if unended != "" or len(lines) < 2:
        raise InvalidText(len(lines) + 1)
    return state
