"""The form of sheets."""

from treegarb.documents import is_name
from treegarb.errors import BadSelector, BadSheet
from treegarb.forms import is_rising, is_whole
from treegarb.selectors import check_list

VARIABLES = "v"
INHERIT = ("inherit",)
INITIAL = ("initial",)
GREATEST_NUMBER = 1000000
MOST_DECLARATIONS = 8
MOST_DEFAULTS = 10
MOST_RULES = 20


def is_variable(name):
    """Whether a property is a variable."""
    return name.startswith(VARIABLES)


def _is_word_or_number(value):
    """Whether the value is a word or a number, which give themselves."""
    if not isinstance(value, tuple) or len(value) != 2:
        return False
    sort, given = value
    if sort == "word":
        return is_name(given)
    return sort == "number" and is_whole(given) and -GREATEST_NUMBER <= given <= GREATEST_NUMBER


def _is_use(value):
    """Whether the value is that of a variable."""
    if not isinstance(value, tuple) or len(value) != 2:
        return False
    return value[0] == "use" and is_name(value[1]) and is_variable(value[1])


def _is_declaration(value, properties):
    """Whether the value is a declaration for a variable or one of the properties."""
    if not isinstance(value, tuple) or len(value) != 3:
        return False
    name, given, strong = value
    if not is_name(name) or not (is_variable(name) or name in properties):
        return False
    if not isinstance(strong, bool):
        return False
    return _is_word_or_number(given) or given in (INHERIT, INITIAL) or _is_use(given)


def _are_selectors(value):
    """Whether the value is a list of selectors that is not empty."""
    try:
        check_list(value)
    except BadSelector:
        return False
    return len(value) > 0


def _is_rule(value, properties):
    """Whether the value is a rule for variables and these properties."""
    if not isinstance(value, tuple) or len(value) != 2:
        return False
    selectors, declarations = value
    if not isinstance(declarations, tuple) or len(declarations) > MOST_DECLARATIONS:
        return False
    if not all([_is_declaration(declaration, properties) for declaration in declarations]):
        return False
    return _are_selectors(selectors)


def _is_default(value):
    """Whether the value is the default of a property."""
    if not isinstance(value, tuple) or len(value) != 3:
        return False
    name, inherited, given = value
    if not is_name(name) or is_variable(name):
        return False
    return isinstance(inherited, bool) and _is_word_or_number(given)


def _are_defaults(value):
    """Whether the value is an ascending tuple of at most 10 defaults."""
    if not isinstance(value, tuple) or len(value) > MOST_DEFAULTS:
        return False
    # Names only are compared: values of different kinds may have no order.
    return all([_is_default(default) for default in value]) and is_rising([default[0] for default in value])


def _is_sheet(value):
    """Whether the value is a sheet."""
    if not isinstance(value, tuple) or len(value) != 2:
        return False
    defaults, rules = value
    if not _are_defaults(defaults) or not isinstance(rules, tuple) or len(rules) > MOST_RULES:
        return False
    properties = [default[0] for default in defaults]
    return all([_is_rule(rule, properties) for rule in rules])


def check_sheet(value):
    """Return the value if it is a sheet, otherwise raise BadSheet."""
    if not _is_sheet(value):
        raise BadSheet()
    return value
