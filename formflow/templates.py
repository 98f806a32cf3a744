"""Templates, which write responses as texts (p1 to p3)."""

from formflow.answers import YES, value_in
from formflow.errors import BadTemplate, BadText
from formflow.forms import section_of
from formflow.reading import parse_expression
from formflow.scopes import kind_at, scope_behind
from formflow.values import code_of
from formflow.working import environment_of

LONGEST_TEMPLATE = 400
EACH = "each "
IF = "if "


class Block:
    """A block of a template, as far as it has been read.

    place: that of its tag; head: what begins its node, ("if", expression) or
    ("each", section); scope: what its tags may read; nodes: what is in it.
    """

    def __init__(self, place, head, scope):
        self.place = place
        self.head = head
        self.scope = scope
        self.nodes = []


def check_template(form, template):
    """Raises BadTemplate if a text is no template of a right form."""
    _nodes_of(form, template)


def write(response, template):
    """The text that a template makes of a response; raises BadTemplate."""
    nodes = _nodes_of(response.form(), template)
    state = response.state()
    return _text_of(nodes, state, environment_of(state, None, ""))


def _pieces_of(template):
    """The pieces of a template, as (place, whether it is a tag, what stands in it)."""
    pieces = []
    at = 0
    while at < len(template):
        start = template.find("{", at)
        if start == at:
            close = template.find("}", at)
            if close < 0:
                raise BadTemplate(at, "no end of a tag")
            pieces.append((at, True, template[at + 1:close]))
            at = close + 1
        else:
            end = len(template) if start < 0 else start
            pieces.append((at, False, template[at:end]))
            at = end
    return pieces


def _nodes_of(form, template):
    """What a template is made of, in order: ("text", text), ("value", expression), and blocks with nodes.

    Blocks are ("if", expression, nodes) and ("each", section, nodes).
    """
    if len(template) > LONGEST_TEMPLATE:
        raise BadTemplate(0, "too long")
    # The innermost block is the last one; the first is the whole template.
    blocks = [Block(0, (), scope_behind(form, None))]
    for place, is_tag, told in _pieces_of(template):
        if not is_tag:
            blocks[-1].nodes.append(("text", told))
        elif told == "end":
            _close_block(blocks, place)
        elif told.startswith(EACH):
            blocks.append(_each_block(form, blocks[-1].scope, place, told[len(EACH):]))
        else:
            _read_expression_tag(blocks, place, told)
    if len(blocks) > 1:
        raise BadTemplate(blocks[-1].place, "open block")
    return tuple(blocks[0].nodes)


def _close_block(blocks, place):
    """Goes over the end of the innermost block."""
    if len(blocks) == 1:
        raise BadTemplate(place, "no block")
    block = blocks.pop()
    blocks[-1].nodes.append((*block.head, tuple(block.nodes)))


def _each_block(form, scope, place, name):
    """The block for the rows of a section; scope is what can be read around it."""
    section = section_of(form, name)
    # There is a row just within an each, whatever blocks are between.
    if section is None or section[2] == 0 or scope.has_row:
        raise BadTemplate(place, "no section")
    return Block(place, ("each", section), scope_behind(form, section))


def _read_expression_tag(blocks, place, told):
    """Reads a tag that writes a value, or that begins a block with an if."""
    scope = blocks[-1].scope
    expression = _expression_in(told)
    if expression is not None:
        _demand_kind(_can_be_written(scope, expression), place)
        blocks[-1].nodes.append(("value", expression))
        return
    test = _expression_in(told[len(IF):]) if told.startswith(IF) else None
    if test is None:
        raise BadTemplate(place, "no expression")
    _demand_kind(kind_at(scope, test) == "truth", place)
    blocks.append(Block(place, ("if", test), scope))


def _expression_in(text):
    """The expression that a text is, or None."""
    try:
        return parse_expression(text)
    except BadText:
        return None


def _can_be_written(scope, expression):
    """Whether an expression has a kind, or is a name alone, of any kind."""
    if expression[0] == "name":
        return expression[1] in scope.names
    return kind_at(scope, expression) is not None


def _demand_kind(fits, place):
    if not fits:
        raise BadTemplate(place, "kind")


def _text_of(nodes, state, environment):
    """The text of nodes in an environment."""
    texts = []
    for node in nodes:
        if node[0] == "text":
            texts.append(node[1])
        elif node[0] == "value":
            texts.append(_value_text(value_in(environment, node[1])))
        elif node[0] == "each":
            texts.extend([_text_of(node[2], state, environment_of(state, node[1], row))
                          for row in _rows_of(state, node[1][0])])
        elif value_in(environment, node[1]) == YES:
            texts.append(_text_of(node[2], state, environment))
    return "".join(texts)


def _rows_of(state, name):
    """The active rows of a section."""
    return [row for other, _, rows in state[0] if other == name for row in rows]


def _value_text(value):
    """A value as it is written for a reader; nothing for what is open."""
    if value is None:
        return ""
    if value[0] in ("truth", "number"):
        return code_of(value)
    return ",".join(value[1]) if value[0] == "options" else value[1]
