"""Steps of descent: the graph that computes new parameters along the gradient of a loss."""

from tensorcompiler.drafts import Draft
from tensorcompiler.errors import FormError, RangeError
from tensorcompiler.gradients import made_gradient
from tensorcompiler.graphs import check_graph, input_places


def step_graph(graph, parameters, rate, low, high):
    """Return the graph of the new parameters and the loss."""
    domains = check_graph(graph)
    nodes, outs = graph
    places = input_places(nodes)
    if len(places) == 0 or len(outs) != 1 or domains[outs[0]][0] != ():
        raise FormError("a graph cannot be trained: it has no input, or its outputs are not a single number")
    _check_parameters(parameters, len(places))
    if rate < 1 or rate > 30 or low > high:
        raise RangeError("the rate is not from 1 to 30, or no number is allowed for parameters")
    for parameter in parameters:
        _, least, most = domains[places[parameter]]
        if low < least or high > most:
            raise RangeError("a number that is allowed for parameters is not in the interval of one of them")
    result = _made_step(graph, domains, parameters, rate, (low, high))
    check_graph(result)
    return result


def _check_parameters(parameters, many):
    """Raise RangeError unless the parameters are positions among that many inputs."""
    if len(parameters) == 0:
        raise RangeError("there are no parameters")
    before = -1
    for parameter in parameters:
        if parameter <= before or parameter >= many:
            raise RangeError("the parameters are not positions of inputs in ascending order")
        before = parameter


def _made_step(graph, domains, parameters, rate, ends):
    """Return the graph of one step without checking it."""
    nodes, outs = graph
    places = input_places(nodes)
    gradient_nodes, gradients = made_gradient(graph, 1, 1, domains)
    draft = Draft(gradient_nodes)
    # The weight of the loss stands behind the nodes of the graph.
    draft.nodes[len(nodes)] = ("const", (), ((), (1,)))
    found = []
    for parameter in parameters:
        far = draft.put("shift", (gradients[parameter],), (rate,))
        moved = draft.put("sub", (places[parameter], far), ())
        found.append(draft.put("clamp", (moved,), ends))
    return (tuple(draft.nodes), tuple(found) + outs)
