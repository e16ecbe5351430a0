"""The checker of orders and proofs: it takes runs, papers and proofs by its own look at them.

The modules of this checker import the errors, the checker of tables and one another alone.
"""

from coheir.checkforms import demand_table
from coheir.checkpapers import does_explain
from coheir.checkprograms import demand_observation, demand_order, demand_program
from coheir.checkproofs import is_proof
from coheir.checkruns import seen_by_machine, seen_by_order


def order_led_to(program, moves, order):
    """Return the observation of the state to which a run of an order leads, or None."""
    demand_program(program)
    demand_order(order)
    return seen_by_order(program, moves, order)


def machine_led_to(table, program, moves):
    """Return the sight of a run of a machine, or None."""
    demand_table(table)
    demand_program(program)
    return seen_by_machine(table, program, moves)


def paper_explains(program, observation, paper, order):
    """Tell whether a paper explains an observation by an order."""
    demand_program(program)
    demand_observation(program, observation)
    demand_order(order)
    return does_explain(program, observation, paper, order)


def both_show(program, observation, moves, paper, order):
    """Tell whether a run and a paper show an observation by an order."""
    demand_program(program)
    demand_observation(program, observation)
    demand_order(order)
    if seen_by_order(program, moves, order) != observation:
        return False
    return does_explain(program, observation, paper, order)


def proof_holds(program, observation, proof):
    """Tell whether a proof is right for an observation."""
    demand_program(program)
    demand_observation(program, observation)
    return is_proof(program, observation, proof)


def case_holds(table, program, moves, proof):
    """Tell whether a case against a table is right."""
    demand_table(table)
    demand_program(program)
    seen = seen_by_machine(table, program, moves)
    return seen is not None and is_proof(program, seen, proof)
