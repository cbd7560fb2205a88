"""A keeper of children: childkeep.keeper.answers tells what it answers to a list of calls."""
