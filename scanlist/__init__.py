"""A controller's program in a list of instructions."""
