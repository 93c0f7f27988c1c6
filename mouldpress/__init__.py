"""Mould-to-machine assignment for an injection-moulding shop."""
