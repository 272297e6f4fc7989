"""A small processor of sixteen bits."""
