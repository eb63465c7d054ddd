"""What lies together: the orders that keep the told sets of things together."""
