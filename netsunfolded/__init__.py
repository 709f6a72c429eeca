"""Nets unfolded: what happens in a net, as events with what each needs and makes."""
