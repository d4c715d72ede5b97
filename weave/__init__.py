"""Portweave: nets of boxes, and rules that put one net in another's place."""
