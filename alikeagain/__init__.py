"""Copies of a store kept alike by rounds through a net of switches."""
