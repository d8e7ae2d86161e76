"""Darkdrawers: how many things must be taken in the dark."""
