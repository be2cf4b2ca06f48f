"""Circuits of registers and gates, and a language for them."""
