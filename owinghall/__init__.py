"""Owinghall: houses on a web that hold coins or owe."""
