"""Roadbikes: a few bicycles for many people on one road."""
