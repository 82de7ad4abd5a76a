"""Dipright: whose is the ore under the ground."""
