"""Standasked: threads that are asked to stand."""
