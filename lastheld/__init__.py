"""Linked fields that are set in many places, with all equations always true."""
