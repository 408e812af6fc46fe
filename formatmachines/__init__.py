"""Formats compiled to machines that read byte by byte."""
