"""Leafturner: machines that change strings and can be undone."""
