"""Mistgrid: tables given out under mist."""
