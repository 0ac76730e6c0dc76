"""Tiltheap: marbles on a tray that is tilted."""
