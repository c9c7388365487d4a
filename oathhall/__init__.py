"""Oathhall: houses that bind bargains together, and books that stand."""
