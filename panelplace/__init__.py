"""Panelplace: couples placed by a panel by the first place that most of it grants."""
