"""Crates of scrap, and what is melted of them."""
