"""Laidforall: style sheets and page breaking, judged for all trees."""
