"""Meansinprint: lists of marks told by what is printed of them."""
