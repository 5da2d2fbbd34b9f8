"""Owedafresh: shared bills that are corrected after paying."""
