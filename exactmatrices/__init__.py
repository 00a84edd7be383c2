"""Exact matrices of rationals: the calls stand in exactmatrices.desk."""
