"""Sheetask: questions over tables, answered plainly and cleverly."""
