"""Bedsheet: sheets of rows, columns and boxes, filled for told reasons, and by trying last."""
