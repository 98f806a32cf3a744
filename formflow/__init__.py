"""formflow: a form engine with conditional fields, rows, and copies that work offline."""
