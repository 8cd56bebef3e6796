"""Plain-text report layout: paragraphs, tables, plots and pages."""
