"""Stagecut: machines told as one step, cut into pipelines, down to gates and a fabric."""
