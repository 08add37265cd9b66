"""Jobs and tasks with due dates, admitted and run under budgets of faults."""
