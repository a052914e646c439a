"""What ../shared/LANGUAGE.md asks of the package's files, rule by rule.

Each rule is a function of a Code that yields a text for each place that breaks it. Where a rule allows what the
package doesn't use yet (decorators, generators, sets kept in variables and such), the function here refuses it whole:
whoever needs it puts into the function what the rule asks of it.
"""
