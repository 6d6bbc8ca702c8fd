// Package model: models: see doc/02-model.md.
package model

import (
	"slices"

	"cordon/api"
	"cordon/truth"
)

// Check tells what is wrong with a model, the first thing of the chapter's order.
func Check(m api.Model) api.Errno {
	if len(m.Vars) == 0 {
		return api.ErrForm
	}
	if len(m.Vars) > api.MaxVars || len(m.Cons) > api.MaxCons {
		return api.ErrMany
	}
	for i := range m.Vars {
		if e := checkVar(m.Vars, i); e != api.OK {
			return e
		}
	}
	for _, c := range m.Cons {
		if e := checkCon(c, len(m.Vars)); e != api.OK {
			return e
		}
	}
	return checkGoal(m)
}

// Holds: does a constraint hold of values of all variables?
func Holds(m api.Model, con int, values []int) (bool, api.Errno) {
	if e := checkWithCon(m, con); e != api.OK {
		return false, e
	}
	if len(values) != len(m.Vars) {
		return false, api.ErrForm
	}
	for _, v := range values {
		if !within(v, api.MaxValue) {
			return false, api.ErrRange
		}
	}
	return truth.Con(m.Cons[con], values), api.OK
}

// All: may the variables have these values, and do all constraints hold of them?
func All(m api.Model, values []int) (bool, api.Errno) {
	if e := Check(m); e != api.OK {
		return false, e
	}
	if len(values) != len(m.Vars) {
		return false, api.ErrForm
	}
	// Ahead of the constraints: they reckon with values, and those may be any here.
	for i, v := range m.Vars {
		if values[i] < v.Lo || values[i] > v.Hi {
			return false, api.OK
		}
	}
	for _, c := range m.Cons {
		if !truth.Con(c, values) {
			return false, api.OK
		}
	}
	return true, api.OK
}

// Scope tells which variables a constraint has, rising, each once.
func Scope(m api.Model, con int) ([]int, api.Errno) {
	if e := checkWithCon(m, con); e != api.OK {
		return nil, e
	}
	c := m.Cons[con]
	scope := make([]int, 0, len(c.Vars)+len(c.Lits))
	scope = append(scope, c.Vars...)
	for _, l := range c.Lits {
		scope = append(scope, l.Var)
	}
	slices.Sort(scope)
	return slices.Compact(scope), api.OK
}

// checkWithCon tells what is wrong with a model, or that it has no such constraint.
func checkWithCon(m api.Model, con int) api.Errno {
	if e := Check(m); e != api.OK {
		return e
	}
	if con < 0 || con >= len(m.Cons) {
		return api.ErrNone
	}
	return api.OK
}

// within: is a number from -most to most?
func within(n, most int) bool { return -most <= n && n <= most }
