// Package fault: what is wrong with literals and clauses of a model that is right: whoever asks has checked the model.
package fault

import "cordon/api"

// Lit tells what is wrong with a literal of these variables.
func Lit(vars []api.Var, l api.Lit) api.Errno {
	switch {
	case l.Var < 0 || l.Var >= len(vars):
		return api.ErrNone
	case l.Op < api.OpLe || l.Op > api.OpNe:
		return api.ErrKind
	case l.N < -api.MaxConst || l.N > api.MaxConst:
		return api.ErrRange
	}
	return api.OK
}

// Clause tells what is wrong with a clause of these variables, literal by literal.
func Clause(vars []api.Var, c api.Clause) api.Errno {
	if len(c) > api.MaxLits {
		return api.ErrMany
	}
	for _, l := range c {
		if e := Lit(vars, l); e != api.OK {
			return e
		}
	}
	return api.OK
}

// Clauses tells what is wrong with a list of clauses of these variables, clause by clause.
func Clauses(vars []api.Var, l []api.Clause) api.Errno {
	if len(l) > api.MaxClauses {
		return api.ErrMany
	}
	for _, c := range l {
		if e := Clause(vars, c); e != api.OK {
			return e
		}
	}
	return api.OK
}
