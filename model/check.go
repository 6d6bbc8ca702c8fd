package model

import (
	"slices"

	"cordon/api"
	"cordon/token"
)

// checkVar tells what is wrong with one of the variables, those ahead of it being right.
func checkVar(vars []api.Var, i int) api.Errno {
	v := vars[i]
	switch {
	case !isName(v.Name):
		return api.ErrForm
	case slices.ContainsFunc(vars[:i], func(ahead api.Var) bool { return ahead.Name == v.Name }):
		return api.ErrTwice
	case !within(v.Lo, api.MaxValue) || !within(v.Hi, api.MaxValue) || v.Lo > v.Hi:
		return api.ErrRange
	case v.Hi-v.Lo+1 > api.MaxDomain:
		return api.ErrMany
	}
	return api.OK
}

// isName: could a text have it as the name of a variable?
func isName(s string) bool {
	l, _, e := token.Scan(s)
	return e == api.OK && len(l) == 1 && l[0].Kind == api.TokenName && l[0].Text == s && !isWord(s)
}

// isWord: does it mean something else in a text (chapter 3)?
func isWord(s string) bool {
	switch s {
	case "var", "con", "solve",
		"le", "eq", "ne", "differ", "element", "table", "times", "max", "clause", "iff",
		"any", "least", "most":
		return true
	}
	return false
}

// checkCon tells what is wrong with a constraint of a model that has so many variables.
func checkCon(c api.Con, vars int) api.Errno {
	switch {
	case c.Kind < api.ConLe || c.Kind > api.ConIff:
		return api.ErrKind
	case tooMany(c):
		return api.ErrMany
	case !hasForm(c):
		return api.ErrForm
	case !hasVars(c, vars):
		return api.ErrNone
	case !hasConsts(c):
		return api.ErrRange
	}
	return checkLits(c.Lits)
}

func tooMany(c api.Con) bool {
	return len(c.Vars) > api.MaxScope || len(c.Lits) > api.MaxScope ||
		len(c.Consts) > api.MaxConsts || len(c.Rows) > api.MaxRows
}

// hasForm: has a constraint as many of everything as its kind asks?
func hasForm(c api.Con) bool {
	vars, consts, rows, lits := len(c.Vars), len(c.Consts), len(c.Rows), len(c.Lits)
	switch c.Kind {
	case api.ConLe, api.ConEq, api.ConNe:
		return vars >= 1 && consts == vars && rows+lits == 0
	}
	if c.N != 0 {
		return false
	}
	switch c.Kind {
	case api.ConDiffer:
		return vars >= 1 && consts+rows+lits == 0
	case api.ConElement:
		return vars == 2 && consts >= 1 && rows+lits == 0
	case api.ConTable:
		return vars >= 1 && consts+lits == 0 && allLong(c.Rows, vars)
	case api.ConTimes:
		return vars == 3 && consts+rows+lits == 0
	case api.ConMax:
		return vars >= 2 && consts+rows+lits == 0
	case api.ConClause:
		return vars+consts+rows == 0
	case api.ConIff:
		return vars == 1 && lits == 1 && consts+rows == 0
	}
	return false
}

// allLong: is each row so long?
func allLong(rows [][]int, size int) bool {
	for _, row := range rows {
		if len(row) != size {
			return false
		}
	}
	return true
}

// hasVars: are all variables of a constraint, in Vars or Lits, among so many?
func hasVars(c api.Con, vars int) bool {
	for _, v := range c.Vars {
		if !isVar(v, vars) {
			return false
		}
	}
	for _, l := range c.Lits {
		if !isVar(l.Var, vars) {
			return false
		}
	}
	return true
}

func isVar(v, vars int) bool { return 0 <= v && v < vars }

// hasConsts: may all numbers of a constraint, but those of its Lits, stand there?
func hasConsts(c api.Con) bool {
	if !allConsts(c.Consts) || !isConst(c.N) {
		return false
	}
	for _, row := range c.Rows {
		if !allConsts(row) {
			return false
		}
	}
	return true
}

func allConsts(l []int) bool {
	for _, n := range l {
		if !isConst(n) {
			return false
		}
	}
	return true
}

func isConst(n int) bool { return within(n, api.MaxConst) }

// checkLits tells what is wrong with literals whose variables are right. That an Op is none goes ahead of all numbers: the
// promise names it first, and does not say that it goes literal by literal.
func checkLits(lits []api.Lit) api.Errno {
	for _, l := range lits {
		if l.Op < api.OpLe || l.Op > api.OpNe {
			return api.ErrKind
		}
	}
	for _, l := range lits {
		if !isConst(l.N) {
			return api.ErrRange
		}
	}
	return api.OK
}

func checkGoal(m api.Model) api.Errno {
	switch m.Goal {
	case api.GoalAny:
		if m.Var != 0 {
			return api.ErrForm
		}
	case api.GoalLeast, api.GoalMost:
		if !isVar(m.Var, len(m.Vars)) {
			return api.ErrNone
		}
	default:
		return api.ErrKind
	}
	return api.OK
}
