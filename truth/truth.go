// Package truth: what constraints, clauses and literals mean, as package api says it. It looks for nothing that may be
// wrong: whoever asks has checked what it asks of.
package truth

import (
	"slices"

	"cordon/api"
)

// Con: does a constraint that is right hold of values of all variables, none beyond MaxValue?
func Con(c api.Con, values []int) bool {
	own := valuesOf(c.Vars, values)
	switch c.Kind {
	case api.ConLe:
		return sum(c.Consts, own) <= c.N
	case api.ConEq:
		return sum(c.Consts, own) == c.N
	case api.ConNe:
		return sum(c.Consts, own) != c.N
	case api.ConDiffer:
		return differ(own)
	case api.ConElement:
		at := own[0]
		return 0 <= at && at < len(c.Consts) && c.Consts[at] == own[1]
	case api.ConTable:
		return slices.ContainsFunc(c.Rows, func(row []int) bool { return slices.Equal(row, own) })
	case api.ConTimes:
		return own[0]*own[1] == own[2]
	case api.ConMax:
		return own[0] == slices.Max(own[1:])
	case api.ConClause:
		return Clause(c.Lits, values)
	case api.ConIff:
		return own[0] == oneIf(Lit(c.Lits[0], values[c.Lits[0].Var]))
	}
	return false
}

// valuesOf tells the values of some of the variables, in their order.
func valuesOf(vars, values []int) []int {
	own := make([]int, len(vars))
	for i, v := range vars {
		own[i] = values[v]
	}
	return own
}

func sum(consts, values []int) int {
	total := 0
	for i, k := range consts {
		total += k * values[i]
	}
	return total
}

// differ: are no two values the same?
func differ(values []int) bool {
	met := map[int]struct{}{}
	for _, v := range values {
		if _, ok := met[v]; ok {
			return false
		}
		met[v] = struct{}{}
	}
	return true
}

// Lit: does a literal hold of a value of its variable? The value may be any.
func Lit(l api.Lit, value int) bool {
	switch l.Op {
	case api.OpLe:
		return value <= l.N
	case api.OpGe:
		return value >= l.N
	case api.OpEq:
		return value == l.N
	case api.OpNe:
		return value != l.N
	}
	return false
}

// Clause: does one of its literals hold of values of all variables? The values may be any.
func Clause(c api.Clause, values []int) bool {
	return slices.ContainsFunc(c, func(l api.Lit) bool { return Lit(l, values[l.Var]) })
}

// OneOf a clause's literals: does one of that variable hold of a value of it?
func OneOf(c api.Clause, v, value int) bool {
	return slices.ContainsFunc(c, func(l api.Lit) bool { return l.Var == v && Lit(l, value) })
}

func oneIf(b bool) int {
	if b {
		return 1
	}
	return 0
}
