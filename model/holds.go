package model

import (
	"slices"

	"cordon/api"
)

// holds: does a constraint that is right hold of values of all variables, none beyond MaxValue?
func holds(c api.Con, values []int) bool {
	own := valuesOf(c.Vars, values)
	switch c.Kind {
	case api.ConLe:
		return sum(c.Consts, own) <= c.N
	case api.ConEq:
		return sum(c.Consts, own) == c.N
	case api.ConNe:
		return sum(c.Consts, own) != c.N
	case api.ConDiffer:
		return differ(own)
	case api.ConElement:
		at := own[0]
		return 0 <= at && at < len(c.Consts) && c.Consts[at] == own[1]
	case api.ConTable:
		return slices.ContainsFunc(c.Rows, func(row []int) bool { return slices.Equal(row, own) })
	case api.ConTimes:
		return own[0]*own[1] == own[2]
	case api.ConMax:
		return own[0] == slices.Max(own[1:])
	case api.ConClause:
		return slices.ContainsFunc(c.Lits, func(l api.Lit) bool { return litHolds(l, values) })
	case api.ConIff:
		return own[0] == oneIf(litHolds(c.Lits[0], values))
	}
	return false
}

// valuesOf tells the values of some of the variables, in their order.
func valuesOf(vars, values []int) []int {
	own := make([]int, len(vars))
	for i, v := range vars {
		own[i] = values[v]
	}
	return own
}

func sum(consts, values []int) int {
	total := 0
	for i, k := range consts {
		total += k * values[i]
	}
	return total
}

// differ: are no two values the same?
func differ(values []int) bool {
	met := map[int]struct{}{}
	for _, v := range values {
		if _, ok := met[v]; ok {
			return false
		}
		met[v] = struct{}{}
	}
	return true
}

func litHolds(l api.Lit, values []int) bool {
	v := values[l.Var]
	switch l.Op {
	case api.OpLe:
		return v <= l.N
	case api.OpGe:
		return v >= l.N
	case api.OpEq:
		return v == l.N
	case api.OpNe:
		return v != l.N
	}
	return false
}

func oneIf(b bool) int {
	if b {
		return 1
	}
	return 0
}
