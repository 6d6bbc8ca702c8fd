// Package fence: values of variables as bits of one number, so that clauses, though they are many, and constraints, though
// they are asked again and again, cost little. It looks for nothing that may be wrong: whoever asks has checked what it
// asks of.
package fence

import (
	"math/bits"
	"slices"

	"cordon/api"
	"cordon/model"
	"cordon/truth"
)

// Part of all values: some of each variable, which has MaxDomain bits, from that of its Lo on. All are less than 64.
type Part uint64

// field: the bits of the first variable.
const field Part = 1<<api.MaxDomain - 1

// one value of a variable.
func one(vars []api.Var, v, value int) Part {
	return 1 << (v*api.MaxDomain + value - vars[v].Lo)
}

// of: those values that are told.
func of(vars []api.Var, in func(v, value int) bool) Part {
	var out Part
	for v, w := range vars {
		for value := w.Lo; value <= w.Hi; value++ {
			if in(v, value) {
				out |= one(vars, v, value)
			}
		}
	}
	return out
}

// Whole: all values.
func Whole(vars []api.Var) Part {
	return of(vars, func(v, value int) bool { return true })
}

// Stored: those that a store has.
func Stored(vars []api.Var, s api.Store) Part {
	return of(vars, func(v, value int) bool { return slices.Contains(s[v], value) })
}

// Held: those of which one of a clause's literals holds.
func Held(vars []api.Var, c api.Clause) Part {
	return of(vars, func(v, value int) bool { return truth.OneOf(c, v, value) })
}

// Lits that hold of just these: one for each.
func Lits(vars []api.Var, p Part) api.Clause {
	var out api.Clause
	for rest := p; rest != 0; rest &= rest - 1 {
		at := bits.TrailingZeros64(uint64(rest))
		v := at / api.MaxDomain
		out = append(out, api.Lit{Var: v, Op: api.OpEq, N: vars[v].Lo + at%api.MaxDomain})
	}
	return out
}

// Store that has just these.
func Store(vars []api.Var, p Part) api.Store {
	out := make(api.Store, len(vars))
	for _, l := range Lits(vars, p) {
		out[l.Var] = append(out[l.Var], l.N)
	}
	return out
}

// Points of a constraint: all values of its variables of which it holds, each a part with one value of each of them.
func Points(m api.Model, con int) []Part {
	scope, _ := model.Scope(m, con) // no error: it is there
	values := make([]int, len(m.Vars))
	var out []Part
	var from func(at int, ahead Part)
	from = func(at int, ahead Part) {
		if at == len(scope) {
			if truth.Con(m.Cons[con], values) {
				out = append(out, ahead)
			}
			return
		}
		v := scope[at]
		for value := m.Vars[v].Lo; value <= m.Vars[v].Hi; value++ {
			values[v] = value
			from(at+1, ahead|one(m.Vars, v, value))
		}
	}
	from(0, 0)
	return out
}

// Says: is there, if none of what is held may be, a variable with no values, or none of a constraint's points?
func Says(vars []api.Var, points []Part, held Part) bool {
	stays := func(p Part) bool { return p&held == 0 }
	return lacking(vars, Whole(vars)&^held) || !slices.ContainsFunc(points, stays)
}

// Fails: is there, if none of what is held may be, a variable with no values, or do clauses, each one told by what it holds
// of, take all, one value after the other?
func Fails(vars []api.Var, clauses []Part, held Part) bool {
	return Units(vars, clauses, Whole(vars)&^held) == 0
}

// Units tells what clauses, each one told by what it holds of, leave of values, till nothing changes. If a variable has none
// at any time, it is nothing.
func Units(vars []api.Var, clauses []Part, p Part) Part {
	if lacking(vars, p) {
		return 0
	}
	left := p
	for before := Part(0); before != left; {
		before = left
		for _, c := range clauses {
			open := left & c
			if open == 0 {
				return 0
			}
			own := fieldOf(open)
			if open&^own == 0 {
				left &^= own &^ open
			}
		}
	}
	return left
}

// Left of values by a constraint: those that are part of one of its points, and all of variables that it has not. If it has
// no points there, it is nothing.
func Left(points []Part, p Part) Part {
	var scope, stay Part
	found := false
	for _, q := range points {
		if q&^p == 0 {
			scope, stay, found = q, stay|q, true
		}
	}
	if !found {
		return 0
	}
	for ; scope != 0; scope &^= fieldOf(scope) { // a point has a value of each of the constraint's variables
		p &^= fieldOf(scope)
	}
	return p | stay
}

// Why a constraint says so: a clause of literals that stand anyway, and of as many as it asks for of the values that are
// gone, each a literal. One that can't be spared now can't be with fewer beside it, so that once through them is enough.
func Why(vars []api.Var, points []Part, anyway api.Clause, gone Part) api.Clause {
	held := Held(vars, anyway)
	for rest := gone; rest != 0; rest &= rest - 1 {
		if spared := gone &^ (rest & -rest); Says(vars, points, held|spared) {
			gone = spared
		}
	}
	return append(slices.Clone(anyway), Lits(vars, gone)...)
}

// lacking: has a variable no values?
func lacking(vars []api.Var, p Part) bool {
	for v := range vars {
		if p>>(v*api.MaxDomain)&field == 0 {
			return true
		}
	}
	return false
}

// fieldOf the first variable that has values.
func fieldOf(p Part) Part {
	v := bits.TrailingZeros64(uint64(p)) / api.MaxDomain
	return field << (v * api.MaxDomain)
}
