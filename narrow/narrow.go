// Package narrow: what clauses leave of a store, and what is left when that goes on till nothing changes. It looks for
// nothing that may be wrong: whoever asks has checked what it asks of.
package narrow

import (
	"slices"

	"cordon/api"
	"cordon/sift"
	"cordon/truth"
)

// By is a way to narrow a store. What it answers is the store itself, if nothing goes, or new memory; one that has failed
// stays failed.
type By func(s api.Store) api.Store

// Unit tells the store that a clause leaves. It is the store itself, if nothing goes, so that those who put many clauses
// need not pay for new memory each time.
func Unit(s api.Store, c api.Clause) api.Store {
	if sift.Failed(s) {
		return s
	}
	open := func(l api.Lit) bool {
		return slices.ContainsFunc(s[l.Var], func(value int) bool { return truth.Lit(l, value) })
	}
	at := slices.IndexFunc(c, open)
	if at < 0 {
		return sift.None(s)
	}
	v := c[at].Var
	ofAnother := func(l api.Lit) bool { return l.Var != v && open(l) }
	if slices.ContainsFunc(c, ofAnother) {
		return s
	}
	goes := func(value int) bool { return !truth.OneOf(c, v, value) }
	if !slices.ContainsFunc(s[v], goes) {
		return s
	}
	return sift.Those(s, func(w, value int) bool { return w != v || !goes(value) })
}

// Till nothing changes, a store is narrowed in all these ways, one after the other. If a variable has no values at the end,
// all have none: one that has none at any time has none at the end. It is new memory.
func Till(s api.Store, ways []By) api.Store {
	out := sift.All(s)
	for left := -1; left != size(out); {
		left = size(out)
		for _, by := range ways {
			out = by(out)
		}
	}
	if sift.Failed(out) {
		return sift.None(out)
	}
	return out
}

// size of a store: how many values there are in all. What only takes values has changed nothing if it is the same.
func size(s api.Store) int {
	total := 0
	for _, values := range s {
		total += len(values)
	}
	return total
}
