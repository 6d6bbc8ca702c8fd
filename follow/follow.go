// Package follow: what follows of all of a model's constraints and of clauses together, and why. It looks for nothing that
// may be wrong: whoever asks has checked what it asks of.
package follow

import (
	"slices"

	"cordon/api"
	"cordon/fence"
)

// Rules: the constraints of a model, each one told by its points, and clauses, each one told by what it holds of.
type Rules struct {
	vars    []api.Var
	points  [][]fence.Part
	clauses []fence.Part
}

// reason: a step, and what its clause holds of, so that this need not be found out each time it is tried.
type reason struct {
	step api.Step
	held fence.Part
}

// Of a model: its constraints, and as yet no clauses.
func Of(m api.Model) *Rules {
	r := &Rules{vars: m.Vars}
	for con := range m.Cons {
		r.points = append(r.points, fence.Points(m, con))
	}
	return r
}

// Add a clause.
func (r *Rules) Add(c api.Clause) {
	r.clauses = append(r.clauses, fence.Held(r.vars, c))
}

// Left: what all rules leave, till nothing changes, of the values of which none of a clause's literals holds. If a variable
// has none at any time, it is nothing.
func (r *Rules) Left(c api.Clause) fence.Part {
	return r.narrow(fence.Held(r.vars, c), func(con int, before, after fence.Part) {})
}

// Least of a clause's literals that nothing is left by: none of them can be spared. It is false, if all of them leave
// something. Those at the end are spared first.
func (r *Rules) Least(c api.Clause) (api.Clause, bool) {
	nothing := func(some []api.Lit) bool { return r.Left(some) == 0 }
	if !nothing(c) {
		return nil, false
	}
	return least(c, nothing), true
}

// Steps that lead to a clause by which nothing is left: what constraints say by themselves, as far as it can't be spared,
// and at last the clause.
func (r *Rules) Steps(c api.Clause) []api.Step {
	held := fence.Held(r.vars, c)
	enough := func(some []reason) bool {
		ahead := slices.Clone(r.clauses)
		for _, x := range some {
			ahead = append(ahead, x.held)
		}
		return fence.Fails(r.vars, ahead, held)
	}
	var out []api.Step
	for _, x := range least(r.reasons(held), enough) {
		out = append(out, x.step)
	}
	return append(out, api.Step{Kind: api.StepUnit, Clause: slices.Clone(c)})
}

// narrow the values that are not held till nothing changes; whenever a constraint takes some of them, it is told.
func (r *Rules) narrow(held fence.Part, tell func(con int, before, after fence.Part)) fence.Part {
	left := fence.Whole(r.vars) &^ held
	for before := fence.Part(0); before != left; {
		before = left
		left = fence.Units(r.vars, r.clauses, left)
		for con := 0; con < len(r.points) && left != 0; con++ {
			after := fence.Left(r.points[con], left)
			if after != left {
				tell(con, left, after)
			}
			left = after
		}
	}
	return left
}

// reasons for all that constraints take, in the order in which they do.
func (r *Rules) reasons(held fence.Part) []reason {
	var out []reason
	r.narrow(held, func(con int, before, after fence.Part) {
		gone := fence.Whole(r.vars) &^ before
		add := func(anyway api.Clause) {
			c := fence.Why(r.vars, r.points[con], anyway, gone)
			step := api.Step{Kind: api.StepCon, Con: con, Clause: c}
			out = append(out, reason{step, fence.Held(r.vars, c)})
		}
		if after == 0 {
			add(nil)
			return
		}
		for _, l := range fence.Lits(r.vars, before&^after) {
			add(api.Clause{{Var: l.Var, Op: api.OpNe, N: l.N}})
		}
	})
	return out
}

// least of a list that is enough: from its end on, one after the other goes that can be spared. What is enough is so with
// more beside it, too, so that once through them will do.
func least[T any](l []T, enough func(some []T) bool) []T {
	out := slices.Clone(l)
	for at := len(out) - 1; at >= 0; at-- {
		if fewer := slices.Delete(slices.Clone(out), at, at+1); enough(fewer) {
			out = fewer
		}
	}
	return out
}
