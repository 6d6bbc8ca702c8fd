// Package seek: a searcher, who decides, learns of what failed, and goes on. It looks for nothing that may be wrong: whoever
// asks has checked what it asks of.
package seek

import (
	"slices"

	"cordon/api"
	"cordon/fence"
	"cordon/follow"
)

// goesOn: no verdict yet.
const goesOn = 0

// Searcher of a model. A proof of what was learned, so far, stands in Proof; each failure takes one of Fuel.
type Searcher struct {
	Vars  []api.Var
	Rules *follow.Rules
	Fuel  int
	Proof []api.Step
	there map[fence.Part]struct{} // which clauses stand in the proof, by what they hold of
	path  api.Clause              // the opposites of what was decided
}

// New searcher of a model.
func New(m api.Model, fuel int) *Searcher {
	return &Searcher{Vars: m.Vars, Rules: follow.Of(m), Fuel: fuel, there: map[fence.Part]struct{}{}}
}

// Next verdict, with values if it is VerdictFound. If it is VerdictNone, the proof ends with an empty clause.
func (s *Searcher) Next() (int, []int) {
	for {
		left := s.Rules.Left(s.path)
		if left == 0 {
			if verdict := s.turn(); verdict != goesOn {
				return verdict, nil
			}
			continue
		}
		values := fence.Store(s.Vars, left)
		v := fewest(values)
		if v < 0 {
			return api.VerdictFound, slices.Concat(values...)
		}
		s.path = append(s.path, api.Lit{Var: v, Op: api.OpNe, N: values[v][0]})
	}
}

// fewest values, but more than one: which variable has them? It is below 0, if there is none.
func fewest(s api.Store) int {
	best := -1
	for v, values := range s {
		if len(values) > 1 && (best < 0 || len(values) < len(s[best])) {
			best = v
		}
	}
	return best
}

// turn back, when nothing is left, to where the last of the decisions that this hangs on was still open: what is learned
// says that it was wrong. Each failure is then of other values, so that there are no more of them than values in all.
func (s *Searcher) turn() int {
	if s.Fuel == 0 {
		return api.VerdictUnknown
	}
	s.Fuel--
	c, _ := s.Rules.Least(s.path) // it is there: nothing is left
	s.prove(s.Rules.Steps(c))
	switch {
	case len(s.Proof) > api.MaxSteps:
		return api.VerdictUnknown
	case len(c) == 0:
		return api.VerdictNone
	}
	s.Rules.Add(c)
	s.path = s.path[:slices.Index(s.path, c[len(c)-1])]
	return goesOn
}

// prove more by steps: those whose clauses are not there yet.
func (s *Searcher) prove(steps []api.Step) {
	for _, t := range steps {
		held := fence.Held(s.Vars, t.Clause)
		if _, is := s.there[held]; !is {
			s.there[held] = struct{}{}
			s.Proof = append(s.Proof, t)
		}
	}
}
