package proof

import (
	"fmt"
	"math/rand"
	"slices"
	"testing"

	"cordon/api"
	"cordon/clause"
	"cordon/filter"
	"cordon/fix"
	"cordon/model"
	"cordon/store"
)

// grounds of drawn models: few values, so that there are proofs; and as many variables, with as many values, as may be.
var grounds = []string{
	"var a: -1..1; var b: 0..2; var c: 0..1; ",
	"var a: 45..50; var b: -50..-45; var c: 0..0; var d: -3..2; var e: 0..5; var f: -2..3; ",
}

// pools of constraints, of each kind, for each of the grounds.
var pools = [][]string{
	{
		"le [1, -1] [a, b] -1", "le [1, 1] [b, c] 1", "eq [1, 1] [a, c] 1", "eq [2, -1, 1] [a, b, c] 0", "ne [1, -1] [a, c] 0", "ne [1, -1] [b, c] 0",
		"ne [1, -1] [a, b] 0", "differ [a, b, c]", "differ [a, c]", "element [1, 0, 1] b c", "table [a, b] [[0, 1], [1, 2], [-1, 0], [2, 2]]",
		"times a b c", "times c c a", "max b [a, c]", "clause [a >= 1, b == 0]", "clause [c != 1, a == -1]", "clause []", "iff c b == 1", "iff c a >= 1",
	},
	{
		"le [1, 1] [a, b] -3", "eq [1, 1] [d, f] 5", "ne [1, -1] [e, f] 0", "differ [c, d, e, f]", "element [5, 4, 3, 0] e d", "element [-1, 2] c f",
		"table [d, e, f] [[0, 0, 0], [2, 5, 3], [-3, 0, -2]]", "times d e f", "max e [d, f]", "clause [a <= 46, f == 3]", "iff c d == 1", "iff c a >= 47",
	},
}

// drawn model: up to so many constraints of a pool.
func drawn(t *testing.T, r *rand.Rand, ground, most int) api.Model {
	text := grounds[ground]
	pool := pools[ground]
	for range r.Intn(most + 1) {
		if con := pool[r.Intn(len(pool))]; con != "clause []" || r.Intn(4) == 0 {
			text += "con " + con + "; "
		}
	}
	return parsed(t, text+"solve any;")
}

// drawnClause: up to so many literals, around what their variables may be.
func drawnClause(r *rand.Rand, m api.Model, most int) api.Clause {
	var c api.Clause
	for range r.Intn(most + 1) {
		v := r.Intn(len(m.Vars))
		lo, hi := m.Vars[v].Lo, m.Vars[v].Hi
		c = append(c, of(v, 1+r.Intn(4), lo-1+r.Intn(hi-lo+3)))
	}
	return c
}

// drawnClauses: up to six, of up to three literals.
func drawnClauses(r *rand.Rand, m api.Model) []api.Clause {
	var l []api.Clause
	for range r.Intn(7) {
		if c := drawnClause(r, m, 3); len(c) > 0 || r.Intn(9) == 0 {
			l = append(l, c)
		}
	}
	return l
}

// wantCon: what I1 says, by the calls that it names.
func wantCon(m api.Model, con int, c api.Clause) bool {
	s, _ := store.Begin(m)
	s, _ = clause.Deny(m, s, c)
	already, _ := store.Failed(m, s)
	s, _ = filter.Filter(m, con, s)
	then, _ := store.Failed(m, s)
	return already || then
}

// wantUnit: likewise.
func wantUnit(m api.Model, l []api.Clause, c api.Clause) bool {
	s, _ := store.Begin(m)
	s, _ = clause.Deny(m, s, c)
	already, _ := store.Failed(m, s)
	s, _ = fix.Units(m, s, l)
	then, _ := store.Failed(m, s)
	return already || then
}

// I1: drawn models and clauses.
func TestDrawn(t *testing.T) {
	r := rand.New(rand.NewSource(91))
	for ground := range grounds {
		byCon, byUnit := 0, 0
		for range 3000 {
			m := drawn(t, r, ground, 2)
			c, l := drawnClause(r, m, 4), drawnClauses(r, m)
			for con := range m.Cons {
				want := wantCon(m, con, c)
				if got, e := Con(m, con, c); got != want || e != api.OK {
					t.Fatalf("I1: Con(%+v, %d, %v) = %v %d, want %v", m, con, c, got, e, want)
				}
				if want {
					byCon++
				}
			}
			want := wantUnit(m, l, c)
			if got, e := Unit(m, l, c); got != want || e != api.OK {
				t.Fatalf("I1: Unit(%+v, %v, %v) = %v %d, want %v", m, l, c, got, e, want)
			}
			if want {
				byUnit++
			}
		}
		if byCon < 200 || byCon > 2800 || byUnit < 200 || byUnit > 2800 {
			t.Errorf("ground %d: a constraint said so %d times, clauses %d times: too few tell anything", ground, byCon, byUnit)
		}
	}
}

// small clauses: that a variable is not this, or that of two one is not this or the other is not that.
func small(m api.Model) []api.Clause {
	var one, out []api.Clause
	for v, w := range m.Vars {
		for n := w.Lo; n <= w.Hi; n++ {
			one = append(one, api.Clause{of(v, api.OpNe, n)})
		}
	}
	for i, c := range one {
		out = append(out, c)
		for _, d := range one[:i] {
			out = append(out, slices.Concat(c, d))
		}
	}
	return out
}

// drawnSteps: small clauses, and some others, in a drawn order, twice; mostly right. The last one is empty.
func drawnSteps(r *rand.Rand, m api.Model, given []api.Clause) []api.Step {
	all := small(m)
	for range 10 {
		all = append(all, drawnClause(r, m, 3))
	}
	var l []api.Step
	ahead := slices.Clone(given)
	for range 2 {
		for _, i := range r.Perm(len(all)) {
			s := api.Step{Kind: api.StepUnit, Clause: all[i]}
			if !wantUnit(m, ahead, s.Clause) || r.Intn(3) == 0 {
				s.Kind = api.StepCon
				for s.Con < len(m.Cons)-1 && !wantCon(m, s.Con, s.Clause) {
					s.Con++
				}
				if !wantCon(m, s.Con, s.Clause) && r.Intn(400) > 0 {
					continue
				}
			}
			l, ahead = append(l, s), append(ahead, s.Clause)
		}
	}
	return append(l, api.Step{Kind: api.StepUnit})
}

// wantProof: what I2 says of steps, the last one of which is empty, step by step.
func wantProof(m api.Model, given []api.Clause, l []api.Step) bool {
	ahead := slices.Clone(given)
	for _, s := range l {
		right := s.Kind == api.StepCon && wantCon(m, s.Con, s.Clause) || s.Kind == api.StepUnit && s.Con == 0 && wantUnit(m, ahead, s.Clause)
		if !right {
			return false
		}
		ahead = append(ahead, s.Clause)
	}
	return true
}

// holdsSomewhere: are there values such that all of the model and all that is given holds?
func holdsSomewhere(m api.Model, given []api.Clause) bool {
	s, _ := store.Begin(m)
	values := make([]int, len(s))
	var from func(v int) bool
	from = func(v int) bool {
		if v == len(s) {
			all, _ := model.All(m, values)
			lacks := func(c api.Clause) bool { ok, _ := clause.Holds(m, c, values); return !ok }
			return all && !slices.ContainsFunc(given, lacks)
		}
		return slices.ContainsFunc(s[v], func(n int) bool { values[v] = n; return from(v + 1) })
	}
	return from(0)
}

// I2, I4: drawn models, given clauses and steps: what is a proof is told as the promise has it, and where there is one there
// is nothing.
func TestDrawnProofs(t *testing.T) {
	r := rand.New(rand.NewSource(92))
	proofs, byCon, nothing, holds := 0, 0, 0, 0
	for range 1500 {
		m := drawn(t, r, 0, 5)
		if len(m.Cons) == 0 {
			continue
		}
		var given []api.Clause
		if r.Intn(2) == 0 {
			given = drawnClauses(r, m)
		}
		l := drawnSteps(r, m, given)
		want := wantProof(m, given, l)
		got, e := Check(m, given, l)
		if got != want || e != api.OK {
			t.Fatalf("I2: Check(%+v, %v, %v) = %v %d, want %v", m, given, l, got, e, want)
		}
		somewhere := holdsSomewhere(m, given)
		if got && somewhere {
			t.Fatalf("I4: a proof of %+v, %v: %v, but it holds somewhere", m, given, l)
		}
		switch {
		case got:
			proofs++
			if !wantUnit(m, given, nil) {
				byCon++
			}
		case somewhere:
			holds++
		default:
			nothing++
		}
	}
	if byCon < 100 || nothing < 30 || holds < 100 {
		t.Errorf("%d proofs, %d of them by more than what is given, %d times nothing without one, %d times something: too few tell anything", proofs, byCon, nothing, holds)
	}
}

// spared: a proof without those steps that can be spared, from its end on.
func spared(m api.Model, l []api.Step) []api.Step {
	for at := len(l) - 2; at >= 0; at-- {
		if less := without(l, at); wantProof(m, nil, less) {
			l = less
		}
	}
	return l
}

// I2: drawn proofs, of which one step is left out, or changed: what is left of them is told as the promise has it.
func TestNearly(t *testing.T) {
	r := rand.New(rand.NewSource(93))
	still, not := 0, 0
	for still+not < 200 {
		m := drawn(t, r, 0, 5)
		if len(m.Cons) == 0 {
			continue
		}
		l := drawnSteps(r, m, nil)
		if !wantProof(m, nil, l) {
			continue
		}
		if r.Intn(2) == 0 {
			l = spared(m, l)
		}
		if len(l) < 2 {
			continue
		}
		at := r.Intn(len(l) - 1)
		if r.Intn(2) == 0 {
			l = without(l, at)
		} else {
			l = with(l, at, func(s *api.Step) { s.Clause = drawnClause(r, m, 2) })
		}
		want := wantProof(m, nil, l)
		if got, e := Check(m, nil, l); got != want || e != api.OK {
			t.Fatalf("I2: Check(%+v, %v) = %v %d, want %v", m, l, got, e, want)
		}
		if want {
			still++
		} else {
			not++
		}
	}
	if still < 40 || not < 40 {
		t.Errorf("%d are proofs still, %d are not: too few tell anything", still, not)
	}
}

// oneByOne: as many clauses, with as many literals, as may be given, of six variables from 45 to 50: one value goes, then
// another because of it, and so on, till none is left of the last one; but the one that goes first stands last.
func oneByOne() []api.Clause {
	l := []api.Clause{slices.Repeat(api.Clause{of(0, api.OpNe, 45)}, api.MaxLits)}
	gone := of(0, api.OpEq, 45)
	for n := 45; n < 50; n++ {
		for v := range api.MaxVars {
			c := slices.Repeat(api.Clause{gone}, api.MaxLits)
			c[0] = of(v, api.OpNe, n)
			if n > 45 || v > 0 {
				l = append(l, c)
			}
			gone = of(v, api.OpEq, n)
		}
	}
	l = append(l, api.Clause{gone, of(5, api.OpNe, 50)})
	idle := slices.Repeat(api.Clause{of(0, api.OpLe, 50)}, api.MaxLits)
	l = append(l, slices.Repeat([]api.Clause{idle}, api.MaxClauses-len(l))...)
	slices.Reverse(l)
	return l
}

// fours: clauses of four different values each, again and again, so that no two of them say each other.
func fours() []api.Clause {
	var out []api.Clause
	at := func(i int) api.Lit { return of(i%6, api.OpEq, 46+i/6) }
	for i := range 24 {
		for j := range i {
			for k := range j {
				for n := range k {
					out = append(out, slices.Repeat(api.Clause{at(i), at(j), at(k), at(n)}, api.MaxLits/4))
				}
			}
		}
	}
	return out
}

// I2: the greatest that there is: each step asks for all clauses, round by round by round; and all that stands ahead counts,
// from the first to the last.
func TestGreatest(t *testing.T) {
	var m api.Model
	for i := range api.MaxVars {
		m.Vars = append(m.Vars, api.Var{Name: string(rune('a' + i)), Lo: 45, Hi: 50})
	}
	m.Cons = slices.Repeat([]api.Con{{Kind: api.ConLe, Vars: []int{0, 2, 3, 5}, Consts: []int{1, 1, 1, 1}, N: 199}}, api.MaxCons)
	given := oneByOne()
	four := api.Clause{of(0, api.OpLe, 49), of(2, api.OpLe, 49), of(3, api.OpLe, 49), of(5, api.OpLe, 49)}
	var l []api.Step
	for _, c := range fours()[:api.MaxSteps-api.MaxCons-1] {
		l = append(l, api.Step{Kind: api.StepUnit, Clause: c})
	}
	for con := range api.MaxCons {
		l = append(l, api.Step{Kind: api.StepCon, Con: con, Clause: four})
	}
	l = append(l, api.Step{Kind: api.StepUnit})
	if ok, e := Check(m, given, l); !ok || e != api.OK {
		t.Errorf("I2: %v %d", ok, e)
	}
	if ok, e := Check(m, given[:len(given)-1], l); ok || e != api.OK {
		t.Errorf("I2: without the last one that is given: %v %d", ok, e)
	}
	idle := slices.Repeat([]api.Step{{Kind: api.StepUnit, Clause: api.Clause{of(0, api.OpLe, 50)}}}, api.MaxSteps-3)
	first := api.Step{Kind: api.StepUnit, Clause: api.Clause{of(0, api.OpEq, 45), of(5, api.OpEq, 50)}}
	second := api.Step{Kind: api.StepCon, Con: 7, Clause: append(slices.Clone(four), of(4, api.OpEq, 45))}
	ends := []api.Clause{{of(0, api.OpEq, 45), of(5, api.OpEq, 50)}, {of(0, api.OpNe, 45)}, {of(4, api.OpNe, 45)}, {of(2, api.OpEq, 50)}, {of(3, api.OpEq, 50)}, {of(0, api.OpEq, 50)}}
	proof := slices.Concat([]api.Step{first}, idle, []api.Step{second, {Kind: api.StepUnit}})
	if ok, e := Check(m, ends, proof); !ok || e != api.OK {
		t.Errorf("I2: %v %d", ok, e)
	}
	if ok, e := Check(m, ends, proof[1:]); !ok || e != api.OK { // the first one was given, too
		t.Errorf("I2: %v %d", ok, e)
	}
	if ok, e := Check(m, ends, slices.Concat([]api.Step{first}, idle, proof[len(proof)-1:])); ok || e != api.OK {
		t.Errorf("I2: without the last but one: %v %d", ok, e)
	}
}

// withRoom: all that is handed in, and what lies behind its lists.
func withRoom(m api.Model, l []api.Clause, steps []api.Step) string {
	out := fmt.Sprintf("%+v %v %v", m, l[:cap(l)], steps[:cap(steps)])
	for _, c := range m.Cons {
		out += fmt.Sprint(c.Vars[:cap(c.Vars)], c.Consts[:cap(c.Consts)], c.Lits[:cap(c.Lits)])
	}
	for _, c := range l {
		out += fmt.Sprint(c[:cap(c)])
	}
	for _, s := range steps {
		out += fmt.Sprint(s.Clause[:cap(s.Clause)])
	}
	return out
}

// roomy list: with a mark in the room behind it.
func roomy[T any](l []T, mark T) []T { return append(slices.Clone(l), mark)[:len(l)] }

// P2, P3: what is handed in is only read, the room behind it too; what comes out is the same each time.
func TestApart(t *testing.T) {
	r := rand.New(rand.NewSource(94))
	answers := func(m api.Model, l []api.Clause, steps []api.Step) string {
		out := ""
		for con := range m.Cons {
			for _, c := range l {
				ok, e := Con(m, con, c)
				out += fmt.Sprint(ok, e, " ")
			}
		}
		for i, c := range l {
			ok, e := Unit(m, l[:i], c)
			out += fmt.Sprint(ok, e, " ")
		}
		ok, e := Check(m, l, steps)
		return out + fmt.Sprint(ok, e)
	}
	for range 200 {
		m := drawn(t, r, 0, 4)
		if len(m.Cons) == 0 {
			continue
		}
		l := drawnClauses(r, m)
		steps := drawnSteps(r, m, l)
		for i, c := range m.Cons {
			m.Cons[i].Vars, m.Cons[i].Consts, m.Cons[i].Lits = roomy(c.Vars, 77), roomy(c.Consts, 77), roomy(c.Lits, of(77, 77, 77))
		}
		for i, c := range l {
			l[i] = roomy(c, of(77, 77, 77))
		}
		for i, s := range steps {
			steps[i].Clause = roomy(s.Clause, of(77, 77, 77))
		}
		l, steps = roomy(l, api.Clause{of(78, 78, 78)}), roomy(steps, api.Step{Kind: 78})
		before, first := withRoom(m, l, steps), answers(m, l, steps)
		if after := withRoom(m, l, steps); after != before {
			t.Fatalf("P2: %s was handed in, and is %s", before, after)
		}
		if again := answers(m, l, steps); again != first {
			t.Errorf("P3: %s, then %s", first, again)
		}
	}
}
