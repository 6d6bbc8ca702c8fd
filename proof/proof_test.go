package proof

import (
	"fmt"
	"math"
	"slices"
	"testing"

	"cordon/api"
	"cordon/text"
)

// parsed model of a text that is right.
func parsed(t *testing.T, s string) api.Model {
	t.Helper()
	m, at, e := text.Parse(s)
	if e != api.OK {
		t.Fatalf("%s: %d at %d", s, e, at)
	}
	return m
}

// of: a literal.
func of(v, op, n int) api.Lit { return api.Lit{Var: v, Op: op, N: n} }

// example of the document: x, y, b; x = 0 is best.
const example = "var x: 0..2; var y: 0..2; var b: 0..1; con le [1, -1] [x, y] -1; con iff b y == 2; con clause [b == 0, x != 1]; solve most x;"

// better than x = 0.
var better = []api.Clause{{of(0, api.OpGe, 1)}}

// noneBetter: a proof of it; no step can be spared.
func noneBetter() []api.Step {
	return []api.Step{
		{Kind: api.StepCon, Con: 0, Clause: api.Clause{of(0, api.OpNe, 2)}},
		{Kind: api.StepCon, Con: 0, Clause: api.Clause{of(0, api.OpNe, 1), of(1, api.OpEq, 2)}},
		{Kind: api.StepCon, Con: 1, Clause: api.Clause{of(1, api.OpNe, 2), of(2, api.OpEq, 1)}},
		{Kind: api.StepCon, Con: 2, Clause: api.Clause{of(2, api.OpLe, 0), of(0, api.OpNe, 1)}},
		{Kind: api.StepUnit},
	}
}

// I1: what a constraint says by itself, told by hand.
func TestCon(t *testing.T) {
	m := parsed(t, example)
	never := parsed(t, "var x: 0..2; var y: 0..2; con clause []; con eq [1] [x] 5; con clause [x <= 2]; con eq [1] [x] 1; solve any;")
	for _, c := range []struct {
		m    api.Model
		con  int
		c    api.Clause
		want bool
	}{
		{m, 0, nil, false},
		{m, 0, api.Clause{of(0, api.OpNe, 2)}, true},
		{m, 0, api.Clause{of(0, api.OpLe, 1)}, true},
		{m, 0, api.Clause{of(0, api.OpLe, 0)}, false},
		{m, 0, api.Clause{of(1, api.OpGe, 1)}, true},
		{m, 1, api.Clause{of(1, api.OpGe, 1)}, false},
		{m, 0, api.Clause{of(0, api.OpNe, 1), of(1, api.OpEq, 2)}, true},
		{m, 0, api.Clause{of(0, api.OpNe, 1)}, false},
		{m, 0, api.Clause{of(1, api.OpEq, 2)}, false},
		{m, 1, api.Clause{of(2, api.OpEq, 1), of(1, api.OpLe, 1)}, true},
		{m, 1, api.Clause{of(2, api.OpEq, 0), of(1, api.OpLe, 1)}, false},
		{m, 2, api.Clause{of(0, api.OpNe, 1), of(2, api.OpNe, 1)}, true},
		// all together would say so, none by itself does
		{m, 0, api.Clause{of(0, api.OpEq, 0)}, false},
		{m, 1, api.Clause{of(0, api.OpEq, 0)}, false},
		{m, 2, api.Clause{of(0, api.OpEq, 0)}, false},
		// what is denied has failed already: by a variable that the constraint has, and one that it has not
		{m, 0, api.Clause{of(0, api.OpLe, 0), of(0, api.OpGe, 1)}, true},
		{m, 0, api.Clause{of(2, api.OpLe, 1)}, true},
		{m, 1, api.Clause{of(0, api.OpEq, 0), of(0, api.OpEq, 1), of(0, api.OpEq, 2)}, true},
		{m, 1, api.Clause{of(0, api.OpEq, 0), of(0, api.OpEq, 1)}, false},
		// a literal that never holds says nothing
		{m, 0, api.Clause{of(0, api.OpNe, 2), of(2, api.OpEq, 99)}, true},
		{m, 0, api.Clause{of(0, api.OpGe, 99), of(2, api.OpEq, -99)}, false},
		// a constraint without variables, one that never holds, and one that always does
		{never, 0, nil, true},
		{never, 0, api.Clause{of(1, api.OpEq, 0)}, true},
		{never, 1, nil, true},
		{never, 1, api.Clause{of(1, api.OpEq, 0)}, true},
		{never, 2, nil, false},
		{never, 2, api.Clause{of(0, api.OpGe, 1)}, false},
		{never, 3, api.Clause{of(0, api.OpEq, 1)}, true},
		{never, 3, api.Clause{of(0, api.OpNe, 1)}, false},
	} {
		if got, e := Con(c.m, c.con, c.c); got != c.want || e != api.OK {
			t.Errorf("I1: Con(%d, %v) = %v %d, want %v", c.con, c.c, got, e, c.want)
		}
	}
}

// I1: what clauses say, told by hand; constraints have no say here.
func TestUnit(t *testing.T) {
	m := parsed(t, example)
	one := api.Clause{of(0, api.OpEq, 1)}
	step := func(v, w int) api.Clause { return api.Clause{of(v, api.OpNe, 1), of(w, api.OpEq, 1)} } // if v is 1 w is
	for _, c := range []struct {
		l    []api.Clause
		c    api.Clause
		want bool
	}{
		{nil, nil, false},
		{nil, api.Clause{of(0, api.OpNe, 2)}, false},
		{nil, api.Clause{of(0, api.OpLe, 2)}, true},
		{nil, api.Clause{of(2, api.OpEq, 0), of(0, api.OpEq, 7), of(2, api.OpNe, 0)}, true},
		{[]api.Clause{nil}, nil, true},
		{[]api.Clause{nil}, one, true},
		{[]api.Clause{{of(1, api.OpEq, 9)}}, nil, true},
		{[]api.Clause{one}, one, true},
		{[]api.Clause{one}, api.Clause{of(0, api.OpGe, 1)}, true},
		{[]api.Clause{one}, api.Clause{of(0, api.OpNe, 1)}, false},
		{[]api.Clause{one}, api.Clause{of(0, api.OpEq, 1), of(1, api.OpEq, 0)}, true},
		{[]api.Clause{one}, api.Clause{of(1, api.OpEq, 0)}, false},
		{[]api.Clause{one}, nil, false},
		{[]api.Clause{one, {of(0, api.OpNe, 1)}}, nil, true},
		{[]api.Clause{{of(0, api.OpLe, 1)}, {of(0, api.OpGe, 1)}}, one, true},
		{[]api.Clause{{of(0, api.OpLe, 1)}}, one, false},
		// one after the other, in an order that asks for it
		{[]api.Clause{step(1, 2), step(0, 1), one}, api.Clause{of(2, api.OpGe, 1)}, true},
		{[]api.Clause{step(1, 2), step(0, 1)}, api.Clause{of(2, api.OpGe, 1)}, false},
		{[]api.Clause{step(1, 2), step(0, 1)}, step(0, 2), true},
		{[]api.Clause{step(1, 2), step(0, 1)}, step(2, 0), false},
		// each of two would do, but neither is looked at as one of two
		{[]api.Clause{{of(0, api.OpEq, 1), of(1, api.OpEq, 1)}, step(0, 2), step(1, 2)}, api.Clause{of(2, api.OpEq, 1)}, true},
		{[]api.Clause{{of(0, api.OpEq, 0), of(2, api.OpEq, 0)}, {of(0, api.OpNe, 0), of(2, api.OpEq, 0)}, {of(0, api.OpEq, 0), of(2, api.OpNe, 0)}, {of(0, api.OpNe, 0), of(2, api.OpNe, 0)}}, nil, false},
	} {
		if got, e := Unit(m, c.l, c.c); got != c.want || e != api.OK {
			t.Errorf("I1: Unit(%v, %v) = %v %d, want %v", c.l, c.c, got, e, c.want)
		}
	}
}

// without: a list without one of it.
func without[T any](l []T, at int) []T { return slices.Delete(slices.Clone(l), at, at+1) }

// with: a list with one of it changed.
func with(l []api.Step, at int, change func(*api.Step)) []api.Step {
	l = slices.Clone(l)
	change(&l[at])
	return l
}

// I2: a proof, and what is none, but nearly.
func TestNoneBetter(t *testing.T) {
	m := parsed(t, example)
	right := noneBetter()
	steps := func(l ...api.Step) []api.Step { return slices.Concat(right[:4], l) }
	cases := []struct {
		name  string
		given []api.Clause
		l     []api.Step
		want  bool
	}{
		{"right", better, right, true},
		{"nothing given", nil, right, false},
		{"given among others", []api.Clause{{of(1, api.OpGe, 0)}, better[0], {of(2, api.OpEq, 0), of(2, api.OpEq, 1)}}, right, true},
		{"no steps", better, nil, false},
		{"no steps, though nothing holds", []api.Clause{nil}, nil, false},
		{"an empty clause is given", []api.Clause{nil}, []api.Step{{Kind: api.StepUnit}}, true},
		{"a constraint says nothing by what is given", []api.Clause{nil}, []api.Step{{Kind: api.StepCon}}, false},
		{"the last clause has one literal", better, steps(api.Step{Kind: api.StepUnit, Clause: api.Clause{of(1, api.OpEq, 1)}}), false},
		{"one that never holds", better, steps(api.Step{Kind: api.StepUnit, Clause: api.Clause{of(1, api.OpEq, 99)}}), false},
		{"the last but one is empty", better, append(slices.Clone(right), api.Step{Kind: api.StepUnit, Clause: api.Clause{of(1, api.OpEq, 1)}}), false},
		{"the last two are", better, append(slices.Clone(right), api.Step{Kind: api.StepUnit}), true},
		{"learned in between", better, steps(api.Step{Kind: api.StepUnit, Clause: api.Clause{of(0, api.OpEq, 0)}}, right[4]), true},
		{"what was learned serves", nil, slices.Concat(steps(api.Step{Kind: api.StepUnit, Clause: api.Clause{of(0, api.OpEq, 0)}}), right[4:]), false},
		{"what is wrong is not needed", better, slices.Concat([]api.Step{{Kind: api.StepUnit, Clause: api.Clause{of(2, api.OpEq, 0)}}}, right), false},
		{"a step serves itself", better, []api.Step{{Kind: api.StepUnit, Clause: api.Clause{of(0, api.OpEq, 0)}}, {Kind: api.StepUnit}}, false},
		{"it holds of everything", better, slices.Concat([]api.Step{{Kind: api.StepUnit, Clause: api.Clause{of(2, api.OpLe, 1)}}, {Kind: api.StepCon, Con: 0, Clause: api.Clause{of(2, api.OpLe, 1)}}}, right), true},
		{"the last one first", better, slices.Concat(right[4:], right), false},
		{"another order", better, []api.Step{right[3], right[2], right[1], right[0], right[4]}, true},
	}
	for i := range right {
		cases = append(cases, struct {
			name  string
			given []api.Clause
			l     []api.Step
			want  bool
		}{fmt.Sprint("without step ", i), better, without(right, i), false})
	}
	for _, c := range cases {
		if got, e := Check(m, c.given, c.l); got != c.want || e != api.OK {
			t.Errorf("I2: %s: %v %d, want %v", c.name, got, e, c.want)
		}
	}
}

// I2: a step of another kind is wrong, and one of the clauses that names a constraint; wherever it stands.
func TestKinds(t *testing.T) {
	m := parsed(t, example)
	spare := append(noneBetter()[:4], api.Step{Kind: api.StepUnit, Clause: api.Clause{of(2, api.OpLe, 1)}}, api.Step{Kind: api.StepUnit})
	if ok, e := Check(m, better, spare); !ok || e != api.OK {
		t.Fatalf("I2: %v %d", ok, e)
	}
	for at := range spare {
		for _, kind := range []int{0, -1, 3, 4, math.MinInt, math.MaxInt} {
			for _, con := range []int{0, 1, 9, -1} {
				l := with(spare, at, func(s *api.Step) { s.Kind, s.Con = kind, con })
				if ok, e := Check(m, better, l); ok || e != api.OK {
					t.Errorf("I2: step %d of kind %d: %v %d", at, kind, ok, e)
				}
			}
		}
	}
	for _, at := range []int{4, 5} {
		for _, con := range []int{1, 2, 3, -1, math.MinInt, math.MaxInt} {
			l := with(spare, at, func(s *api.Step) { s.Con = con })
			if ok, e := Check(m, better, l); ok || e != api.OK {
				t.Errorf("I2: unit step %d with constraint %d: %v %d", at, con, ok, e)
			}
		}
	}
	for at := range 4 {
		for con := range 3 {
			l := with(spare, at, func(s *api.Step) { s.Con = con })
			if ok, e := Check(m, better, l); ok != (con == spare[at].Con) || e != api.OK {
				t.Errorf("I2: step %d of constraint %d: %v %d", at, con, ok, e)
			}
		}
		l := with(spare, at, func(s *api.Step) { s.Kind, s.Con = api.StepUnit, 0 })
		if ok, e := Check(m, better, l); ok || e != api.OK {
			t.Errorf("I2: step %d of clauses: %v %d", at, ok, e)
		}
	}
}

// long clause: so many literals, all right.
func long(n int) api.Clause { return slices.Repeat(api.Clause{of(0, api.OpLe, 9)}, n) }

// wrong clauses, and what is wrong with them.
var wrong = []struct {
	c    api.Clause
	want api.Errno
}{
	{long(41), api.ErrMany},
	{append(api.Clause{of(9, 9, 9000)}, long(40)...), api.ErrMany},
	{api.Clause{of(3, 9, 9000)}, api.ErrNone},
	{api.Clause{of(-1, api.OpLe, 0)}, api.ErrNone},
	{api.Clause{of(math.MaxInt, api.OpLe, 0)}, api.ErrNone},
	{api.Clause{{}}, api.ErrKind},
	{api.Clause{of(0, 5, 9000)}, api.ErrKind},
	{api.Clause{of(0, api.OpEq, 1001)}, api.ErrRange},
	{append(long(39), of(2, api.OpEq, math.MinInt)), api.ErrRange},
	{api.Clause{of(0, api.OpEq, 1001), of(0, 5, 0), of(3, 1, 0)}, api.ErrRange},
}

// I3, P1: of Con: the model, then the constraint, then the clause.
func TestErrorsOfCon(t *testing.T) {
	m := parsed(t, example)
	bad := m
	bad.Goal = 9
	for _, c := range []api.Clause{nil, long(40), {{}}, long(41)} {
		for _, con := range []int{-1, 0, 3} {
			if ok, e := Con(api.Model{}, con, c); ok || e != api.ErrForm {
				t.Errorf("I3: no model: Con(%d, %v) = %v %d", con, c, ok, e)
			}
			if ok, e := Con(bad, con, c); ok || e != api.ErrKind {
				t.Errorf("I3: no goal: Con(%d, %v) = %v %d", con, c, ok, e)
			}
		}
		for _, con := range []int{-1, 3, math.MinInt, math.MaxInt} {
			if ok, e := Con(m, con, c); ok || e != api.ErrNone {
				t.Errorf("I3: Con(%d, %v) = %v %d, want %d", con, c, ok, e, api.ErrNone)
			}
		}
	}
	for _, w := range wrong {
		if ok, e := Con(m, 0, w.c); ok || e != w.want {
			t.Errorf("I3: Con(0, %v) = %v %d, want %d", w.c, ok, e, w.want)
		}
	}
	if ok, e := Con(m, 0, long(40)); !ok || e != api.OK {
		t.Errorf("I3: forty literals: %v %d", ok, e)
	}
	m.Cons = nil
	if ok, e := Con(m, 0, nil); ok || e != api.ErrNone {
		t.Errorf("I3: no constraints: %v %d", ok, e)
	}
}

// I3, P1: of Unit: the model, then how many clauses there are, then each of them, then the clause that they may say.
func TestErrorsOfUnit(t *testing.T) {
	m := parsed(t, example)
	many := func(n int, c api.Clause) []api.Clause { return slices.Repeat([]api.Clause{c}, n) }
	for _, l := range [][]api.Clause{nil, many(601, nil), many(2, long(41))} {
		for _, c := range []api.Clause{nil, {{}}, long(41)} {
			if ok, e := Unit(api.Model{}, l, c); ok || e != api.ErrForm {
				t.Errorf("I3: no model: Unit of %d clauses, %v = %v %d", len(l), c, ok, e)
			}
		}
	}
	for _, w := range wrong {
		for _, c := range []struct {
			l    []api.Clause
			c    api.Clause
			want api.Errno
		}{
			{nil, w.c, w.want},
			{many(1, nil), w.c, w.want},
			{many(600, nil), w.c, w.want},
			{many(601, nil), w.c, api.ErrMany},
			{many(601, w.c), nil, api.ErrMany},
			{many(601, api.Clause{of(9, 1, 0)}), w.c, api.ErrMany},
			{append(many(599, nil), w.c), nil, w.want},
			{append(many(1, w.c), many(599, nil)...), api.Clause{{}}, w.want},
			{append(many(1, nil), w.c), api.Clause{{}}, w.want},
			{append(many(1, w.c), api.Clause{of(1, 7, 0)}), api.Clause{of(9, 1, 0)}, w.want},
			{append(many(1, api.Clause{of(1, 7, 0)}), w.c), nil, api.ErrKind},
			{many(1, api.Clause{of(1, 7, 0)}), w.c, api.ErrKind},
		} {
			if ok, e := Unit(m, c.l, c.c); ok || e != c.want {
				t.Errorf("I3: Unit of %d clauses, %v = %v %d, want %d", len(c.l), c.c, ok, e, c.want)
			}
		}
	}
	if ok, e := Unit(m, many(600, nil), long(40)); !ok || e != api.OK {
		t.Errorf("I3: six hundred clauses: %v %d", ok, e)
	}
}

// I3, P1: of Check: the model, how many there are, what is given, the steps' clauses, their constraints; and all of that
// ahead of what is wrong with the proof.
func TestErrorsOfCheck(t *testing.T) {
	m := parsed(t, example)
	right := noneBetter()
	clauses := func(n int, c api.Clause) []api.Clause { return slices.Repeat([]api.Clause{c}, n) }
	steps := func(n int, s api.Step) []api.Step { return slices.Repeat([]api.Step{s}, n) }
	last := func(l []api.Step, s api.Step) []api.Step { return append(slices.Clone(l), s) }
	kind := api.Clause{{}}
	none := api.Step{Kind: api.StepCon, Con: 3}
	for i, c := range []struct {
		m     api.Model
		given []api.Clause
		l     []api.Step
		want  api.Errno
	}{
		{api.Model{}, better, right, api.ErrForm},
		{api.Model{}, clauses(601, kind), steps(6001, none), api.ErrForm},
		{api.Model{}, nil, nil, api.ErrForm},
		{m, clauses(601, nil), nil, api.ErrMany},
		{m, clauses(601, nil), right, api.ErrMany},
		{m, clauses(601, kind), right, api.ErrMany},
		{m, clauses(601, nil), steps(1, none), api.ErrMany},
		{m, nil, steps(6001, right[4]), api.ErrMany},
		{m, clauses(1, kind), steps(6001, right[4]), api.ErrMany},
		{m, nil, steps(6001, none), api.ErrMany},
		{m, nil, steps(6001, api.Step{Clause: kind}), api.ErrMany},
		{m, clauses(1, nil), steps(6000, right[4]), api.OK},
		{m, clauses(600, nil), right, api.OK},
		{m, append(clauses(599, nil), kind), right, api.ErrKind},
		{m, clauses(1, kind), steps(1, api.Step{Clause: long(41)}), api.ErrKind},
		{m, clauses(1, kind), nil, api.ErrKind},
		{m, nil, last(steps(5999, right[4]), api.Step{Clause: kind}), api.ErrKind},
		{m, better, last(steps(1, none), api.Step{Kind: api.StepUnit, Clause: kind}), api.ErrKind},
		{m, better, last(steps(1, api.Step{Clause: kind}), none), api.ErrKind},
		{m, better, last(right, none), api.ErrNone},
		{m, better, append(steps(1, none), right...), api.ErrNone},
		{m, better, steps(1, none), api.ErrNone},
		{m, better, last(steps(2, api.Step{Kind: 9}), none), api.ErrNone},
		{m, better, last(right, api.Step{Kind: api.StepCon, Con: -1}), api.ErrNone},
		{m, better, last(right, api.Step{Kind: api.StepCon, Con: math.MinInt}), api.ErrNone},
		{m, better, last(right, api.Step{Kind: api.StepCon, Con: math.MaxInt}), api.ErrNone},
	} {
		if ok, e := Check(c.m, c.given, c.l); ok != (c.want == api.OK) || e != c.want {
			t.Errorf("I3: %d: %d given, %d steps: %v %d, want %d", i, len(c.given), len(c.l), ok, e, c.want)
		}
	}
	for _, w := range wrong {
		if ok, e := Check(m, []api.Clause{nil, w.c}, right); ok || e != w.want {
			t.Errorf("I3: given %v: %v %d, want %d", w.c, ok, e, w.want)
		}
		for _, k := range []int{0, 1, 2, 3} { // whatever the kind
			if ok, e := Check(m, better, last(right, api.Step{Kind: k, Con: -1, Clause: w.c})); ok || e != w.want {
				t.Errorf("I3: a step of kind %d, %v: %v %d, want %d", k, w.c, ok, e, w.want)
			}
		}
	}
}

// I3: as of all, a constraint that is none is none where there are no constraints.
func TestNoConstraints(t *testing.T) {
	m := parsed(t, "var x: 0..2; solve any;")
	if ok, e := Check(m, []api.Clause{nil}, []api.Step{{Kind: api.StepCon}}); ok || e != api.ErrNone {
		t.Errorf("I3: %v %d", ok, e)
	}
	if ok, e := Check(m, []api.Clause{nil}, []api.Step{{Kind: api.StepUnit}}); !ok || e != api.OK {
		t.Errorf("I2: %v %d", ok, e)
	}
}
