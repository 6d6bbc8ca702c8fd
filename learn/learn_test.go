package learn

import (
	"fmt"
	"math"
	"math/rand"
	"slices"
	"testing"

	"cordon/api"
	"cordon/clause"
	"cordon/fix"
	"cordon/lit"
	"cordon/model"
	"cordon/proof"
	"cordon/store"
	"cordon/text"
)

// parsed model of a text that is right.
func parsed(t *testing.T, s string) api.Model {
	t.Helper()
	m, at, e := text.Parse(s)
	if e != api.OK {
		t.Fatalf("%s: %d at %d", s, e, at)
	}
	return m
}

// of: a literal.
func of(v, op, n int) api.Lit { return api.Lit{Var: v, Op: op, N: n} }

// example of the document: x, y, b.
const example = "var x: 0..2; var y: 0..2; var b: 0..1; con le [1, -1] [x, y] -1; con iff b y == 2; con clause [b == 0, x != 1]; solve most x;"

// K1: what is learned where it is not free, told by hand; K2: false where Learn is.
func TestForced(t *testing.T) {
	const two = "var x: 0..2; var y: 0..2; con le [1, -1] [x, y] -1; solve any;"
	const never = "var x: 0..1; con clause []; solve any;"
	for _, c := range []struct {
		text      string
		l         []api.Clause
		decisions []api.Lit
		want      string
	}{
		{example, nil, nil, "[] false"},
		{example, nil, []api.Lit{of(0, api.OpEq, 0)}, "[] false"},
		{example, nil, []api.Lit{of(0, api.OpEq, 1)}, "[{0 4 1}] true"},
		{example, nil, []api.Lit{of(0, api.OpGe, 1)}, "[{0 1 0}] true"},
		{example, nil, []api.Lit{of(0, api.OpNe, 0)}, "[{0 3 0}] true"},
		{example, nil, []api.Lit{of(1, api.OpLe, 0)}, "[{1 2 1}] true"},
		{example, nil, []api.Lit{of(1, api.OpEq, 2), of(0, api.OpEq, 1), of(2, api.OpEq, 1)}, "[{0 4 1}] true"},
		{example, nil, []api.Lit{of(1, api.OpEq, 2), of(2, api.OpEq, 0)}, "[{1 4 2} {2 4 0}] true"},
		{example, nil, []api.Lit{of(2, api.OpEq, 0), of(1, api.OpEq, 2)}, "[{2 4 0} {1 4 2}] true"},
		{example, nil, []api.Lit{of(1, api.OpEq, 2), of(2, api.OpLe, 0), of(0, api.OpLe, 9)}, "[{1 4 2} {2 2 1}] true"},
		{example, nil, []api.Lit{of(1, api.OpEq, 2), of(2, api.OpEq, 1), of(0, api.OpLe, 9)}, "[] false"},
		{two, nil, []api.Lit{of(0, api.OpEq, 1)}, "[] false"},
		{two, nil, []api.Lit{of(0, api.OpEq, 1), of(1, api.OpEq, 1)}, "[{0 4 1} {1 4 1}] true"},
		// what is decided twice is learned once
		{two, nil, []api.Lit{of(0, api.OpEq, 2), of(0, api.OpEq, 2)}, "[{0 4 2}] true"},
		// decisions that leave nothing by themselves
		{two, nil, []api.Lit{of(0, api.OpEq, 0), of(1, api.OpEq, 1), of(0, api.OpEq, 1)}, "[{0 4 0} {0 4 1}] true"},
		{two, nil, []api.Lit{of(0, api.OpEq, 7)}, "[{0 4 7}] true"},
		{two, nil, []api.Lit{of(0, api.OpNe, 7)}, "[] false"},
		// what fails with no decisions fails with none of them
		{never, nil, nil, "[] true"},
		{never, nil, []api.Lit{of(0, api.OpEq, 0), of(0, api.OpEq, 1)}, "[] true"},
		{two, []api.Clause{nil}, []api.Lit{of(0, api.OpEq, 0)}, "[] true"},
		{two, []api.Clause{{of(0, api.OpEq, 2)}}, []api.Lit{of(0, api.OpEq, 0)}, "[] true"},
		// clauses, and what they and the constraint say together
		{two, []api.Clause{{of(0, api.OpEq, 1)}}, nil, "[] false"},
		{two, []api.Clause{{of(0, api.OpEq, 1)}}, []api.Lit{of(1, api.OpLe, 1)}, "[{1 2 2}] true"},
		{two, []api.Clause{{of(0, api.OpEq, 1)}}, []api.Lit{of(1, api.OpEq, 2)}, "[] false"},
		{two, []api.Clause{{of(0, api.OpEq, 1), of(1, api.OpNe, 2)}}, []api.Lit{of(0, api.OpEq, 0), of(1, api.OpGe, 2)}, "[{0 4 0} {1 1 1}] true"},
		{two, []api.Clause{{of(0, api.OpGe, 1), of(1, api.OpLe, 1)}}, []api.Lit{of(1, api.OpEq, 2), of(0, api.OpLe, 0)}, "[{1 4 2} {0 2 1}] true"},
		// the ends of what a literal may say
		{two, nil, []api.Lit{of(0, api.OpLe, -1000)}, "[{0 2 -999}] true"},
		{two, nil, []api.Lit{of(0, api.OpGe, 1000)}, "[{0 1 999}] true"},
		{two, nil, []api.Lit{of(0, api.OpEq, -1000)}, "[{0 4 -1000}] true"},
		{two, nil, []api.Lit{of(0, api.OpNe, 1000), of(1, api.OpNe, -1000), of(1, api.OpLe, 999), of(0, api.OpGe, -999)}, "[] false"},
	} {
		m := parsed(t, c.text)
		got, ok, e := Learn(m, c.l, c.decisions)
		if said := fmt.Sprint(got, ok); said != c.want || e != api.OK {
			t.Errorf("K1: Learn(%v, %v) = %s %d, want %s", c.l, c.decisions, said, e, c.want)
		}
		steps, is, e := Steps(m, c.l, c.decisions)
		if is != ok || e != api.OK || !is && steps != nil {
			t.Errorf("K2: Steps(%v, %v) = %v %v %d, want %v", c.l, c.decisions, steps, is, e, ok)
		}
		if why := led(m, c.l, steps, got); is && why != "" {
			t.Errorf("K2: Steps(%v, %v) = %v: %s", c.l, c.decisions, steps, why)
		}
	}
}

// fails: is nothing left, in the chapter's words, when these are put?
func fails(m api.Model, l []api.Clause, decisions []api.Lit) bool {
	s, _ := store.Begin(m)
	for _, d := range decisions {
		s, _ = lit.Put(m, s, d)
	}
	s, _ = fix.Both(m, s, l)
	failed, _ := store.Failed(m, s)
	return failed
}

// learnedWell tells what is wrong with a clause that is said to be learned.
func learnedWell(m api.Model, l []api.Clause, decisions []api.Lit, c api.Clause) string {
	own := make([]api.Lit, len(c))
	for i, x := range c {
		at := slices.IndexFunc(decisions, func(d api.Lit) bool { not, _ := lit.Not(m, d); return not == x })
		if at < 0 {
			return fmt.Sprintf("%v is no opposite of a decision", x)
		}
		own[i] = decisions[at]
	}
	if !fails(m, l, own) {
		return fmt.Sprintf("with %v it does not fail", own)
	}
	for i := range own {
		if fails(m, l, slices.Delete(slices.Clone(own), i, i+1)) {
			return fmt.Sprintf("%v can be left out", own[i])
		}
	}
	return ""
}

// says: do clauses, which may be more than Unit takes, say a clause?
func says(m api.Model, l []api.Clause, c api.Clause) bool {
	s, _ := store.Begin(m)
	s, _ = clause.Deny(m, s, c)
	for before := ""; before != fmt.Sprint(s); {
		before = fmt.Sprint(s)
		for some := range slices.Chunk(l, api.MaxClauses) {
			s, _ = fix.Units(m, s, some)
		}
	}
	failed, _ := store.Failed(m, s)
	return failed
}

// led tells what is wrong with steps that are said to lead to a clause.
func led(m api.Model, l []api.Clause, steps []api.Step, c api.Clause) string {
	if len(steps) == 0 || len(steps) > api.MaxSteps {
		return fmt.Sprintf("%d steps", len(steps))
	}
	if last := steps[len(steps)-1].Clause; !slices.Equal(last, c) {
		return fmt.Sprintf("the last one is %v, and not %v", last, c)
	}
	ahead := slices.Clone(l)
	for i, s := range steps {
		if e := clause.Check(m, s.Clause); e != api.OK {
			return fmt.Sprintf("step %d: %d", i, e)
		}
		right := s.Kind == api.StepUnit && s.Con == 0 && says(m, ahead, s.Clause)
		if s.Kind == api.StepCon {
			right, _ = proof.Con(m, s.Con, s.Clause)
		}
		if !right {
			return fmt.Sprintf("step %d, %v, is wrong", i, s)
		}
		ahead = append(ahead, s.Clause)
	}
	return ""
}

// cons of each kind.
var cons = []string{
	"le [1, -1] [a, b] -1", "le [1, 1, 1] [a, b, c] 1", "eq [1, 1] [b, c] 2", "eq [2, -1, 1] [a, b, c] 0", "ne [1, -1] [b, c] 0", "ne [1] [a] 1",
	"differ [a, b, c]", "differ [b, d]", "element [1, 0, 2] b c", "element [0, 9, 1] c a", "table [a, b] [[0, 1], [1, 2], [-1, 0], [1, 9]]",
	"times a b c", "times b c b", "max c [a, b]", "max a [b]", "clause [a >= 1, b == 0]", "clause [c != 1, b <= 0, a == -1]", "iff c b == 1", "iff b a >= 1",
	"iff d a == 0", "eq [1, 1] [d, b] 3", "differ [a, b, c, d]", "clause [a == 9]", "clause []",
}

// drawnModel of four variables and some constraints.
func drawnModel(t *testing.T, r *rand.Rand) api.Model {
	s := "var a: -1..1; var b: 0..2; var c: 0..2; var d: 0..3; "
	for range r.Intn(4) {
		n := len(cons)
		if r.Intn(8) > 0 {
			n -= 2 // seldom one that never holds
		}
		s += "con " + cons[r.Intn(n)] + "; "
	}
	return parsed(t, s+"solve any;")
}

// drawnLit of a model, mostly about values that its variable may have.
func drawnLit(m api.Model, r *rand.Rand) api.Lit {
	v := r.Intn(len(m.Vars))
	return of(v, 1+r.Intn(4), m.Vars[v].Lo-1+r.Intn(m.Vars[v].Hi-m.Vars[v].Lo+3))
}

// drawnClauses of a model.
func drawnClauses(m api.Model, r *rand.Rand, most int) []api.Clause {
	l := make([]api.Clause, r.Intn(most+1))
	for i := range l {
		for range 2 + r.Intn(2) {
			l[i] = append(l[i], drawnLit(m, r))
		}
	}
	return l
}

// drawnLits: decisions, mostly such that it takes several to fail.
func drawnLits(m api.Model, r *rand.Rand, most int) []api.Lit {
	l := make([]api.Lit, r.Intn(most+1))
	for i := range l {
		l[i] = drawnLit(m, r)
		if r.Intn(3) > 0 {
			l[i].Op = api.OpNe
		}
	}
	return l
}

// K1, K2: drawn models, clauses and decisions, against the chapter's words; and what is learned holds of all values of which
// the model and the clauses hold.
func TestDrawn(t *testing.T) {
	r := rand.New(rand.NewSource(111))
	learned, some, long, far := 0, 0, 0, 0
	for range 8000 {
		m := drawnModel(t, r)
		l, decisions := drawnClauses(m, r, 4), drawnLits(m, r, 8)
		c, ok, e := Learn(m, l, decisions)
		if ok != fails(m, l, decisions) || e != api.OK || !ok && c != nil {
			t.Fatalf("K1: %+v: Learn(%v, %v) = %v %v %d", m, l, decisions, c, ok, e)
		}
		steps, is, e := Steps(m, l, decisions)
		if is != ok || e != api.OK || !ok && steps != nil {
			t.Fatalf("K2: %+v: Steps(%v, %v) = %v %v %d", m, l, decisions, steps, is, e)
		}
		if !ok {
			continue
		}
		if why := learnedWell(m, l, decisions, c); why != "" {
			t.Fatalf("K1: %+v: Learn(%v, %v) = %v: %s", m, l, decisions, c, why)
		}
		if why := led(m, l, steps, c); why != "" {
			t.Fatalf("K2: %+v: Steps(%v, %v) = %v: %s", m, l, decisions, steps, why)
		}
		if values := against(m, l, c); values != nil {
			t.Fatalf("K1: %+v: Learn(%v, %v) = %v, which does not hold of %v", m, l, decisions, c, values)
		}
		learned++
		if len(c) < len(decisions) && len(c) > 0 {
			some++
		}
		if len(c) > 1 {
			long++
		}
		if len(steps) > 3 {
			far++
		}
	}
	if learned < 1000 || some < 300 || long < 300 || far < 100 {
		t.Errorf("%d were learned, %d of some decisions, %d of several, %d by several steps: too few tell anything", learned, some, long, far)
	}
}

// against a clause: values of which it does not hold, but all of the model and the clauses do.
func against(m api.Model, l []api.Clause, c api.Clause) []int {
	for code := range 3 * 3 * 3 * 4 {
		values := []int{code%3 - 1, code / 3 % 3, code / 9 % 3, code / 27}
		all, _ := model.All(m, values)
		for _, x := range l {
			holds, _ := clause.Holds(m, x, values)
			all = all && holds
		}
		if holds, _ := clause.Holds(m, c, values); all && !holds {
			return values
		}
	}
	return nil
}

// K1, K2: as many variables, values, constraints, clauses and decisions as may be.
func TestGreatest(t *testing.T) {
	m := parsed(t, `var a: 45..50; var b: -50..-45; var c: 0..5; var d: -3..2; var e: 0..5; var f: -2..3; con le [1, 1, 1, 1] [a, b, c, d] 7;
		con ne [2, 3, -1, 1] [c, d, e, f] 4; con differ [c, d, e, f]; con le [1, -1, 1, -1] [d, e, f, c] 3; con max e [c, d, f]; con ne [1, -1] [c, f] 0;
		con le [-1, -1, -1, -1] [a, b, d, f] 9; con clause [a <= 45, b >= -45, c == 5, f == -2]; solve any;`)
	r := rand.New(rand.NewSource(112))
	learned, far := 0, 0
	for range 12 {
		l := make([]api.Clause, api.MaxClauses)
		for i := range l {
			for range 38 { // these say nothing
				v := r.Intn(6)
				l[i] = append(l[i], of(v, api.OpEq, m.Vars[v].Lo-1))
			}
			l[i] = append(l[i], drawnLit(m, r), drawnLit(m, r))
		}
		some := l[:r.Intn(40)]
		if r.Intn(3) == 0 {
			some = l
		}
		decisions := make([]api.Lit, api.MaxLits)
		for i := range decisions {
			v := r.Intn(6)
			decisions[i] = of(v, api.OpNe, m.Vars[v].Lo+r.Intn(4))
		}
		c, ok, e := Learn(m, some, decisions)
		if ok != fails(m, some, decisions) || e != api.OK {
			t.Fatalf("K1: Learn of %d clauses, %v = %v %v %d", len(some), decisions, c, ok, e)
		}
		steps, is, e := Steps(m, some, decisions)
		if is != ok || e != api.OK {
			t.Fatalf("K2: Steps of %d clauses, %v = %v %v %d", len(some), decisions, steps, is, e)
		}
		if !ok {
			continue
		}
		if why := learnedWell(m, some, decisions, c); why != "" {
			t.Fatalf("K1: Learn of %d clauses, %v = %v: %s", len(some), decisions, c, why)
		}
		if why := led(m, some, steps, c); why != "" {
			t.Fatalf("K2: Steps of %d clauses, %v = %v: %s", len(some), decisions, steps, why)
		}
		learned++
		far = max(far, len(steps))
	}
	if learned < 6 || far < 4 {
		t.Errorf("%d were learned, by at most %d steps: too few tell anything", learned, far)
	}
}

// K3, P1: the model, the clauses, the decisions, their opposites; and nothing beside.
func TestErrors(t *testing.T) {
	m := parsed(t, "var x: 0..2; var y: 0..2; con le [1, -1] [x, y] -1; con clause []; solve any;")
	bad := m
	bad.Goal = 9
	many, full := make([]api.Clause, api.MaxClauses+1), make([]api.Clause, api.MaxClauses)
	long, fit := make([]api.Lit, api.MaxLits+1), slices.Repeat([]api.Lit{of(1, api.OpEq, 0)}, api.MaxLits)
	none, odd, far := []api.Lit{of(2, api.OpEq, 0)}, []api.Lit{of(0, 5, 0)}, []api.Lit{of(0, api.OpNe, 1001)}
	over, under := of(0, api.OpLe, 1000), of(1, api.OpGe, -1000)
	for _, c := range []struct {
		m         api.Model
		l         []api.Clause
		decisions []api.Lit
		want      api.Errno
	}{
		{api.Model{}, many, long, api.ErrForm},
		{bad, many, long, api.ErrKind},
		{m, many, none, api.ErrMany},
		{m, full, none, api.ErrNone},
		{m, full, fit, api.OK},
		{m, append(many, odd), long, api.ErrMany},
		// clauses: one by one
		{m, []api.Clause{nil, long}, none, api.ErrMany},
		{m, []api.Clause{nil, none, odd, long}, far, api.ErrNone},
		{m, []api.Clause{nil, odd, none, long}, far, api.ErrKind},
		{m, []api.Clause{fit, far, none, long}, long, api.ErrRange},
		{m, []api.Clause{{over}, {under}}, nil, api.OK},
		{m, []api.Clause{{of(-1, 9, 9999)}}, nil, api.ErrNone},
		{m, []api.Clause{{of(0, 9, 9999)}}, nil, api.ErrKind},
		{m, []api.Clause{{of(0, 1, math.MinInt)}}, nil, api.ErrRange},
		// decisions: one by one
		{m, nil, long, api.ErrMany},
		{m, nil, append(slices.Clone(fit), none...), api.ErrMany},
		{m, nil, slices.Concat(fit[:38], none, odd), api.ErrNone},
		{m, nil, slices.Concat(fit[:38], odd, none), api.ErrKind},
		{m, nil, slices.Concat(fit[:37], far, odd, none), api.ErrRange},
		{m, nil, []api.Lit{of(math.MaxInt, 0, 0)}, api.ErrNone},
		{m, nil, []api.Lit{of(math.MinInt, 0, 0)}, api.ErrNone},
		{m, nil, []api.Lit{of(0, math.MaxInt, 0)}, api.ErrKind},
		{m, nil, []api.Lit{of(0, 0, math.MaxInt)}, api.ErrKind},
		{m, nil, []api.Lit{of(0, 1, math.MaxInt)}, api.ErrRange},
		{m, nil, []api.Lit{of(0, 2, math.MinInt)}, api.ErrRange},
		{m, nil, []api.Lit{of(0, 3, -1001)}, api.ErrRange},
		// their opposites, behind what is wrong with themselves
		{m, nil, []api.Lit{over}, api.ErrRange},
		{m, nil, []api.Lit{fit[0], under}, api.ErrRange},
		{m, nil, []api.Lit{over, of(0, 5, 0)}, api.ErrKind},
		{m, nil, []api.Lit{under, of(2, 1, 0)}, api.ErrNone},
		{m, nil, []api.Lit{of(0, api.OpLe, 999), of(0, api.OpGe, -999), of(0, api.OpLe, -1000), of(0, api.OpGe, 1000)}, api.OK},
		{m, nil, []api.Lit{of(0, api.OpEq, 1000), of(0, api.OpEq, -1000), of(0, api.OpNe, -1000), of(0, api.OpNe, 1000)}, api.OK},
	} {
		x, ok, e := Learn(c.m, c.l, c.decisions)
		if e != c.want || e != api.OK && (x != nil || ok) || e == api.OK && !ok {
			t.Errorf("K3: Learn(%d clauses, %v) = %v %v %d, want %d", len(c.l), c.decisions, x, ok, e, c.want)
		}
		s, ok, e := Steps(c.m, c.l, c.decisions)
		if e != c.want || e != api.OK && (s != nil || ok) || e == api.OK && !ok {
			t.Errorf("K3: Steps(%d clauses, %v) = %v %v %d, want %d", len(c.l), c.decisions, s, ok, e, c.want)
		}
	}
}

// roomy list: with a mark in the room behind it.
func roomy[T any](l []T, mark T) []T { return append(slices.Clone(l), mark)[:len(l)] }

// withRoom: all that is handed in, and what lies behind its lists.
func withRoom(m api.Model, l []api.Clause, decisions []api.Lit) string {
	out := fmt.Sprintf("%+v %v %v", m, l[:cap(l)], decisions[:cap(decisions)])
	for _, c := range m.Cons {
		out += fmt.Sprint(c.Vars[:cap(c.Vars)], c.Consts[:cap(c.Consts)], c.Lits[:cap(c.Lits)])
	}
	for _, c := range l {
		out += fmt.Sprint(c[:cap(c)])
	}
	return out
}

// mark all of a clause that was answered, and the room behind it.
func mark(c api.Clause) {
	c = c[:cap(c)]
	for i := range c {
		c[i] = of(99, 99, 99)
	}
}

// P2, P3: what is handed in is only read, the room behind it too; what comes out is new, no two lists of it are one, and it
// is the same each time.
func TestApart(t *testing.T) {
	r := rand.New(rand.NewSource(113))
	for range 300 {
		m := drawnModel(t, r)
		for i, c := range m.Cons {
			m.Cons[i].Vars, m.Cons[i].Consts, m.Cons[i].Lits = roomy(c.Vars, 77), roomy(c.Consts, 77), roomy(c.Lits, of(77, 77, 77))
		}
		l, decisions := drawnClauses(m, r, 4), drawnLits(m, r, 8)
		for i, c := range l {
			l[i] = roomy(c, of(77, 77, 77))
		}
		l, decisions = roomy(l, api.Clause{of(78, 78, 78)}), roomy(decisions, of(79, 79, 79))
		before := withRoom(m, l, decisions)
		c, ok, _ := Learn(m, l, decisions)
		first := fmt.Sprint(c, ok)
		mark(c)
		if c, ok, _ = Learn(m, l, decisions); fmt.Sprint(c, ok) != first {
			t.Errorf("P3: Learn(%v, %v): %s, then %v %v", l, decisions, first, c, ok)
		}
		steps, ok, _ := Steps(m, l, decisions)
		first = fmt.Sprint(steps, ok)
		for i := range steps {
			rest := fmt.Sprint(steps[i+1:])
			mark(steps[i].Clause)
			if fmt.Sprint(steps[i+1:]) != rest {
				t.Fatalf("P2: Steps(%v, %v) = %s: clause %d has the memory of another", l, decisions, first, i)
			}
		}
		if steps, ok, _ = Steps(m, l, decisions); fmt.Sprint(steps, ok) != first {
			t.Errorf("P3: Steps(%v, %v): %s, then %v %v", l, decisions, first, steps, ok)
		}
		if after := withRoom(m, l, decisions); after != before {
			t.Fatalf("P2: %s was handed in, and is %s", before, after)
		}
	}
}
