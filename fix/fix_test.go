package fix

import (
	"fmt"
	"math/rand"
	"slices"
	"strings"
	"testing"

	"cordon/api"
	"cordon/clause"
	"cordon/filter"
	"cordon/model"
	"cordon/store"
	"cordon/text"
)

// parsed model of a text that is right.
func parsed(t *testing.T, s string) api.Model {
	t.Helper()
	m, at, e := text.Parse(s)
	if e != api.OK {
		t.Fatalf("%s: %d at %d", s, e, at)
	}
	return m
}

// of: a literal.
func of(v, op, n int) api.Lit { return api.Lit{Var: v, Op: op, N: n} }

// answers of all calls, each with its error.
func answers(m api.Model, s api.Store, l []api.Clause) string {
	cons, e := Cons(m, s)
	units, f := Units(m, s, l)
	both, g := Both(m, s, l)
	return fmt.Sprintf("%v %d, %v %d, %v %d", cons, e, units, f, both, g)
}

// H1: what is left, told by hand.
func TestLeft(t *testing.T) {
	const vars = "var x: 0..2; var y: 0..2; var b: 0..1; "
	const chain = "var a: 0..3; var b: 0..3; var c: 0..3; var d: 0..3; con le [1, -1] [a, b] -1; con le [1, -1] [b, c] -1; con le [1, -1] [c, d] -1; "
	const example = vars + "con le [1, -1] [x, y] -1; con iff b y == 2; con clause [b == 0, x != 1]; "
	isOne := api.Clause{of(0, api.OpEq, 1)}
	step := func(v, w int) api.Clause { return api.Clause{of(v, api.OpNe, 1), of(w, api.OpEq, 1)} } // if v is 1 w is
	for _, c := range []struct {
		text                string
		s                   api.Store
		l                   []api.Clause
		cons, units, unison string
	}{
		// nothing says anything
		{vars, nil, nil, "[[0 1 2] [0 1 2] [0 1]]", "[[0 1 2] [0 1 2] [0 1]]", "[[0 1 2] [0 1 2] [0 1]]"},
		{vars, api.Store{{0, 2}, {1}, {0}}, nil, "[[0 2] [1] [0]]", "[[0 2] [1] [0]]", "[[0 2] [1] [0]]"},
		// the document's example; x is 1 in the second one: so y is 2, and b 1, and x is not 1
		{example, nil, nil, "[[0 1] [1 2] [0 1]]", "[[0 1 2] [0 1 2] [0 1]]", "[[0 1] [1 2] [0 1]]"},
		{example, nil, []api.Clause{isOne}, "[[0 1] [1 2] [0 1]]", "[[1] [0 1 2] [0 1]]", "[[] [] []]"},
		{example, api.Store{{1}, {0, 1, 2}, {0, 1}}, nil, "[[] [] []]", "[[1] [0 1 2] [0 1]]", "[[] [] []]"},
		// again and again, forwards and backwards
		{chain, nil, nil, "[[0] [1] [2] [3]]", "[[0 1 2 3] [0 1 2 3] [0 1 2 3] [0 1 2 3]]", "[[0] [1] [2] [3]]"},
		{chain, api.Store{{0, 1}, {0, 1, 2, 3}, {0, 1, 2}, {1, 2, 3}}, nil, "[[0] [1] [2] [3]]", "[[0 1] [0 1 2 3] [0 1 2] [1 2 3]]", "[[0] [1] [2] [3]]"},
		{chain, api.Store{{1, 2}, {0, 1, 2, 3}, {0, 1, 2, 3}, {0, 1, 2, 3}}, nil, "[[] [] [] []]", "[[1 2] [0 1 2 3] [0 1 2 3] [0 1 2 3]]", "[[] [] [] []]"},
		// clauses again and again, in an order that asks for it
		{vars, nil, []api.Clause{step(1, 2), step(0, 1), isOne}, "[[0 1 2] [0 1 2] [0 1]]", "[[1] [1] [1]]", "[[1] [1] [1]]"},
		{vars, nil, []api.Clause{isOne, step(0, 1), step(1, 2)}, "[[0 1 2] [0 1 2] [0 1]]", "[[1] [1] [1]]", "[[1] [1] [1]]"},
		{vars, nil, []api.Clause{{of(2, api.OpEq, 0)}, step(1, 2), step(0, 1), isOne}, "[[0 1 2] [0 1 2] [0 1]]", "[[] [] []]", "[[] [] []]"},
		// constraints and clauses by turns: neither alone goes so far
		{vars + "con eq [1, -1] [x, y] 0; con eq [1, -1] [y, b] 0;", nil, []api.Clause{{of(2, api.OpLe, 0), of(2, api.OpGe, 2)}}, "[[0 1] [0 1] [0 1]]", "[[0 1 2] [0 1 2] [0]]", "[[0] [0] [0]]"},
		{vars + "con ne [1, -1] [y, b] 0;", nil, []api.Clause{step(0, 1), isOne, {of(2, api.OpNe, 0), of(1, api.OpNe, 1)}}, "[[0 1 2] [0 1 2] [0 1]]", "[[1] [1] [1]]", "[[] [] []]"},
		// a variable has none, at the beginning or later: all have none, those of no constraint and no clause too
		{vars, api.Store{{}, {0, 1}, {0}}, nil, "[[] [] []]", "[[] [] []]", "[[] [] []]"},
		{vars, api.Store{{0, 1}, {0, 1}, {}}, []api.Clause{isOne}, "[[] [] []]", "[[] [] []]", "[[] [] []]"},
		{example, api.Store{{0}, {}, {0}}, []api.Clause{isOne}, "[[] [] []]", "[[] [] []]", "[[] [] []]"},
		{vars + "con eq [1] [x] 5;", nil, nil, "[[] [] []]", "[[0 1 2] [0 1 2] [0 1]]", "[[] [] []]"},
		{vars + "con clause [];", nil, nil, "[[] [] []]", "[[0 1 2] [0 1 2] [0 1]]", "[[] [] []]"},
		{vars, nil, []api.Clause{isOne, nil}, "[[0 1 2] [0 1 2] [0 1]]", "[[] [] []]", "[[] [] []]"},
		{vars, nil, []api.Clause{{of(1, api.OpEq, 9)}}, "[[0 1 2] [0 1 2] [0 1]]", "[[] [] []]", "[[] [] []]"},
		// nothing more is said than one by one: no two of three can differ, with two values
		{"var p: 0..1; var q: 0..1; var r: 0..1; con ne [1, -1] [p, q] 0; con ne [1, -1] [q, r] 0; con ne [1, -1] [p, r] 0;", nil, nil, "[[0 1] [0 1] [0 1]]", "[[0 1] [0 1] [0 1]]", "[[0 1] [0 1] [0 1]]"},
	} {
		m := parsed(t, c.text+" solve any;")
		if c.s == nil {
			c.s, _ = store.Begin(m)
		}
		want := fmt.Sprintf("%s 0, %s 0, %s 0", c.cons, c.units, c.unison)
		if got := answers(m, c.s, c.l); got != want {
			t.Errorf("H1: %s of %v, %v: %s, want %s", c.text, c.s, c.l, got, want)
		}
	}
}

// H1, P1: errors, in the promise's order, and with nothing beside.
func TestErrors(t *testing.T) {
	m := parsed(t, "var x: 0..2; var y: 0..2; con le [1, -1] [x, y] -1; solve any;")
	right, failed := api.Store{{0, 1}, {1, 2}}, api.Store{{}, {1, 2}}
	wrong := m
	wrong.Goal = 9
	long := slices.Repeat(api.Clause{of(0, api.OpLe, 0)}, 41)
	none, kind, far := api.Clause{of(2, 9, 9000)}, api.Clause{{}}, api.Clause{of(1, api.OpEq, -1001)}
	for _, c := range []struct {
		m     api.Model
		s     api.Store
		l     []api.Clause
		e     api.Errno // of all
		units api.Errno // if it is of Units and Both alone
	}{
		{api.Model{}, right, nil, api.ErrForm, 0},
		{api.Model{}, nil, make([]api.Clause, 601), api.ErrForm, 0},
		{wrong, right, nil, api.ErrKind, 0},
		{wrong, nil, []api.Clause{long}, api.ErrKind, 0},
		{m, nil, nil, api.ErrForm, 0},
		{m, nil, make([]api.Clause, 601), api.ErrForm, 0},
		{m, api.Store{{0}, {0}, {0}}, []api.Clause{none}, api.ErrForm, 0},
		{m, api.Store{{3}, {}}, []api.Clause{long}, api.ErrRange, 0},
		{m, api.Store{{}, {1, 0}}, []api.Clause{kind}, api.ErrState, 0},
		{m, right, make([]api.Clause, 601), 0, api.ErrMany},
		{m, failed, slices.Repeat([]api.Clause{none}, 601), 0, api.ErrMany},
		{m, right, []api.Clause{long}, 0, api.ErrMany},
		{m, right, []api.Clause{nil, none}, 0, api.ErrNone},
		{m, right, []api.Clause{kind, nil}, 0, api.ErrKind},
		{m, right, []api.Clause{{of(0, api.OpEq, 0)}, far}, 0, api.ErrRange},
		{m, failed, []api.Clause{nil, kind}, 0, api.ErrKind},
		// clause by clause
		{m, right, []api.Clause{far, kind, none, long}, 0, api.ErrRange},
		{m, right, []api.Clause{kind, none, long, far}, 0, api.ErrKind},
		{m, right, append(make([]api.Clause, 599), none), 0, api.ErrNone},
	} {
		cons, e := Cons(c.m, c.s)
		if e != c.e || c.e != api.OK && cons != nil {
			t.Errorf("H1: Cons of %v: %v %d, want %d", c.s, cons, e, c.e)
		}
		units, e := Units(c.m, c.s, c.l)
		both, f := Both(c.m, c.s, c.l)
		if want := max(c.e, c.units); units != nil || e != want || both != nil || f != want {
			t.Errorf("H1: of %v, %d clauses: Units %v %d, Both %v %d, want %d", c.s, len(c.l), units, e, both, f, want)
		}
	}
}

// pool of constraints, of each kind, of four variables.
var pool = []string{
	"le [1, -1] [a, b] -1", "le [1, 1, 1] [b, c, d] 0", "eq [1, 1] [a, c] 1", "eq [2, -1, 1] [a, b, d] 0", "ne [1, -1] [c, d] 0", "ne [1] [a] 1",
	"differ [a, b, c]", "differ [b, c, d]", "element [1, 0, 2] b c", "element [2, 1, 1, 0] d a", "table [a, d] [[0, 1], [1, 2], [-1, 0], [2, 2]]",
	"table [b, c] [[0, 0], [1, 1], [2, 0]]", "times a b c", "times d d b", "max d [a, b]", "max a [b, c, d]", "clause [a >= 1, b == 0]",
	"clause [c != 1, d <= 0, a == -1]", "clause []", "iff c d == 1", "iff b a >= 1",
}

// drawn model: up to five of the pool.
func drawn(t *testing.T, r *rand.Rand) api.Model {
	text := "var a: -1..2; var b: 0..2; var c: -1..1; var d: 0..2; "
	for range r.Intn(6) {
		if con := pool[r.Intn(len(pool))]; con != "clause []" || r.Intn(4) == 0 {
			text += "con " + con + "; "
		}
	}
	return parsed(t, text+"solve any;")
}

// drawnStore: most of the values that a model has; now and then of a variable none.
func drawnStore(r *rand.Rand, m api.Model) api.Store {
	s, _ := store.Begin(m)
	for v := range s {
		s[v] = slices.DeleteFunc(s[v], func(int) bool { return r.Intn(5) == 0 })
	}
	return s
}

// drawnClauses: up to six, of one to four literals.
func drawnClauses(r *rand.Rand) []api.Clause {
	var l []api.Clause
	for range r.Intn(7) {
		var c api.Clause
		for range 1 + r.Intn(4) {
			c = append(c, of(r.Intn(4), 1+r.Intn(4), r.Intn(5)-1))
		}
		l = append(l, c)
	}
	return l
}

// hasNone: has a variable no values?
func hasNone(s api.Store) bool {
	return slices.ContainsFunc(s, func(values []int) bool { return len(values) == 0 })
}

// wanted: what H1 says, each round in an order that is drawn: one of what narrows after the other, till none changes anything.
func wanted(r *rand.Rand, s api.Store, all []func(api.Store) api.Store) api.Store {
	for before := ""; before != fmt.Sprint(s); {
		before = fmt.Sprint(s)
		for _, i := range r.Perm(len(all)) {
			if !hasNone(s) {
				s = all[i](s)
			}
		}
	}
	if hasNone(s) {
		return make(api.Store, len(s))
	}
	return s
}

// narrowers: the calls of chapters 6 and 7, of each constraint and each clause.
func narrowers(m api.Model, l []api.Clause) (cons, units []func(api.Store) api.Store) {
	for con := range m.Cons {
		cons = append(cons, func(s api.Store) api.Store { t, _ := filter.Filter(m, con, s); return t })
	}
	for _, c := range l {
		units = append(units, func(s api.Store) api.Store { t, _ := clause.Unit(m, s, c); return t })
	}
	return cons, units
}

// H1: drawn models, stores and clauses: in whatever order it is the same.
func TestDrawn(t *testing.T) {
	r := rand.New(rand.NewSource(81))
	further, failed := 0, 0
	for range 3000 {
		m, l := drawn(t, r), drawnClauses(r)
		s := drawnStore(r, m)
		cons, units := narrowers(m, l)
		want := fmt.Sprintf("%v 0, %v 0, %v 0", wanted(r, s, cons), wanted(r, s, units), wanted(r, s, slices.Concat(cons, units)))
		got := answers(m, s, l)
		if got != want {
			t.Fatalf("H1: %+v of %v, %v: %s, want %s", m.Cons, s, l, got, want)
		}
		parts := strings.Split(got, ", ")
		if parts[2] != parts[0] && parts[2] != parts[1] {
			further++
		}
		if strings.HasPrefix(parts[2], "[[] [] [] []]") {
			failed++
		}
	}
	if further < 300 || failed < 300 || failed > 2700 {
		t.Errorf("of 3000: Both went further %d times, failed %d times: too few tell anything", further, failed)
	}
}

// call: one of the three, of a store; and whether constraints and clauses say something in it.
type call struct {
	name        string
	cons, units bool
	do          func(m api.Model, s api.Store, l []api.Clause) (api.Store, api.Errno)
}

var calls = []call{
	{"Cons", true, false, func(m api.Model, s api.Store, _ []api.Clause) (api.Store, api.Errno) { return Cons(m, s) }},
	{"Units", false, true, Units},
	{"Both", true, true, Both},
}

// allHold: do all that a call goes by hold of values, which are out of a store?
func (c call) allHold(m api.Model, l []api.Clause, values []int) bool {
	if c.cons {
		if ok, _ := model.All(m, values); !ok {
			return false
		}
	}
	return !c.units || !slices.ContainsFunc(l, func(x api.Clause) bool { ok, _ := clause.Holds(m, x, values); return !ok })
}

// each values of four variables, out of a store.
func each(s api.Store, do func(values []int)) {
	for _, a := range s[0] {
		for _, b := range s[1] {
			for _, c := range s[2] {
				for _, d := range s[3] {
					do([]int{a, b, c, d})
				}
			}
		}
	}
}

// H2: no values of which all of it holds are lost; what is within is within; done twice it is done once.
func TestNothingIsLost(t *testing.T) {
	r := rand.New(rand.NewSource(82))
	held := map[string]int{}
	for range 600 {
		m, l := drawn(t, r), drawnClauses(r)
		s := drawnStore(r, m)
		part, _ := store.Meet(m, s, drawnStore(r, m))
		for _, c := range calls {
			got, _ := c.do(m, s, l)
			each(s, func(values []int) {
				if c.allHold(m, l, values) {
					held[c.name]++
					for v, n := range values {
						if !slices.Contains(got[v], n) {
							t.Fatalf("H2: %s of %v: %v has not %v", c.name, s, got, values)
						}
					}
				}
			})
			if in, e := store.Within(m, got, s); !in || e != api.OK {
				t.Fatalf("H2: %s of %v: %v is not within, %d", c.name, s, got, e)
			}
			less, _ := c.do(m, part, l)
			if in, e := store.Within(m, less, got); !in || e != api.OK {
				t.Fatalf("H2: %s: %v is within %v, but not %v within %v", c.name, part, s, less, got)
			}
			if again, e := c.do(m, got, l); fmt.Sprint(again) != fmt.Sprint(got) || e != api.OK {
				t.Fatalf("H2: %s of %v: %v, then %v %d", c.name, s, got, again, e)
			}
		}
	}
	for _, c := range calls {
		if held[c.name] < 500 {
			t.Errorf("%s: all holds of only %d values", c.name, held[c.name])
		}
	}
}

// oneByOne: as many clauses, with as many literals, as there may be, of six variables from 45 to 50: one value goes, then
// another because of it, and so on, till only 50 is left; but the one that goes first stands last.
func oneByOne() []api.Clause {
	l := []api.Clause{slices.Repeat(api.Clause{of(0, api.OpNe, 45)}, api.MaxLits)}
	gone := of(0, api.OpEq, 45)
	for n := 45; n < 50; n++ {
		for v := range api.MaxVars {
			c := slices.Repeat(api.Clause{gone}, api.MaxLits)
			c[0] = of(v, api.OpNe, n)
			if n > 45 || v > 0 {
				l = append(l, c)
			}
			gone = of(v, api.OpEq, n)
		}
	}
	idle := slices.Repeat(api.Clause{of(0, api.OpLe, 50)}, api.MaxLits)
	l = append(l, slices.Repeat([]api.Clause{idle}, api.MaxClauses-len(l))...)
	slices.Reverse(l)
	return l
}

// H1: the greatest that there is, round by round by round.
func TestGreatest(t *testing.T) {
	var m api.Model
	for i := range api.MaxVars {
		m.Vars = append(m.Vars, api.Var{Name: string(rune('a' + i)), Lo: 45, Hi: 50})
	}
	idle := api.Con{Kind: api.ConLe, Vars: []int{0, 2, 3, 5}, Consts: []int{1, 1, 1, 1}, N: 200}
	m.Cons = slices.Repeat([]api.Con{idle}, api.MaxCons)
	s, _ := store.Begin(m)
	want := fmt.Sprint(s) + " 0, [[50] [50] [50] [50] [50] [50]] 0, [[50] [50] [50] [50] [50] [50]] 0"
	if got := answers(m, s, oneByOne()); got != want {
		t.Errorf("H1: %s, want %s", got, want)
	}
}

// roomy list: with marks in the room behind it.
func roomy(l []int) []int { return append(slices.Clone(l), 77, 78)[:len(l)] }

// withRoom: all that is handed in, and what lies behind its lists.
func withRoom(m api.Model, s api.Store, l []api.Clause) string {
	out := fmt.Sprintf("%+v %v %v", m, s[:cap(s)], l[:cap(l)])
	for _, c := range m.Cons {
		out += fmt.Sprint(c.Vars[:cap(c.Vars)], c.Lits[:cap(c.Lits)])
	}
	for _, values := range s {
		out += fmt.Sprint(values[:cap(values)])
	}
	for _, c := range l {
		out += fmt.Sprint(c[:cap(c)])
	}
	return out
}

// P2, P3: what is handed in is only read, the room behind it too; what comes out is new, and the same each time.
func TestApart(t *testing.T) {
	r := rand.New(rand.NewSource(83))
	for range 300 {
		m, l := drawn(t, r), drawnClauses(r)
		s := drawnStore(r, m)
		for i, c := range m.Cons {
			m.Cons[i].Vars = roomy(c.Vars)
			m.Cons[i].Lits = append(slices.Clone(c.Lits), of(77, 77, 77))[:len(c.Lits)]
		}
		for v, values := range s {
			s[v] = roomy(values)
		}
		s = append(slices.Clip(s), []int{79})[:len(s)]
		for i, c := range l {
			l[i] = append(slices.Clone(c), of(77, 77, 77))[:len(c)]
		}
		l = append(slices.Clip(l), api.Clause{of(78, 78, 78)})[:len(l)]
		before, first := withRoom(m, s, l), answers(m, s, l)
		for _, c := range calls {
			got, _ := c.do(m, s, l)
			mark(t, got)
		}
		if after := withRoom(m, s, l); after != before {
			t.Fatalf("P2: %s was handed in, and is %s", before, after)
		}
		if again := answers(m, s, l); again != first {
			t.Errorf("P3: %s, then %s", first, again)
		}
	}
}

// mark all of an answer, and see that no list of it is marked by another.
func mark(t *testing.T, s api.Store) {
	t.Helper()
	for v, l := range s {
		l = l[:cap(l)]
		for i := range l {
			l[i] = 100 + v
		}
	}
	for v, l := range s {
		if slices.ContainsFunc(l, func(n int) bool { return n != 100+v }) {
			t.Errorf("P2: list %d shares memory: %v", v, s)
		}
	}
}
