package filter

import (
	"fmt"
	"math"
	"math/rand"
	"slices"
	"testing"

	"cordon/api"
	"cordon/model"
	"cordon/store"
	"cordon/text"
)

// parsed model of a text that is right.
func parsed(t *testing.T, s string) api.Model {
	t.Helper()
	m, at, e := text.Parse(s)
	if e != api.OK {
		t.Fatalf("%s: %d at %d", s, e, at)
	}
	return m
}

// F1: of each kind what stays, told by hand.
func TestFilter(t *testing.T) {
	const vars = "var x: 0..2; var y: 0..2; var b: 0..1; "
	for _, c := range []struct {
		text string
		s    api.Store
		want string
	}{
		// the document's example
		{vars + "con le [1, -1] [x, y] -1;", nil, "[[0 1] [1 2] [0 1]]"},
		{vars + "con iff b y == 2;", api.Store{{0, 1, 2}, {2}, {0, 1}}, "[[0 1 2] [2] [1]]"},
		{vars + "con clause [b == 0, x != 1];", api.Store{{0, 1}, {2}, {1}}, "[[0] [2] [1]]"},
		// each kind
		{vars + "con eq [1, 1] [x, y] 4;", nil, "[[2] [2] [0 1]]"},
		{vars + "con eq [2, 2] [x, y] 4;", api.Store{{0, 1}, {0, 1, 2}, {0}}, "[[0 1] [1 2] [0]]"},
		{vars + "con ne [1, -1] [x, y] 0;", api.Store{{0, 1, 2}, {1}, {0, 1}}, "[[0 2] [1] [0 1]]"},
		{vars + "con differ [x, y, b];", api.Store{{0, 1, 2}, {0, 1}, {0, 1}}, "[[2] [0 1] [0 1]]"},
		{vars + "con element [2, 5, 0, 1] x y;", nil, "[[0 2] [0 2] [0 1]]"},
		{vars + "con element [1] x y;", api.Store{{0, 1, 2}, {0, 1, 2}, {0, 1}}, "[[0] [1] [0 1]]"},
		{vars + "con table [y, x] [[0, 1], [2, 1], [1, 9]];", nil, "[[1] [0 2] [0 1]]"},
		{vars + "con times x x y;", nil, "[[0 1] [0 1] [0 1]]"},
		{vars + "con times x y b;", api.Store{{1, 2}, {0, 1, 2}, {1}}, "[[1] [1] [1]]"},
		{vars + "con max b [x, y];", nil, "[[0 1] [0 1] [0 1]]"},
		{vars + "con max x [y, b];", api.Store{{1, 2}, {0, 2}, {0}}, "[[2] [2] [0]]"},
		{vars + "con clause [x >= 2, y <= 0, x == 0];", api.Store{{1}, {0, 1}, {0}}, "[[1] [0] [0]]"},
		{vars + "con iff x y != 1;", nil, "[[0 1] [0 1 2] [0 1]]"},
		{vars + "con iff x y >= 3;", api.Store{{0, 1, 2}, {0, 2}, {1}}, "[[0] [0 2] [1]]"},
		// nothing is part of too little
		{vars + "con le [0] [x] 0;", nil, "[[0 1 2] [0 1 2] [0 1]]"},
		{vars + "con clause [b >= -1000];", nil, "[[0 1 2] [0 1 2] [0 1]]"},
		// a variable more than once
		{vars + "con eq [2, -2] [x, x] 0;", nil, "[[0 1 2] [0 1 2] [0 1]]"},
		{vars + "con eq [1, 1] [x, x] 2;", nil, "[[1] [0 1 2] [0 1]]"},
		{vars + "con differ [y, y];", nil, "[[0 1 2] [] [0 1]]"},
		{vars + "con max x [x, y];", api.Store{{0, 1}, {1, 2}, {0}}, "[[1] [1] [0]]"},
		{vars + "con iff b b == 0;", nil, "[[0 1 2] [0 1 2] []]"},
		{vars + "con element [2, 1] x x;", nil, "[[1] [0 1 2] [0 1]]"},
		// there are none: of its Scope alone
		{vars + "con eq [2, 2] [x, y] 3;", nil, "[[] [] [0 1]]"},
		{vars + "con differ [b, x, y];", api.Store{{0, 1}, {0, 1}, {0, 1}}, "[[] [] []]"},
		{vars + "con table [b, y] [];", nil, "[[0 1 2] [] []]"},
		{vars + "con clause [y <= -1];", nil, "[[0 1 2] [] [0 1]]"},
		// its Scope is empty: of all
		{vars + "con clause [];", nil, "[[] [] []]"},
		{vars + "con clause [];", api.Store{{0}, {1}, {0, 1}}, "[[] [] []]"},
		// it has failed: it stays, whatever the constraint would take
		{vars + "con le [1, -1] [x, y] -1;", api.Store{{}, {0, 1, 2}, {0, 1}}, "[[] [0 1 2] [0 1]]"},
		{vars + "con le [1, -1] [x, y] -1;", api.Store{{0, 1, 2}, {0, 1, 2}, {}}, "[[0 1 2] [0 1 2] []]"},
		{vars + "con clause [];", api.Store{{0, 1, 2}, {}, {1}}, "[[0 1 2] [] [1]]"},
		{vars + "con clause [];", api.Store{{}, {}, {}}, "[[] [] []]"},
	} {
		m := parsed(t, c.text+" solve any;")
		if c.s == nil {
			c.s, _ = store.Begin(m)
		}
		if got, e := Filter(m, 0, c.s); fmt.Sprint(got) != c.want || e != api.OK {
			t.Errorf("F1: %s of %v: %v %d, want %s", c.text, c.s, got, e, c.want)
		}
	}
}

// F1: it is that constraint which filters.
func TestFilterOfTheRightOne(t *testing.T) {
	m := parsed(t, "var x: 0..3; con ne [1] [x] 0; con ne [1] [x] 1; con ne [1] [x] 3; solve any;")
	for con, want := range []string{"[[1 2 3]]", "[[0 2 3]]", "[[0 1 2]]"} {
		if got, e := Filter(m, con, api.Store{{0, 1, 2, 3}}); fmt.Sprint(got) != want || e != api.OK {
			t.Errorf("F1: by %d: %v %d, want %s", con, got, e, want)
		}
	}
}

// F1, P1: errors, in the promise's order, and with nothing beside.
func TestErrors(t *testing.T) {
	m := parsed(t, "var x: 0..2; var y: 0..2; con le [1, -1] [x, y] -1; con clause []; solve any;")
	bare := api.Model{Vars: m.Vars}
	right := api.Store{{0, 1}, {1, 2}}
	failed := api.Store{{}, {1, 2}}
	wrong := m
	wrong.Goal = 9
	for _, c := range []struct {
		m    api.Model
		con  int
		s    api.Store
		want api.Errno
	}{
		{m, -1, right, api.ErrNone},
		{m, 2, right, api.ErrNone},
		{m, math.MaxInt, right, api.ErrNone},
		{m, math.MinInt, right, api.ErrNone},
		{bare, 0, right, api.ErrNone},
		{m, 2, failed, api.ErrNone},
		{m, 0, nil, api.ErrForm},
		{m, 9, nil, api.ErrForm},
		{m, 0, api.Store{{0}, {0}, {0}}, api.ErrForm},
		{m, 0, api.Store{{3}, {0}}, api.ErrRange},
		{m, 9, api.Store{{}, {-1}}, api.ErrRange},
		{m, 0, api.Store{{0}, {1, 0}}, api.ErrState},
		{m, -1, api.Store{{}, {1, 1}}, api.ErrState},
		{api.Model{}, 0, right, api.ErrForm},
		{api.Model{}, -1, nil, api.ErrForm},
		{wrong, 0, right, api.ErrKind},
		{wrong, 9, nil, api.ErrKind},
	} {
		if got, e := Filter(c.m, c.con, c.s); got != nil || e != c.want {
			t.Errorf("F1: by %d of %v: %v %d, want %d", c.con, c.s, got, e, c.want)
		}
	}
}

// some numbers, drawn one by one.
func some(n int, next func() int) []int {
	out := make([]int, n)
	for i := range out {
		out[i] = next()
	}
	return out
}

// drawCon: a right constraint of a kind, with numbers that its variables may well have.
func drawCon(r *rand.Rand, kind, vars int) api.Con {
	variable := func() int { return r.Intn(vars) }
	number := func() int { return r.Intn(7) - 3 }
	c := api.Con{Kind: kind}
	switch kind {
	case api.ConLe, api.ConEq, api.ConNe:
		size := 1 + r.Intn(4)
		c.Vars, c.Consts, c.N = some(size, variable), some(size, number), number()
	case api.ConDiffer:
		c.Vars = some(1+r.Intn(4), variable)
	case api.ConElement:
		c.Vars, c.Consts = some(2, variable), some(1+r.Intn(5), number)
	case api.ConTable:
		c.Vars = some(1+r.Intn(4), variable)
		for range r.Intn(20) {
			c.Rows = append(c.Rows, some(len(c.Vars), number))
		}
	case api.ConTimes:
		c.Vars = some(3, variable)
	case api.ConMax:
		c.Vars = some(2+r.Intn(3), variable)
	case api.ConClause:
		for range r.Intn(5) {
			c.Lits = append(c.Lits, api.Lit{Var: variable(), Op: 1 + r.Intn(4), N: number()})
		}
	case api.ConIff:
		c.Vars, c.Lits = some(1, variable), []api.Lit{{Var: variable(), Op: 1 + r.Intn(4), N: number()}}
	}
	return c
}

// draw a right model of up to four variables, with a constraint of each kind from one on.
func draw(r *rand.Rand) api.Model {
	var m api.Model
	for i := range 1 + r.Intn(4) {
		lo := r.Intn(4) - 3
		m.Vars = append(m.Vars, api.Var{Name: string(rune('a' + i)), Lo: lo, Hi: lo + r.Intn(5)})
	}
	for kind := 1 + r.Intn(3); len(m.Cons) < api.MaxCons; kind++ {
		m.Cons = append(m.Cons, drawCon(r, kind, len(m.Vars)))
	}
	return m
}

// drawStore: some of the values that a model has; now and then of a variable none.
func drawStore(r *rand.Rand, m api.Model) api.Store {
	s := make(api.Store, len(m.Vars))
	for v, x := range m.Vars {
		for n := x.Lo; n <= x.Hi; n++ {
			if r.Intn(4) > 0 {
				s[v] = append(s[v], n)
			}
		}
	}
	return s
}

// each values of all variables, out of a store.
func each(s api.Store, do func(values []int)) {
	values := make([]int, len(s))
	total := 1
	for _, l := range s {
		total *= len(l)
	}
	for code := range total {
		for v, l := range s {
			values[v] = l[code%len(l)]
			code /= len(l)
		}
		do(values)
	}
}

// wanted: what F1 says of values of all variables, one after the other, of which the constraint holds.
func wanted(m api.Model, con int, s api.Store) api.Store {
	if failed, _ := store.Failed(m, s); failed {
		return s
	}
	scope, _ := model.Scope(m, con)
	out := make(api.Store, len(s))
	each(s, func(values []int) {
		if ok, _ := model.Holds(m, con, values); ok {
			for v, n := range values {
				out[v] = append(out[v], n)
			}
		}
	})
	for v := range out {
		slices.Sort(out[v])
		out[v] = slices.Compact(out[v])
		if len(scope) > 0 && !slices.Contains(scope, v) {
			out[v] = s[v]
		}
	}
	return out
}

// F1, F2: models that are drawn: what stays is just what is part of values; none of which it holds are lost; twice is once.
func TestDrawn(t *testing.T) {
	r := rand.New(rand.NewSource(6))
	taken, emptied := map[int]int{}, map[int]int{}
	for range 2000 {
		m := draw(r)
		s := drawStore(r, m)
		for con, c := range m.Cons {
			got, e := Filter(m, con, s)
			want := wanted(m, con, s)
			if fmt.Sprint(got) != fmt.Sprint(want) || e != api.OK {
				t.Fatalf("F1: %+v of %v: %v %d, want %v", c, s, got, e, want)
			}
			each(s, func(values []int) {
				for v, n := range values {
					if ok, _ := model.Holds(m, con, values); ok && !slices.Contains(got[v], n) {
						t.Fatalf("F2: %+v of %v: %v has not %v", c, s, got, values)
					}
				}
			})
			if again, e := Filter(m, con, got); fmt.Sprint(again) != fmt.Sprint(got) || e != api.OK {
				t.Fatalf("F2: %+v of %v: %v, then %v %d", c, s, got, again, e)
			}
			if in, _ := store.Within(m, s, got); !in {
				taken[c.Kind]++
			}
			if was, _ := store.Failed(m, s); !was {
				if failed, _ := store.Failed(m, got); failed {
					emptied[c.Kind]++
				}
			}
		}
	}
	for kind := api.ConLe; kind <= api.ConIff; kind++ {
		if taken[kind] < 50 || emptied[kind] < 10 {
			t.Errorf("kind %d took something only %d times, all %d times", kind, taken[kind], emptied[kind])
		}
	}
}

// F1: as many variables, with as many values, as a constraint may have.
func TestGreatest(t *testing.T) {
	var m api.Model
	for i := range api.MaxVars {
		m.Vars = append(m.Vars, api.Var{Name: string(rune('a' + i)), Lo: 45, Hi: 50})
	}
	vars := []int{5, 1, 3, 2}
	m.Cons = []api.Con{
		{Kind: api.ConEq, Vars: vars, Consts: []int{1000, 1000, -1000, -1000}, N: 1000},
		{Kind: api.ConLe, Vars: vars, Consts: []int{1000, 1000, 1000, 1000}, N: 1000},
		{Kind: api.ConDiffer, Vars: vars},
	}
	s, _ := store.Begin(m)
	all := fmt.Sprint(s)
	for con, want := range []string{all, "[[45 46 47 48 49 50] [] [] [] [45 46 47 48 49 50] []]", all} {
		if got, e := Filter(m, con, s); fmt.Sprint(got) != want || e != api.OK {
			t.Errorf("F1: %v: %v %d, want %s", m.Cons[con], got, e, want)
		}
	}
}

// roomy list: with marks in the room behind it.
func roomy(l []int) []int { return append(slices.Clone(l), 77, 78)[:len(l)] }

// withRoom: all of a model and a store, and what lies behind their lists.
func withRoom(m api.Model, s api.Store) string {
	out := fmt.Sprintf("%+v %v", m, s[:cap(s)])
	for _, c := range m.Cons {
		out += fmt.Sprint(c.Vars[:cap(c.Vars)], c.Consts[:cap(c.Consts)], c.Lits[:cap(c.Lits)])
	}
	for _, l := range s {
		out += fmt.Sprint(l[:cap(l)])
	}
	return out
}

// P2, P3: what is handed in is only read, the room behind it too; what comes out is new, and the same each time.
func TestApart(t *testing.T) {
	m := parsed(t, "var x: 0..2; var y: 0..2; var b: 0..1; con le [1, -1] [x, y] -1; con clause []; con clause [x >= 1, b != 1]; con max y [x, b]; solve any;")
	for i, c := range m.Cons {
		m.Cons[i].Vars, m.Cons[i].Consts = roomy(c.Vars), roomy(c.Consts)
		m.Cons[i].Lits = append(slices.Clone(c.Lits), api.Lit{Var: 77})[:len(c.Lits)]
	}
	for _, s := range []api.Store{{{0, 1, 2}, {0, 1, 2}, {0, 1}}, {{0, 1, 2}, {}, {0, 1}}} {
		for v, l := range s {
			s[v] = roomy(l)
		}
		s = append(slices.Clip(s), []int{79})[:3]
		before := withRoom(m, s)
		for con := range m.Cons {
			got, _ := Filter(m, con, s)
			first := fmt.Sprint(got)
			for v, l := range got {
				l = l[:cap(l)]
				for i := range l {
					l[i] = 100 + v
				}
			}
			for v, l := range got {
				if slices.ContainsFunc(l, func(n int) bool { return n != 100+v }) {
					t.Errorf("P2: by %d: list %d shares memory: %v", con, v, got)
				}
			}
			if after := withRoom(m, s); after != before {
				t.Fatalf("P2: by %d: %s was handed in, and is %s", con, before, after)
			}
			if again, _ := Filter(m, con, s); fmt.Sprint(again) != first {
				t.Errorf("P3: by %d: %s, then %v", con, first, again)
			}
		}
	}
}
