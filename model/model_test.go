package model

import (
	"fmt"
	"math"
	"math/rand"
	"reflect"
	"slices"
	"testing"

	"cordon/api"
)

// B2: when a constraint holds, kind by kind.
func TestHolds(t *testing.T) {
	lit := func(v, op, n int) api.Lit { return api.Lit{Var: v, Op: op, N: n} }
	for _, c := range []struct {
		con  api.Con
		yes  [][3]int
		no   [][3]int
		what string
	}{
		{api.Con{Kind: api.ConLe, Vars: []int{0, 1}, Consts: []int{2, -1}, N: 3}, [][3]int{{0, 0, 0}, {1, -1, 0}, {2, 1, 0}, {-50, 50, 9}}, [][3]int{{2, 0, 0}, {50, -50, 0}}, "le"},
		{api.Con{Kind: api.ConLe, Vars: []int{0, 0, 1, 2}, Consts: []int{1000, 1000, 1000, 1000}, N: 1000}, [][3]int{{-50, -50, -50}, {0, 0, 1}, {50, -50, -49}}, [][3]int{{50, 50, 50}, {1, 0, 0}}, "le, four"},
		{api.Con{Kind: api.ConEq, Vars: []int{1, 2}, Consts: []int{1, 3}, N: 5}, [][3]int{{9, 5, 0}, {0, 2, 1}, {0, -1, 2}}, [][3]int{{5, 0, 0}, {0, 2, 2}}, "eq"},
		{api.Con{Kind: api.ConNe, Vars: []int{1, 2}, Consts: []int{1, 3}, N: 5}, [][3]int{{5, 0, 0}, {0, 2, 2}}, [][3]int{{9, 5, 0}, {0, 2, 1}, {0, -1, 2}}, "ne"},
		{api.Con{Kind: api.ConEq, Vars: []int{0, 0}, Consts: []int{2, -2}}, [][3]int{{0, 0, 0}, {7, 0, 0}}, nil, "eq, one twice"},
		{api.Con{Kind: api.ConDiffer, Vars: []int{0, 1, 2}}, [][3]int{{0, 1, 2}, {-1, 1, 0}, {50, -50, 49}}, [][3]int{{0, 0, 1}, {1, 0, 1}, {2, 1, 1}, {0, 0, 0}, {-3, 4, -3}}, "differ"},
		{api.Con{Kind: api.ConDiffer, Vars: []int{2, 0}}, [][3]int{{0, 0, 1}, {1, 0, 0}}, [][3]int{{1, 0, 1}}, "differ, two"},
		{api.Con{Kind: api.ConDiffer, Vars: []int{1}}, [][3]int{{0, 0, 0}}, nil, "differ, one"},
		{api.Con{Kind: api.ConDiffer, Vars: []int{1, 1}}, nil, [][3]int{{0, 0, 0}, {0, 1, 2}}, "differ, one twice"},
		{api.Con{Kind: api.ConElement, Vars: []int{1, 0}, Consts: []int{3, -1, 3, 200}}, [][3]int{{3, 0, 0}, {-1, 1, 0}, {3, 2, 0}}, [][3]int{{0, 3, 0}, {3, 1, 0}, {3, -1, 0}, {3, 4, 0}, {0, 50, 0}, {0, -50, 0}}, "element"},
		{api.Con{Kind: api.ConElement, Vars: []int{0, 0}, Consts: []int{5, 1}}, [][3]int{{1, 0, 0}}, [][3]int{{0, 0, 0}, {5, 0, 0}}, "element of itself"},
		{api.Con{Kind: api.ConTable, Vars: []int{2, 0}, Rows: [][]int{{1, 1}, {2, 0}, {900, 1}}}, [][3]int{{1, 0, 1}, {0, 7, 2}}, [][3]int{{2, 0, 0}, {0, 0, 1}, {1, 0, 2}}, "table"},
		{api.Con{Kind: api.ConTable, Vars: []int{0}}, nil, [][3]int{{0, 0, 0}}, "table, no rows"},
		{api.Con{Kind: api.ConTimes, Vars: []int{0, 1, 2}}, [][3]int{{0, 5, 0}, {2, 3, 6}, {-2, 3, -6}, {-5, -5, 25}}, [][3]int{{1, 1, 2}, {50, 50, 50}, {6, 2, 3}}, "times"},
		{api.Con{Kind: api.ConTimes, Vars: []int{0, 0, 1}}, [][3]int{{-3, 9, 0}}, [][3]int{{3, 3, 0}}, "times itself"},
		{api.Con{Kind: api.ConMax, Vars: []int{1, 0, 2}}, [][3]int{{1, 1, 0}, {0, 2, 2}, {-3, -3, -3}, {-9, -8, -8}}, [][3]int{{0, 1, 0}, {1, 0, 0}, {-1, 0, -2}}, "max"},
		{api.Con{Kind: api.ConMax, Vars: []int{0, 2}}, [][3]int{{-1, 5, -1}}, [][3]int{{0, 0, 1}, {1, 0, 0}}, "max of one"},
		{api.Con{Kind: api.ConClause}, nil, [][3]int{{0, 0, 0}}, "clause, none"},
		{api.Con{Kind: api.ConClause, Lits: []api.Lit{lit(0, api.OpLe, 1)}}, [][3]int{{1, 0, 0}, {-9, 0, 0}}, [][3]int{{2, 0, 0}}, "at most"},
		{api.Con{Kind: api.ConClause, Lits: []api.Lit{lit(1, api.OpGe, 1)}}, [][3]int{{0, 1, 0}, {0, 2, 0}}, [][3]int{{1, 0, 1}}, "at least"},
		{api.Con{Kind: api.ConClause, Lits: []api.Lit{lit(2, api.OpEq, 1)}}, [][3]int{{0, 0, 1}}, [][3]int{{1, 1, 0}, {1, 1, 2}}, "is"},
		{api.Con{Kind: api.ConClause, Lits: []api.Lit{lit(2, api.OpNe, 1)}}, [][3]int{{1, 1, 0}, {1, 1, 2}}, [][3]int{{0, 0, 1}}, "is not"},
		{api.Con{Kind: api.ConClause, Lits: []api.Lit{lit(0, api.OpLe, 0), lit(1, api.OpGe, 3)}}, [][3]int{{0, 0, 0}, {5, 3, 0}, {0, 3, 0}}, [][3]int{{1, 2, 0}}, "clause"},
		{api.Con{Kind: api.ConIff, Vars: []int{2}, Lits: []api.Lit{lit(1, api.OpNe, 1)}}, [][3]int{{0, 1, 0}, {0, 0, 1}, {0, 2, 1}}, [][3]int{{0, 1, 1}, {0, 0, 0}, {0, 0, 2}, {0, 1, -1}, {0, 1, 2}}, "iff"},
		{api.Con{Kind: api.ConIff, Vars: []int{0}, Lits: []api.Lit{lit(0, api.OpGe, 1)}}, [][3]int{{0, 0, 0}, {1, 0, 0}}, [][3]int{{2, 0, 0}, {-1, 0, 0}}, "iff of itself"},
	} {
		for want, list := range map[bool][][3]int{true: c.yes, false: c.no} {
			for _, v := range list {
				if ok, e := Holds(plain(c.con), 0, v[:]); ok != want || e != api.OK {
					t.Errorf("B2: %s of %v: %v %d, want %v", c.what, v, ok, e, want)
				}
			}
		}
	}
}

// B2: the constraint that is asked for, and no other.
func TestHoldsOfTheRightOne(t *testing.T) {
	m := plain(api.Con{Kind: api.ConClause})
	m.Cons = append(m.Cons, api.Con{Kind: api.ConDiffer, Vars: []int{0}}, api.Con{Kind: api.ConClause})
	for con, want := range []bool{false, true, false} {
		if ok, e := Holds(m, con, []int{0, 0, 0}); ok != want || e != api.OK {
			t.Errorf("B2: constraint %d: %v %d", con, ok, e)
		}
	}
}

// B2, B3, P1: errors, the first one that is named, and nothing with them.
func TestErrorsOfCalls(t *testing.T) {
	m := plain(api.Con{Kind: api.ConDiffer, Vars: []int{1}})
	for _, c := range []struct {
		con    int
		values []int
		want   api.Errno
	}{
		{0, []int{0, 0, 0}, api.OK}, {0, []int{50, -50, 50}, api.OK},
		{1, []int{0, 0, 0}, api.ErrNone}, {-1, nil, api.ErrNone}, {math.MaxInt, []int{51}, api.ErrNone}, {math.MinInt, []int{51, 0, 0}, api.ErrNone},
		{0, nil, api.ErrForm}, {0, []int{}, api.ErrForm}, {0, []int{0, 0}, api.ErrForm}, {0, []int{0, 0, 0, 0}, api.ErrForm}, {0, []int{51, 51}, api.ErrForm},
		{0, []int{51, 0, 0}, api.ErrRange}, {0, []int{0, -51, 0}, api.ErrRange}, {0, []int{0, 0, math.MinInt}, api.ErrRange}, {0, []int{0, 0, math.MaxInt}, api.ErrRange},
	} {
		if ok, e := Holds(m, c.con, c.values); ok != (c.want == api.OK) || e != c.want {
			t.Errorf("B2: Holds %d of %v: %v %d, want %d", c.con, c.values, ok, e, c.want)
		}
	}
	for _, con := range []int{-1, 1, math.MaxInt, math.MinInt} {
		if l, e := Scope(m, con); len(l) != 0 || e != api.ErrNone {
			t.Errorf("B3: Scope of %d: %v %d", con, l, e)
		}
	}
	for _, values := range [][]int{nil, {0, 0}, {0, 0, 0, 0}, {51}} {
		if ok, e := All(m, values); ok || e != api.ErrForm {
			t.Errorf("B2: All of %v: %v %d", values, ok, e)
		}
	}
}

// B2: All asks for Lo to Hi of each variable, and for each constraint; values may be any.
func TestAll(t *testing.T) {
	m := api.Model{Vars: []api.Var{{Name: "x", Lo: -1, Hi: 2}, {Name: "y", Hi: 2}}, Cons: []api.Con{
		{Kind: api.ConLe, Vars: []int{0, 1}, Consts: []int{1, -1}, N: -1},
		{Kind: api.ConNe, Vars: []int{0}, Consts: []int{1}},
	}}
	for x := -3; x <= 4; x++ {
		for y := -3; y <= 4; y++ {
			want := x >= -1 && x <= 2 && y >= 0 && y <= 2 && x < y && x != 0
			if ok, e := All(m, []int{x, y}); ok != want || e != api.OK {
				t.Errorf("B2: All of %d %d: %v %d, want %v", x, y, ok, e, want)
			}
		}
	}
	m.Cons = nil
	for _, far := range []int{math.MinInt, -51, 51, math.MaxInt} {
		if ok, e := All(m, []int{0, far}); ok || e != api.OK {
			t.Errorf("B2: All of %d: %v %d", far, ok, e)
		}
	}
	if ok, e := All(m, []int{2, 0}); !ok || e != api.OK {
		t.Errorf("B2: All without constraints: %v %d", ok, e)
	}
}

// B2: of variables from Lo to Hi, all holds just where each one does.
func TestAllIsEachOne(t *testing.T) {
	m := plain(api.Con{})
	m.Cons = oneOfEach()[2:]
	for _, drop := range []int{-1, 0, 1, 2, 3, 4, 5, 6, 7} {
		d := m
		if drop >= 0 {
			d.Cons = []api.Con{m.Cons[drop]}
		}
		for code := range 3 * 5 * 2 {
			values := []int{code % 3, code/3%5 - 1, code / 15}
			want := true
			for con := range d.Cons {
				ok, e := Holds(d, con, values)
				want = want && ok && e == api.OK
			}
			if ok, e := All(d, values); ok != want || e != api.OK {
				t.Errorf("B2: All of %v: %v %d, want %v", values, ok, e, want)
			}
		}
	}
}

// B3: variables of Vars and Lits, rising, each once.
func TestScope(t *testing.T) {
	for _, c := range []struct {
		con  api.Con
		want []int
	}{
		{api.Con{Kind: api.ConLe, Vars: []int{2, 0}, Consts: []int{0, 0}}, []int{0, 2}},
		{api.Con{Kind: api.ConDiffer, Vars: []int{1}}, []int{1}},
		{api.Con{Kind: api.ConDiffer, Vars: []int{2, 1, 2, 0}}, []int{0, 1, 2}},
		{api.Con{Kind: api.ConTimes, Vars: []int{1, 1, 1}}, []int{1}},
		{api.Con{Kind: api.ConMax, Vars: []int{2, 1}}, []int{1, 2}},
		{api.Con{Kind: api.ConClause}, nil},
		{api.Con{Kind: api.ConClause, Lits: []api.Lit{{Var: 2, Op: 1}, {Var: 0, Op: 2}, {Var: 2, Op: 3}}}, []int{0, 2}},
		{api.Con{Kind: api.ConIff, Vars: []int{2}, Lits: []api.Lit{{Var: 1, Op: 4}}}, []int{1, 2}},
		{api.Con{Kind: api.ConIff, Vars: []int{1}, Lits: []api.Lit{{Var: 1, Op: 4}}}, []int{1}},
	} {
		m := plain(api.Con{Kind: api.ConClause})
		m.Cons = append(m.Cons, c.con)
		if l, e := Scope(m, 1); !slices.Equal(l, c.want) || e != api.OK {
			t.Errorf("B3: %v: %v %d, want %v", c.con, l, e, c.want)
		}
	}
}

// copyOf a model that shares nothing with it.
func copyOf(m api.Model) api.Model {
	m.Vars, m.Cons = slices.Clone(m.Vars), slices.Clone(m.Cons)
	for i := range m.Cons {
		c := &m.Cons[i]
		c.Vars, c.Consts, c.Lits, c.Rows = slices.Clone(c.Vars), slices.Clone(c.Consts), slices.Clone(c.Lits), slices.Clone(c.Rows)
		for j := range c.Rows {
			c.Rows[j] = slices.Clone(c.Rows[j])
		}
	}
	return m
}

// seen is all that a caller can see of a model, the room behind its lists too.
func seen(m api.Model) string {
	out := fmt.Sprint(m, m.Vars[:cap(m.Vars)], m.Cons[:cap(m.Cons)])
	for _, c := range m.Cons[:cap(m.Cons)] {
		out += fmt.Sprint(c, c.Vars[:cap(c.Vars)], c.Consts[:cap(c.Consts)], c.Lits[:cap(c.Lits)], c.Rows[:cap(c.Rows)])
	}
	return out
}

// P2: a model and values are only read, with the room behind them; an answer is new memory.
func TestModelsAreOnlyRead(t *testing.T) {
	for _, c := range oneOfEach() {
		c.Vars = append(make([]int, 0, 9), c.Vars...)
		c.Lits = append(make([]api.Lit, 0, 9), c.Lits...)
		m := plain(c)
		m.Cons = append(make([]api.Con, 0, 4), m.Cons...)
		before := seen(m)
		values := []int{2, -1, 1, 77}
		for range 2 {
			Check(m)
			Holds(m, 0, values[:3])
			All(m, values[:3])
			Scope(m, 0)
		}
		if seen(m) != before || !slices.Equal(values, []int{2, -1, 1, 77}) {
			t.Errorf("P2: kind %d: what was handed in is changed", c.Kind)
		}
		l, _ := Scope(m, 0)
		k, _ := Scope(m, 0)
		want := slices.Clone(k)
		for i := range l[:cap(l)] {
			l[:cap(l)][i] = -9
		}
		if seen(m) != before || !slices.Equal(k, want) {
			t.Errorf("P2: kind %d: an answer shares memory", c.Kind)
		}
	}
}

// wild is a model of which anything may be wrong.
func wild(r *rand.Rand) api.Model {
	odd := func() int {
		if r.Intn(40) == 0 {
			return []int{math.MinInt, math.MaxInt, -1001, 1001, 51, -51}[r.Intn(6)]
		}
		return r.Intn(3)
	}
	list := func(most int) []int {
		var l []int
		for range r.Intn(most + 1) {
			l = append(l, odd())
		}
		return l
	}
	m := api.Model{Goal: r.Intn(3), Var: r.Intn(3)}
	for i := range r.Intn(4) {
		m.Vars = append(m.Vars, api.Var{Name: string(rune('a' + i)), Lo: odd() - 2, Hi: odd() + 1})
	}
	for range r.Intn(4) {
		c := api.Con{Kind: r.Intn(11), Vars: list(3), N: odd()}
		if c.Kind <= api.ConNe || r.Intn(20) == 0 {
			c.Consts = list(3)
		}
		for range r.Intn(2) {
			c.Rows = append(c.Rows, list(3))
			c.Lits = append(c.Lits, api.Lit{Var: odd(), Op: r.Intn(5), N: odd()})
		}
		m.Cons = append(m.Cons, c)
	}
	return m
}

// P1, P3: whatever is handed in, nothing panics, errors come alone, and an answer is the same each time.
func TestWildModels(t *testing.T) {
	r := rand.New(rand.NewSource(2))
	type answers struct {
		check, holds, all, scope api.Errno
		held, heldAll            bool
		list                     []int
	}
	ask := func(m api.Model, con int, values []int) (a answers) {
		a.check = Check(m)
		a.held, a.holds = Holds(m, con, values)
		a.heldAll, a.all = All(m, values)
		a.list, a.scope = Scope(m, con)
		return a
	}
	right := 0
	for range 50000 {
		m := wild(r)
		con, values := r.Intn(5)-1, make([]int, r.Intn(4))
		for i := range values {
			values[i] = r.Intn(5) - 2
		}
		a := ask(m, con, values)
		if b := ask(copyOf(m), con, slices.Clone(values)); !reflect.DeepEqual(a, b) {
			t.Fatalf("P3: %v: %v, then %v", m, a, b)
		}
		if a.check == api.OK {
			right++
		} else if a.holds != a.check || a.all != a.check || a.scope != a.check {
			t.Fatalf("B1: %v: %v", m, a)
		}
		if a.held && a.holds != api.OK || a.heldAll && a.all != api.OK || len(a.list) > 0 && a.scope != api.OK {
			t.Fatalf("P1: %v: %v", m, a)
		}
	}
	if right < 100 {
		t.Errorf("only %d models were right", right)
	}
}
