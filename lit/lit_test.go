package lit

import (
	"fmt"
	"math"
	"slices"
	"testing"

	"cordon/api"
	"cordon/store"
)

// three variables: x from -2 to 1, y from 0 to 2, z only 50.
func three() api.Model {
	return api.Model{Vars: []api.Var{{Name: "x", Lo: -2, Hi: 1}, {Name: "y", Hi: 2}, {Name: "z", Lo: 50, Hi: 50}}}
}

// far are numbers at which a sum would wrap round.
var far = []int{math.MinInt, math.MinInt + 1, math.MaxInt - 1, math.MaxInt}

// ops with what each says of a value, in the words of package api.
var ops = map[int]func(value, n int) bool{
	api.OpLe: func(value, n int) bool { return value <= n },
	api.OpGe: func(value, n int) bool { return value >= n },
	api.OpEq: func(value, n int) bool { return value == n },
	api.OpNe: func(value, n int) bool { return value != n },
}

// right literals of three's variables: all ops, with numbers around all of their values and at both ends.
func right() []api.Lit {
	var all []api.Lit
	for v := range 3 {
		for op := range ops {
			for n := -4; n <= 4; n++ {
				all = append(all, api.Lit{Var: v, Op: op, N: n})
			}
			for _, n := range []int{-1000, -999, 49, 50, 51, 999, 1000} {
				all = append(all, api.Lit{Var: v, Op: op, N: n})
			}
		}
	}
	return all
}

// every store of three's variables.
func every() []api.Store {
	begin, _ := store.Begin(three())
	var all []api.Store
	for code := range 1 << 8 {
		s, bit := make(api.Store, 3), 0
		for v, values := range begin {
			for _, n := range values {
				if code>>bit&1 == 1 {
					s[v] = append(s[v], n)
				}
				bit++
			}
		}
		all = append(all, s)
	}
	return all
}

// answers of all calls but Check, each with its error.
func answers(m api.Model, s api.Store, l api.Lit, value int) string {
	holds, e := Holds(m, l, value)
	not, f := Not(m, l)
	told, g := Told(m, s, l)
	put, h := Put(m, s, l)
	return fmt.Sprintf("%v %d, %v %d, %v %d, %v %v %d", holds, e, not, f, told, g, put, put == nil, h)
}

// alone: the answers, if there are only errors: one where there is no store, one where there is.
func alone(e, withStore api.Errno) string {
	return fmt.Sprintf("false %d, {0 0 0} %d, 0 %d, [] true %d", e, e, withStore, withStore)
}

// E1: what is wrong with a literal, in the promise's order, told by all; and that nothing is.
func TestCheck(t *testing.T) {
	m, s := three(), api.Store{{-2, 1}, {0}, {50}}
	for _, l := range right() {
		if e := Check(m, l); e != api.OK {
			t.Errorf("E1: Check(%v) = %d", l, e)
		}
	}
	type wrong struct {
		l    api.Lit
		want api.Errno
	}
	list := []wrong{{api.Lit{}, api.ErrKind}}
	for _, v := range append([]int{-1, 3, 4}, far...) {
		list = append(list, wrong{api.Lit{Var: v, Op: api.OpLe}, api.ErrNone}, wrong{api.Lit{Var: v}, api.ErrNone}, wrong{api.Lit{Var: v, Op: api.OpEq, N: 1001}, api.ErrNone})
	}
	for _, op := range append([]int{-1, 0, 5}, far...) {
		list = append(list, wrong{api.Lit{Op: op}, api.ErrKind}, wrong{api.Lit{Var: 2, Op: op, N: -1001}, api.ErrKind})
	}
	for _, n := range append([]int{-1001, 1001}, far...) {
		for op := range ops {
			list = append(list, wrong{api.Lit{Op: op, N: n}, api.ErrRange}, wrong{api.Lit{Var: 2, Op: op, N: n}, api.ErrRange})
		}
	}
	for _, w := range list {
		if e := Check(m, w.l); e != w.want {
			t.Errorf("E1: Check(%v) = %d, want %d", w.l, e, w.want)
		}
		if got, want := answers(m, s, w.l, 0), alone(w.want, w.want); got != want {
			t.Errorf("E1: of %v: %s, want %s", w.l, got, want)
		}
	}
}

// E1: the model first, then the store, then the literal.
func TestOrder(t *testing.T) {
	lits := []api.Lit{{Var: 0, Op: api.OpLe}, {Var: 9, Op: api.OpLe}, {}, {Op: api.OpEq, N: 1001}}
	stores := []api.Store{nil, {{9}}, {{0}, {0}, {50}}, {{1, 0}, {}, {}}}
	for _, c := range []struct {
		m    api.Model
		want api.Errno
	}{
		{api.Model{}, api.ErrForm},
		{api.Model{Vars: make([]api.Var, 7)}, api.ErrMany},
		{api.Model{Vars: []api.Var{{Name: "x"}, {Name: "x"}}}, api.ErrTwice},
		{api.Model{Vars: []api.Var{{Name: "x", Lo: 1}}}, api.ErrRange},
		{api.Model{Vars: three().Vars, Cons: make([]api.Con, 1)}, api.ErrKind},
		{api.Model{Vars: three().Vars, Goal: api.GoalMost, Var: 3}, api.ErrNone},
	} {
		for _, l := range lits {
			if e := Check(c.m, l); e != c.want {
				t.Errorf("E1: of the model %v: Check(%v) = %d, want %d", c.m, l, e, c.want)
			}
			for _, s := range stores {
				if got, want := answers(c.m, s, l, 0), alone(c.want, c.want); got != want {
					t.Errorf("E1: of the model %v, %v, %v: %s, want %s", c.m, s, l, got, want)
				}
			}
		}
	}
	for _, c := range []struct {
		s    api.Store
		want api.Errno
	}{
		{nil, api.ErrForm},
		{api.Store{{0}, {0}}, api.ErrForm},
		{api.Store{{0}, {0}, {50}, {}}, api.ErrForm},
		{api.Store{{-3}, {0}, {50}}, api.ErrRange},
		{api.Store{{0}, {0}, {51}}, api.ErrRange},
		{api.Store{{0}, {1, 1}, {50}}, api.ErrState},
	} {
		for _, l := range lits {
			told, e := Told(three(), c.s, l)
			put, f := Put(three(), c.s, l)
			if told != 0 || e != c.want || put != nil || f != c.want {
				t.Errorf("E1: of the store %v, %v: Told %d %d, Put %v %d, want %d", c.s, l, told, e, put, f, c.want)
			}
		}
	}
}

// E2: of which values a literal holds: any that there are.
func TestHolds(t *testing.T) {
	for _, l := range right() {
		for _, value := range append([]int{-1001, 1001, l.N - 1, l.N, l.N + 1, 0}, far...) {
			got, e := Holds(three(), l, value)
			if want := ops[l.Op](value, l.N); got != want || e != api.OK {
				t.Errorf("E2: Holds(%v, %d) = %v %d, want %v", l, value, got, e, want)
			}
		}
	}
}

// E2: the opposites, and where there is none.
func TestNot(t *testing.T) {
	for _, c := range []struct {
		l, want api.Lit
		e       api.Errno
	}{
		{api.Lit{Var: 1, Op: api.OpLe, N: 5}, api.Lit{Var: 1, Op: api.OpGe, N: 6}, api.OK},
		{api.Lit{Var: 0, Op: api.OpGe, N: 5}, api.Lit{Var: 0, Op: api.OpLe, N: 4}, api.OK},
		{api.Lit{Var: 2, Op: api.OpEq, N: 5}, api.Lit{Var: 2, Op: api.OpNe, N: 5}, api.OK},
		{api.Lit{Var: 1, Op: api.OpNe, N: -5}, api.Lit{Var: 1, Op: api.OpEq, N: -5}, api.OK},
		{api.Lit{Op: api.OpLe, N: 999}, api.Lit{Op: api.OpGe, N: 1000}, api.OK},
		{api.Lit{Op: api.OpLe, N: 1000}, api.Lit{}, api.ErrRange},
		{api.Lit{Op: api.OpLe, N: -1000}, api.Lit{Op: api.OpGe, N: -999}, api.OK},
		{api.Lit{Op: api.OpGe, N: -999}, api.Lit{Op: api.OpLe, N: -1000}, api.OK},
		{api.Lit{Op: api.OpGe, N: -1000}, api.Lit{}, api.ErrRange},
		{api.Lit{Op: api.OpGe, N: 1000}, api.Lit{Op: api.OpLe, N: 999}, api.OK},
		{api.Lit{Op: api.OpEq, N: 1000}, api.Lit{Op: api.OpNe, N: 1000}, api.OK},
		{api.Lit{Op: api.OpEq, N: -1000}, api.Lit{Op: api.OpNe, N: -1000}, api.OK},
		{api.Lit{Op: api.OpNe, N: 1000}, api.Lit{Op: api.OpEq, N: 1000}, api.OK},
		{api.Lit{Op: api.OpNe, N: -1000}, api.Lit{Op: api.OpEq, N: -1000}, api.OK},
	} {
		if not, e := Not(three(), c.l); not != c.want || e != c.e {
			t.Errorf("E2: Not(%v) = %v %d, want %v %d", c.l, not, e, c.want, c.e)
		}
	}
}

// E3: by all stores, those that have failed too, value by value.
func TestToldAndPut(t *testing.T) {
	for _, l := range right() {
		for _, s := range every() {
			all, none := true, true
			want := slices.Clone(s)
			want[l.Var] = nil
			for _, value := range s[l.Var] {
				if ops[l.Op](value, l.N) {
					none = false
					want[l.Var] = append(want[l.Var], value)
				} else {
					all = false
				}
			}
			told := 0
			if none {
				told = -1
			} else if all {
				told = 1
			}
			if got, e := Told(three(), s, l); got != told || e != api.OK {
				t.Fatalf("E3: Told(%v, %v) = %d %d, want %d", s, l, got, e, told)
			}
			if got, e := Put(three(), s, l); fmt.Sprint(got) != fmt.Sprint(want) || e != api.OK {
				t.Fatalf("E3: Put(%v, %v) = %v %d, want %v", s, l, got, e, want)
			}
		}
	}
}

// E4: each value is where the literal holds or where its opposite does, never both; and what the one is told the other is not.
func TestOpposites(t *testing.T) {
	m := three()
	for _, l := range right() {
		not, e := Not(m, l)
		if e != api.OK {
			continue
		}
		if back, e := Not(m, not); back != l || e != api.OK {
			t.Errorf("E4: Not of Not of %v is %v %d", l, back, e)
		}
		for value := -1002; value <= 1002; value++ {
			a, _ := Holds(m, l, value)
			if b, _ := Holds(m, not, value); a == b {
				t.Errorf("E4: %v and %v of %d: both %v", l, not, value, a)
			}
		}
		for _, s := range every() {
			with, _ := Put(m, s, l)
			without, _ := Put(m, s, not)
			together := append(slices.Clone(with[l.Var]), without[l.Var]...)
			slices.Sort(together)
			if !slices.Equal(together, s[l.Var]) {
				t.Fatalf("E4: %v by %v is %v, by %v %v", s, l, with, not, without)
			}
			a, _ := Told(m, s, l)
			b, _ := Told(m, s, not)
			if len(s[l.Var]) > 0 && a != -b || len(s[l.Var]) == 0 && (a != -1 || b != -1) {
				t.Fatalf("E4: by %v, %v is told %d, %v %d", s, l, a, not, b)
			}
		}
	}
}

// roomy store: each list, and the store itself, with room behind it that has marks.
func roomy() api.Store {
	s := api.Store{{-2, 0, 1}, {1, 2}, {50}}
	for i, l := range s {
		s[i] = append(slices.Clone(l), 77, 78)[:len(l)]
	}
	return append(slices.Clip(s), []int{79})[:3]
}

func withRoom(s api.Store) string {
	out := fmt.Sprint(s[:4])
	for _, l := range s {
		out += fmt.Sprint(l[:len(l)+2])
	}
	return out
}

// P2, P3: a store is only read, the room behind it too; what comes out is new, list by list, and the same each time.
func TestApart(t *testing.T) {
	m, s := three(), roomy()
	for _, l := range right() {
		before := answers(m, s, l, 1)
		put, _ := Put(m, s, l)
		for v, values := range put {
			values = values[:cap(values)]
			for i := range values {
				values[i] = 100 + v
			}
		}
		for v, values := range put {
			if slices.ContainsFunc(values, func(n int) bool { return n != 100+v }) {
				t.Errorf("P2: Put(%v): list %d shares memory: %v", l, v, put)
			}
		}
		if withRoom(s) != withRoom(roomy()) || fmt.Sprint(m) != fmt.Sprint(three()) {
			t.Fatalf("P2: %v: what was handed in is %s, %v", l, withRoom(s), m)
		}
		if after := answers(m, s, l, 1); after != before {
			t.Errorf("P3: %v: %s, then %s", l, before, after)
		}
	}
}
