package clause

import (
	"fmt"
	"math"
	"math/rand"
	"slices"
	"testing"

	"cordon/api"
	"cordon/lit"
	"cordon/store"
)

// three variables: x from -2 to 1, y from 0 to 2, z only 50; the constraint has no say here.
func three() api.Model {
	return api.Model{
		Vars: []api.Var{{Name: "x", Lo: -2, Hi: 1}, {Name: "y", Hi: 2}, {Name: "z", Lo: 50, Hi: 50}},
		Cons: []api.Con{{Kind: api.ConClause}},
	}
}

// far are numbers at which a sum would wrap round.
var far = []int{math.MinInt, math.MinInt + 1, math.MaxInt - 1, math.MaxInt}

// of: a literal.
func of(v, op, n int) api.Lit { return api.Lit{Var: v, Op: op, N: n} }

// long clause: so many literals, all right.
func long(n int) api.Clause { return slices.Repeat(api.Clause{of(1, api.OpEq, 7)}, n) }

// every store of three's variables.
func every() []api.Store {
	begin, _ := store.Begin(three())
	var all []api.Store
	for code := range 1 << 8 {
		s, bit := make(api.Store, 3), 0
		for v, values := range begin {
			for _, n := range values {
				if code>>bit&1 == 1 {
					s[v] = append(s[v], n)
				}
				bit++
			}
		}
		all = append(all, s)
	}
	return all
}

// answers of all calls but Check, each with its error.
func answers(m api.Model, s api.Store, c api.Clause, values []int) string {
	holds, e := Holds(m, c, values)
	unit, f := Unit(m, s, c)
	deny, g := Deny(m, s, c)
	return fmt.Sprintf("%v %d, %v %v %d, %v %v %d", holds, e, unit, unit == nil, f, deny, deny == nil, g)
}

// alone: the answers, if there are only errors: one where there is no store, one where there is.
func alone(e, withStore api.Errno) string {
	return fmt.Sprintf("false %d, [] true %d, [] true %d", e, withStore, withStore)
}

// wrong clauses, and what is wrong with them: the first literal that something is wrong with.
var wrong = []struct {
	c    api.Clause
	want api.Errno
}{
	{long(41), api.ErrMany},
	{long(1000), api.ErrMany},
	{make(api.Clause, 40), api.ErrKind},
	{make(api.Clause, 41), api.ErrMany},
	{append(long(40), of(9, 9, 9000)), api.ErrMany},
	{append(api.Clause{of(9, 9, 9000)}, long(40)...), api.ErrMany},
	{append(long(39), of(3, api.OpLe, 0)), api.ErrNone},
	{append(long(39), of(0, 0, 0)), api.ErrKind},
	{append(long(39), of(0, api.OpNe, -1001)), api.ErrRange},
	{api.Clause{of(-1, api.OpLe, 0)}, api.ErrNone},
	{api.Clause{of(3, 9, 9000)}, api.ErrNone},
	{api.Clause{of(2, 5, 9000)}, api.ErrKind},
	{api.Clause{of(2, -1, 0)}, api.ErrKind},
	{api.Clause{of(0, api.OpEq, 1001)}, api.ErrRange},
	{api.Clause{of(far[0], api.OpEq, 0)}, api.ErrNone},
	{api.Clause{of(far[3], api.OpEq, 0)}, api.ErrNone},
	{api.Clause{of(0, far[0], 0)}, api.ErrKind},
	{api.Clause{of(0, far[3], 0)}, api.ErrKind},
	{api.Clause{of(0, api.OpGe, far[0])}, api.ErrRange},
	{api.Clause{of(0, api.OpGe, far[3])}, api.ErrRange},
	{api.Clause{of(0, api.OpGe, 1001), of(0, 5, 0), of(3, api.OpLe, 0)}, api.ErrRange},
	{api.Clause{of(0, 5, 0), of(3, api.OpLe, 0), of(0, api.OpGe, 1001)}, api.ErrKind},
}

// G1: what is wrong with a clause, told by all; and that nothing is.
func TestCheck(t *testing.T) {
	m, s := three(), api.Store{{-2, 1}, {0}, {50}}
	for _, c := range []api.Clause{nil, {}, long(1), long(40), {of(0, api.OpLe, -1000), of(2, api.OpNe, 1000), of(0, api.OpGe, -1000), of(1, api.OpEq, 1000)}} {
		if e := Check(m, c); e != api.OK {
			t.Errorf("G1: Check(%v) = %d", c, e)
		}
	}
	for _, w := range wrong {
		if e := Check(m, w.c); e != w.want {
			t.Errorf("G1: Check(%v) = %d, want %d", w.c, e, w.want)
		}
		for _, values := range [][]int{{0, 0, 50}, nil, {0, 0, 50, 0}} {
			if got, want := answers(m, s, w.c, values), alone(w.want, w.want); got != want {
				t.Errorf("G1: of %v, %v: %s, want %s", w.c, values, got, want)
			}
		}
	}
}

// G1: the model first, then the store, then the clause; a store that has failed is looked at likewise.
func TestOrder(t *testing.T) {
	clauses := []api.Clause{nil, {of(0, api.OpLe, 0)}, long(41), {of(9, api.OpLe, 0)}, {{}}}
	stores := []api.Store{nil, {{9}}, {{0}, {0}, {50}}, {{1, 0}, {}, {}}}
	for _, w := range []struct {
		m    api.Model
		want api.Errno
	}{
		{api.Model{}, api.ErrForm},
		{api.Model{Vars: make([]api.Var, 7)}, api.ErrMany},
		{api.Model{Vars: []api.Var{{Name: "x"}, {Name: "x"}}}, api.ErrTwice},
		{api.Model{Vars: []api.Var{{Name: "x", Lo: 1}}}, api.ErrRange},
		{api.Model{Vars: three().Vars, Cons: make([]api.Con, 1)}, api.ErrKind},
		{api.Model{Vars: three().Vars, Goal: api.GoalMost, Var: 3}, api.ErrNone},
	} {
		for _, c := range clauses {
			if e := Check(w.m, c); e != w.want {
				t.Errorf("G1: of the model %v: Check(%v) = %d, want %d", w.m, c, e, w.want)
			}
			for _, s := range stores {
				if got, want := answers(w.m, s, c, nil), alone(w.want, w.want); got != want {
					t.Errorf("G1: of the model %v, %v, %v: %s, want %s", w.m, s, c, got, want)
				}
			}
		}
	}
	for _, w := range []struct {
		s    api.Store
		want api.Errno
	}{
		{nil, api.ErrForm},
		{api.Store{{0}, {0}}, api.ErrForm},
		{api.Store{{}, {0}, {50}, {}}, api.ErrForm},
		{api.Store{{-3}, {}, {50}}, api.ErrRange},
		{api.Store{{0}, {0}, {51}}, api.ErrRange},
		{api.Store{{}, {1, 1}, {50}}, api.ErrState},
	} {
		for _, c := range clauses {
			e := Check(three(), c)
			if e == api.OK {
				e = api.ErrForm // of too few values
			}
			if got, want := answers(three(), w.s, c, nil), alone(e, w.want); got != want {
				t.Errorf("G1: of the store %v, %v: %s, want %s", w.s, c, got, want)
			}
		}
	}
}

// says: of a value, in the words of package api.
func says(l api.Lit, value int) bool {
	switch l.Op {
	case api.OpLe:
		return value <= l.N
	case api.OpGe:
		return value >= l.N
	case api.OpEq:
		return value == l.N
	}
	return value != l.N
}

// G1: of which values a clause holds: any that there are, as many as variables.
func TestHolds(t *testing.T) {
	m := three()
	for _, c := range []struct {
		c      api.Clause
		values []int
		want   bool
		e      api.Errno
	}{
		{nil, []int{0, 0, 50}, false, api.OK},
		{api.Clause{}, []int{0, 0, 50}, false, api.OK},
		{nil, nil, false, api.ErrForm},
		{nil, []int{0, 0}, false, api.ErrForm},
		{api.Clause{of(0, api.OpEq, 0)}, []int{0, 0}, false, api.ErrForm},
		{api.Clause{of(0, api.OpEq, 0)}, []int{0, 0, 50, 0}, false, api.ErrForm},
		{api.Clause{of(0, api.OpEq, 0)}, []int{0, 1, 1}, true, api.OK},
		{api.Clause{of(0, api.OpEq, 0)}, []int{1, 0, 0}, false, api.OK},
		{api.Clause{of(0, api.OpEq, 0), of(2, api.OpLe, 9)}, []int{1, 0, 50}, false, api.OK},
		{api.Clause{of(0, api.OpEq, 0), of(2, api.OpLe, 9)}, []int{1, 0, 9}, true, api.OK},
		{append(long(39), of(2, api.OpGe, 1000)), []int{0, 0, math.MaxInt}, true, api.OK},
		{api.Clause{of(1, api.OpLe, -1000)}, []int{0, math.MinInt, 0}, true, api.OK},
		{api.Clause{of(1, api.OpGe, -1000)}, []int{0, math.MinInt, 0}, false, api.OK},
		{api.Clause{of(1, api.OpLe, 1000)}, []int{0, math.MaxInt, 0}, false, api.OK},
	} {
		if got, e := Holds(m, c.c, c.values); got != c.want || e != c.e {
			t.Errorf("G1: Holds(%v, %v) = %v %d, want %v %d", c.c, c.values, got, e, c.want, c.e)
		}
	}
	r := rand.New(rand.NewSource(71))
	numbers := append([]int{-1001, -51, -3, -2, -1, 0, 1, 2, 3, 50, 1001}, far...)
	held := 0
	for range 3000 {
		c := drawn(r)
		values := []int{numbers[r.Intn(len(numbers))], numbers[r.Intn(len(numbers))], numbers[r.Intn(len(numbers))]}
		want := false
		for _, l := range c {
			want = want || says(l, values[l.Var])
		}
		if got, e := Holds(m, c, values); got != want || e != api.OK {
			t.Fatalf("G1: Holds(%v, %v) = %v %d, want %v", c, values, got, e, want)
		}
		if want {
			held++
		}
	}
	if held < 500 || held > 2500 {
		t.Errorf("%d of 3000 clauses hold: too few tell anything", held)
	}
}

// drawn clause of three's variables: up to five literals, mostly around what their variables may be, often of the same one.
func drawn(r *rand.Rand) api.Clause {
	var c api.Clause
	for range r.Intn(6) {
		l := of(r.Intn(3), 1+r.Intn(4), r.Intn(7)-3)
		if l.Var == 2 {
			l.N = 49 + r.Intn(3)
		}
		if l.Op == api.OpNe && r.Intn(2) == 0 { // else nearly all would hold of nearly everything
			l.Op = api.OpEq
		}
		c = append(c, l)
	}
	return c
}

// G2: what stays, told by hand.
func TestUnitAndDeny(t *testing.T) {
	for _, c := range []struct {
		s          api.Store
		c          api.Clause
		unit, deny string
	}{
		// no literals
		{api.Store{{0, 1}, {0}, {50}}, nil, "[[] [] []]", "[[0 1] [0] [50]]"},
		{api.Store{{}, {0}, {50}}, nil, "[[] [0] [50]]", "[[] [0] [50]]"},
		// one variable, once or more than once
		{api.Store{{0, 1}, {0}, {50}}, api.Clause{of(0, api.OpEq, 1)}, "[[1] [0] [50]]", "[[0] [0] [50]]"},
		{api.Store{{0, 1}, {0}, {50}}, api.Clause{of(0, api.OpLe, 1)}, "[[0 1] [0] [50]]", "[[] [0] [50]]"},
		{api.Store{{-2, -1, 0, 1}, {0}, {50}}, api.Clause{of(0, api.OpLe, -2), of(0, api.OpGe, 1)}, "[[-2 1] [0] [50]]", "[[-1 0] [0] [50]]"},
		{api.Store{{-2, -1, 0, 1}, {0}, {50}}, api.Clause{of(0, api.OpEq, 7), of(0, api.OpEq, -1)}, "[[-1] [0] [50]]", "[[-2 0 1] [0] [50]]"},
		{api.Store{{-2, 1}, {0}, {50}}, api.Clause{of(0, api.OpNe, -2), of(0, api.OpNe, 1)}, "[[-2 1] [0] [50]]", "[[] [0] [50]]"},
		// all but one are told -1, wherever it stands
		{api.Store{{0, 1}, {0, 2}, {50}}, api.Clause{of(0, api.OpLe, -1), of(1, api.OpGe, 1)}, "[[0 1] [2] [50]]", "[[0 1] [0] [50]]"},
		{api.Store{{0, 1}, {0, 2}, {50}}, api.Clause{of(1, api.OpGe, 1), of(0, api.OpLe, -1)}, "[[0 1] [2] [50]]", "[[0 1] [0] [50]]"},
		{api.Store{{0, 1}, {0, 1, 2}, {50}}, api.Clause{of(1, api.OpEq, 2), of(2, api.OpEq, 49), of(1, api.OpEq, 0)}, "[[0 1] [0 2] [50]]", "[[0 1] [1] [50]]"},
		// two may hold, or do hold: it stays
		{api.Store{{0, 1}, {0, 2}, {50}}, api.Clause{of(0, api.OpLe, 0), of(1, api.OpGe, 1)}, "[[0 1] [0 2] [50]]", "[[1] [0] [50]]"},
		{api.Store{{0, 1}, {0, 2}, {50}}, api.Clause{of(0, api.OpLe, 0), of(2, api.OpGe, 1)}, "[[0 1] [0 2] [50]]", "[[1] [0 2] []]"},
		{api.Store{{0, 1}, {0, 2}, {50}}, api.Clause{of(2, api.OpEq, 50), of(0, api.OpEq, 0)}, "[[0 1] [0 2] [50]]", "[[1] [0 2] []]"},
		{api.Store{{0}, {0}, {50}}, api.Clause{of(0, api.OpEq, 0), of(1, api.OpEq, 0)}, "[[0] [0] [50]]", "[[] [] [50]]"},
		// none may: all have none, not the clause's alone
		{api.Store{{0, 1}, {0, 2}, {50}}, api.Clause{of(0, api.OpEq, -1)}, "[[] [] []]", "[[0 1] [0 2] [50]]"},
		{api.Store{{0, 1}, {0, 2}, {50}}, api.Clause{of(0, api.OpEq, -1), of(1, api.OpEq, 1)}, "[[] [] []]", "[[0 1] [0 2] [50]]"},
		// it has failed: it stays by Unit, whatever would go
		{api.Store{{0, 1}, {0, 2}, {}}, api.Clause{of(0, api.OpEq, 1)}, "[[0 1] [0 2] []]", "[[0] [0 2] []]"},
		{api.Store{{}, {0, 2}, {50}}, api.Clause{of(0, api.OpEq, 1), of(1, api.OpEq, 2)}, "[[] [0 2] [50]]", "[[] [0] [50]]"},
		{api.Store{{}, {}, {}}, api.Clause{of(2, api.OpEq, 50)}, "[[] [] []]", "[[] [] []]"},
		// as many literals as may be
		{api.Store{{0, 1}, {0, 2}, {50}}, append(long(39), of(0, api.OpGe, 1)), "[[1] [0 2] [50]]", "[[0] [0 2] [50]]"},
	} {
		unit, e := Unit(three(), c.s, c.c)
		deny, f := Deny(three(), c.s, c.c)
		if fmt.Sprint(unit) != c.unit || e != api.OK {
			t.Errorf("G2: Unit(%v, %v) = %v %d, want %s", c.s, c.c, unit, e, c.unit)
		}
		if fmt.Sprint(deny) != c.deny || f != api.OK {
			t.Errorf("G2: Deny(%v, %v) = %v %d, want %s", c.s, c.c, deny, f, c.deny)
		}
	}
}

// kept values of a variable: those of which one of its literals holds, if one is to hold, or none does.
func kept(values []int, v int, c api.Clause, one bool) []int {
	var out []int
	for _, n := range values {
		held := slices.ContainsFunc(c, func(l api.Lit) bool { return l.Var == v && says(l, n) })
		if held == one {
			out = append(out, n)
		}
	}
	return out
}

// wantUnit: what G2 says, by what is Told of each literal.
func wantUnit(s api.Store, c api.Clause) api.Store {
	if failed, _ := store.Failed(three(), s); failed {
		return s
	}
	may := map[int]struct{}{}
	for _, l := range c {
		if told, _ := lit.Told(three(), s, l); told != -1 {
			may[l.Var] = struct{}{}
		}
	}
	out := slices.Clone(s)
	switch len(may) {
	case 0:
		return make(api.Store, len(s))
	case 1:
		for v := range may {
			out[v] = kept(s[v], v, c, true)
		}
	}
	return out
}

// wantDeny: what G2 says, variable by variable.
func wantDeny(s api.Store, c api.Clause) api.Store {
	out := make(api.Store, len(s))
	for v, values := range s {
		out[v] = kept(values, v, c, false)
	}
	return out
}

// G2: drawn clauses, and all stores.
func TestDrawn(t *testing.T) {
	r := rand.New(rand.NewSource(72))
	taken, emptied := 0, 0
	for range 400 {
		c := drawn(r)
		for _, s := range every() {
			unit, e := Unit(three(), s, c)
			if want := wantUnit(s, c); fmt.Sprint(unit) != fmt.Sprint(want) || e != api.OK {
				t.Fatalf("G2: Unit(%v, %v) = %v %d, want %v", s, c, unit, e, want)
			}
			deny, e := Deny(three(), s, c)
			if want := wantDeny(s, c); fmt.Sprint(deny) != fmt.Sprint(want) || e != api.OK {
				t.Fatalf("G2: Deny(%v, %v) = %v %d, want %v", s, c, deny, e, want)
			}
			switch fmt.Sprint(unit) {
			case fmt.Sprint(s):
			case "[[] [] []]":
				emptied++
			default:
				taken++
			}
		}
	}
	if taken < 1000 || emptied < 1000 {
		t.Errorf("%d times something went, %d times all: too few tell anything", taken, emptied)
	}
}

// G3: of no values out of a store, of which the clause holds, Unit takes one; of none, of which it does not, Deny does; and
// of those that Deny leaves it does not hold.
func TestNothingIsLost(t *testing.T) {
	r := rand.New(rand.NewSource(73))
	m := three()
	for range 150 {
		c := drawn(r)
		for _, s := range every() {
			unit, _ := Unit(m, s, c)
			deny, _ := Deny(m, s, c)
			for _, x := range s[0] {
				for _, y := range s[1] {
					for _, z := range s[2] {
						one := api.Store{{x}, {y}, {z}}
						holds, _ := Holds(m, c, []int{x, y, z})
						byUnit, _ := store.Within(m, one, unit)
						byDeny, _ := store.Within(m, one, deny)
						if holds && !byUnit || byDeny == holds {
							t.Fatalf("G3: %v of %v: %v, which it holds of: %v, by Unit %v, by Deny %v", c, s, one, holds, unit, deny)
						}
					}
				}
			}
		}
	}
}

// roomy store: each list, and the store itself, with room behind it that has marks.
func roomy(s api.Store) api.Store {
	out := make(api.Store, 0, len(s)+1)
	for _, l := range s {
		out = append(out, append(slices.Clone(l), 77, 78)[:len(l)])
	}
	return append(out, []int{79})[:len(s)]
}

// withRoom: what was handed in, and what lies behind it.
func withRoom(s api.Store, c api.Clause) string {
	out := fmt.Sprint(s[:4], c[:cap(c)])
	for _, l := range s {
		out += fmt.Sprint(l[:len(l)+2])
	}
	return out
}

// P2, P3: a store and a clause are only read, the room behind them too; what comes out is new, list by list, and the same
// each time.
func TestApart(t *testing.T) {
	r := rand.New(rand.NewSource(74))
	m := three()
	for _, s := range []api.Store{{{-2, 0, 1}, {1, 2}, {50}}, {{-2, 0, 1}, {}, {50}}, {{1}, {0, 1, 2}, {50}}} {
		for range 200 {
			s := roomy(s)
			c := drawn(r)
			c = append(slices.Clip(c), of(77, 77, 77))[:len(c)]
			before, room := answers(m, s, c, []int{0, 1, 2}), withRoom(s, c)
			unit, _ := Unit(m, s, c)
			deny, _ := Deny(m, s, c)
			mark(t, unit)
			mark(t, deny)
			if after := withRoom(s, c); after != room || fmt.Sprint(m) != fmt.Sprint(three()) {
				t.Fatalf("P2: what was handed in was %s and is %s, %v", room, after, m)
			}
			if after := answers(m, s, c, []int{0, 1, 2}); after != before {
				t.Errorf("P3: %v of %v: %s, then %s", c, s, before, after)
			}
		}
	}
}

// mark all of an answer, and see that no list of it is marked by another.
func mark(t *testing.T, s api.Store) {
	t.Helper()
	for v, l := range s {
		l = l[:cap(l)]
		for i := range l {
			l[i] = 100 + v
		}
	}
	for v, l := range s {
		if slices.ContainsFunc(l, func(n int) bool { return n != 100+v }) {
			t.Errorf("P2: list %d shares memory: %v", v, s)
		}
	}
}
