package store

import (
	"fmt"
	"math"
	"slices"
	"testing"

	"cordon/api"
)

// three variables: x from 0 to 2, y from -1 to 0, z only 5.
func three() api.Model {
	return api.Model{Vars: []api.Var{{Name: "x", Hi: 2}, {Name: "y", Lo: -1}, {Name: "z", Lo: 5, Hi: 5}}}
}

// every store of three's variables.
func every() []api.Store {
	var all []api.Store
	for code := range 8 * 4 * 2 {
		s := api.Store{{}, nil, {}}
		for i, n := range []int{0, 1, 2} {
			if code>>i&1 == 1 {
				s[0] = append(s[0], n)
			}
		}
		for i, n := range []int{-1, 0} {
			if code>>(3+i)&1 == 1 {
				s[1] = append(s[1], n)
			}
		}
		if code>>5 == 1 {
			s[2] = append(s[2], 5)
		}
		all = append(all, s)
	}
	return all
}

// asked: the answer of each call that takes stores, of one that comes first and one that comes second.
func asked(m api.Model, s, t api.Store) string {
	x, e := Meet(m, s, t)
	in, f := Within(m, s, t)
	return fmt.Sprint(len(x), e, in, f)
}

// tells: Check says so of a store, and all others say it, whichever store it is of; of the first one first.
func tells(t *testing.T, what string, m api.Model, s api.Store, want api.Errno) {
	t.Helper()
	if e := Check(m, s); e != want {
		t.Errorf("D1: %s: Check = %d, want %d", what, e, want)
	}
	if want == api.OK {
		return
	}
	if failed, e := Failed(m, s); failed || e != want {
		t.Errorf("D1: %s: Failed = %v %d, want %d", what, failed, e, want)
	}
	line := fmt.Sprint(0, want, false, want)
	good := api.Store{{0}, {0}, {5}}
	for _, other := range []api.Store{good, nil, {{9}, {9}, {9}}, {{1, 1}, {0}, {5}}} {
		if got := asked(m, s, other); got != line {
			t.Errorf("D1: %s, first: Meet and Within: %s, want %s", what, got, line)
		}
	}
	if got := asked(m, good, s); got != line {
		t.Errorf("D1: %s, second: Meet and Within: %s, want %s", what, got, line)
	}
}

// D1: what a store begins as.
func TestBegin(t *testing.T) {
	for _, c := range []struct {
		vars []api.Var
		want string
	}{
		{three().Vars, "[[0 1 2] [-1 0] [5]]"},
		{[]api.Var{{Name: "x", Lo: -50, Hi: -45}, {Name: "y", Lo: 45, Hi: 50}}, "[[-50 -49 -48 -47 -46 -45] [45 46 47 48 49 50]]"},
		{[]api.Var{{Name: "x"}}, "[[0]]"},
	} {
		m := api.Model{Vars: c.vars, Cons: []api.Con{{Kind: api.ConClause}}}
		s, e := Begin(m)
		if fmt.Sprint(s) != c.want || e != api.OK {
			t.Errorf("D1: Begin(%v) = %v %d, want %s", c.vars, s, e, c.want)
		}
		tells(t, "what Begin answers", m, s, api.OK)
	}
}

// D1: all calls tell first what is wrong with the model.
func TestWrongModels(t *testing.T) {
	for _, m := range []struct {
		model api.Model
		e     api.Errno
	}{
		{api.Model{}, api.ErrForm},
		{api.Model{Vars: make([]api.Var, 7)}, api.ErrMany},
		{api.Model{Vars: []api.Var{{Name: "x"}, {Name: "x"}}}, api.ErrTwice},
		{api.Model{Vars: []api.Var{{Name: "x", Lo: math.MinInt, Hi: math.MaxInt}}}, api.ErrRange},
		{api.Model{Vars: []api.Var{{Name: "x", Hi: 6}}}, api.ErrMany},
		{api.Model{Vars: three().Vars, Cons: make([]api.Con, 1)}, api.ErrKind},
		{api.Model{Vars: three().Vars, Goal: api.GoalMost, Var: 3}, api.ErrNone},
	} {
		if s, e := Begin(m.model); s != nil || e != m.e {
			t.Errorf("D1: Begin(%v) = %v %d, want %d", m.model, s, e, m.e)
		}
		for _, s := range []api.Store{nil, {{9}}, {{0}, {0}, {5}}, {{1, 0}, {}, {}}} {
			tells(t, fmt.Sprintf("the model %v", m.model), m.model, s, m.e)
		}
	}
}

// D1: stores that are right, and what is wrong with others, in the promise's order.
func TestCheck(t *testing.T) {
	for _, s := range every() {
		tells(t, fmt.Sprint(s), three(), s, api.OK)
	}
	for _, c := range []struct {
		s    api.Store
		want api.Errno
	}{
		{nil, api.ErrForm},
		{api.Store{}, api.ErrForm},
		{api.Store{{0}, {0}}, api.ErrForm},
		{api.Store{{0}, {0}, {5}, {}}, api.ErrForm},
		{make(api.Store, 1000), api.ErrForm},
		{api.Store{{9}, {2, 1}}, api.ErrForm},
		{api.Store{{-1, 0}, {0}, {5}}, api.ErrRange},
		{api.Store{{0, 3}, {0}, {5}}, api.ErrRange},
		{api.Store{{0}, {-2}, {5}}, api.ErrRange},
		{api.Store{{0}, {1}, {5}}, api.ErrRange},
		{api.Store{{}, {}, {4}}, api.ErrRange},
		{api.Store{{}, {}, {6}}, api.ErrRange},
		{api.Store{{math.MinInt}, {}, {}}, api.ErrRange},
		{api.Store{{math.MaxInt}, {}, {}}, api.ErrRange},
		{api.Store{{1, 0}, {0}, {5}}, api.ErrState},
		{api.Store{{0, 0}, {0}, {5}}, api.ErrState},
		{api.Store{{0, 2, 1}, {0}, {5}}, api.ErrState},
		{api.Store{{0, 1, 2}, {-1, 0}, {5, 5}}, api.ErrState},
		{api.Store{slices.Repeat([]int{1}, 1000), {}, {}}, api.ErrState},
		// what is named first, though it stands behind
		{api.Store{{1, 0}, {0}, {6}}, api.ErrRange},
		{api.Store{{1, 0, 3}, {0}, {5}}, api.ErrRange},
	} {
		tells(t, fmt.Sprint(c.s), three(), c.s, c.want)
	}
}

// has: is a value of a variable in a store?
func has(s api.Store, v, n int) bool { return slices.Contains(s[v], n) }

// D2, D3: all stores of three variables with each other, value by value.
func TestMeetAndWithin(t *testing.T) {
	m := three()
	begin, _ := Begin(m)
	for _, a := range every() {
		empty := 0
		for v := range a {
			if len(a[v]) == 0 {
				empty++
			}
		}
		if failed, e := Failed(m, a); failed != (empty > 0) || e != api.OK {
			t.Errorf("D2: Failed(%v) = %v %d", a, failed, e)
		}
		for _, b := range every() {
			meet, e := Meet(m, a, b)
			if e != api.OK || Check(m, meet) != api.OK {
				t.Fatalf("D2: Meet(%v, %v) = %v %d", a, b, meet, e)
			}
			within := true
			for v, values := range begin {
				for _, n := range values {
					if has(meet, v, n) != (has(a, v, n) && has(b, v, n)) {
						t.Fatalf("D2: Meet(%v, %v) = %v", a, b, meet)
					}
					within = within && (has(b, v, n) || !has(a, v, n))
				}
			}
			if got, e := Within(m, a, b); got != within || e != api.OK {
				t.Fatalf("D2: Within(%v, %v) = %v %d", a, b, got, e)
			}
		}
	}
}

// D3: what meets is within both, and whatever is within both is within it.
func TestMeetIsGreatest(t *testing.T) {
	m := three()
	is := func(s, t api.Store) bool { in, _ := Within(m, s, t); return in }
	all := every()
	for i, a := range all {
		b := all[(i*37+11)%len(all)]
		meet, _ := Meet(m, a, b)
		if !is(meet, a) || !is(meet, b) {
			t.Errorf("D3: %v, of %v and %v, is not within both", meet, a, b)
		}
		for _, c := range all {
			if (is(c, a) && is(c, b)) != is(c, meet) {
				t.Errorf("D3: is %v within %v and %v? Within %v it is otherwise", c, a, b, meet)
			}
		}
	}
}

// roomy store: each list, and the store itself, with room behind it that has marks.
func roomy() api.Store {
	s := api.Store{{0, 2}, {-1, 0}, {5}}
	for i, l := range s {
		s[i] = append(slices.Clone(l), 77, 78)[:len(l)]
	}
	return append(slices.Clip(s), []int{79})[:3]
}

func withRoom(s api.Store) string {
	out := fmt.Sprint(s[:4])
	for _, l := range s {
		out += fmt.Sprint(l[:len(l)+2])
	}
	return out
}

// P2: stores are only read, the room behind them too, and what comes out is new.
func TestApart(t *testing.T) {
	m := three()
	s, u := roomy(), roomy()
	answers := func() []api.Store {
		begin, _ := Begin(m)
		meet, _ := Meet(m, s, u)
		same, _ := Meet(m, s, s)
		return []api.Store{begin, meet, same}
	}
	first := answers()
	before := fmt.Sprint(first)
	for i, a := range first {
		for v, l := range a {
			for j := range l[:cap(l)] {
				l[:cap(l)][j] = 100*i + v
			}
		}
		for v, l := range a {
			for _, n := range l {
				if n != 100*i+v {
					t.Errorf("P2: list %d of answer %d shares memory", v, i)
				}
			}
		}
	}
	Check(m, s)
	Within(m, s, u)
	Failed(m, s)
	if withRoom(s) != withRoom(roomy()) || withRoom(u) != withRoom(roomy()) || fmt.Sprint(m) != fmt.Sprint(three()) {
		t.Errorf("P2: what was handed in is %s, %s, %v", withRoom(s), withRoom(u), m)
	}
	if after := fmt.Sprint(answers()); after != before {
		t.Errorf("P3: %s, then %s", before, after)
	}
}
