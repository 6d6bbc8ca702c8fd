package explain

import (
	"fmt"
	"math"
	"math/rand"
	"slices"
	"testing"

	"cordon/api"
	"cordon/clause"
	"cordon/filter"
	"cordon/lit"
	"cordon/model"
	"cordon/proof"
	"cordon/store"
	"cordon/text"
)

// parsed model of a text that is right.
func parsed(t *testing.T, s string) api.Model {
	t.Helper()
	m, at, e := text.Parse(s)
	if e != api.OK {
		t.Fatalf("%s: %d at %d", s, e, at)
	}
	return m
}

// of: a literal.
func of(v, op, n int) api.Lit { return api.Lit{Var: v, Op: op, N: n} }

// ground of models: three variables that constraints have, and one that most have not.
const ground = "var a: -1..1; var b: 0..2; var c: 0..2; var d: 5..6; "

// cons of each kind, with those that have no variables, never hold, or always do.
var cons = []string{
	"le [1, -1] [a, b] -1", "le [1, 1, 1] [a, b, c] 1", "eq [1, 1] [b, c] 2", "eq [2, -1, 1] [a, b, c] 0", "ne [1, -1] [b, c] 0", "ne [1] [a] 1",
	"differ [a, b, c]", "differ [b, b]", "element [1, 0, 2] b c", "element [0, 9] c a", "table [a, b] [[0, 1], [1, 2], [-1, 0], [1, 9]]", "table [a, b, c] []",
	"times a b c", "times b c b", "max c [a, b]", "max a [b]", "clause [a >= 1, b == 0]", "clause [c != 1, b <= 0, a == -1]", "clause []", "clause [a <= 1]",
	"clause [a == 9]", "iff c b == 1", "iff b a >= 1", "iff d a == 0", "le [1] [a] 9", "eq [1, 1] [d, b] 7",
}

// every store of a model with few values, those that have failed too.
func every(m api.Model) []api.Store {
	begin, _ := store.Begin(m)
	all := []api.Store{nil}
	for _, values := range begin {
		var longer []api.Store
		for _, s := range all {
			for code := range 1 << len(values) {
				var some []int
				for i, n := range values {
					if code>>i&1 == 1 {
						some = append(some, n)
					}
				}
				longer = append(longer, append(slices.Clone(s), some))
			}
		}
		all = longer
	}
	return all
}

// sound: are all literals, but for as many at the beginning, such that the store tells that they do not hold, is all of it
// what the constraint says by itself, and would it not be without any of these?
func sound(m api.Model, con int, s api.Store, c api.Clause, ahead int) string {
	if ok, e := proof.Con(m, con, c); !ok || e != api.OK {
		return fmt.Sprintf("the constraint says so: %v %d", ok, e)
	}
	for i := ahead; i < len(c); i++ {
		if told, e := lit.Told(m, s, c[i]); told != -1 || e != api.OK {
			return fmt.Sprintf("%v is told %d %d", c[i], told, e)
		}
		if ok, _ := proof.Con(m, con, slices.Delete(slices.Clone(c), i, i+1)); ok {
			return fmt.Sprintf("%v can be left out", c[i])
		}
	}
	return ""
}

// failed: has a variable no values?
func failed(s api.Store) bool {
	return slices.ContainsFunc(s, func(values []int) bool { return len(values) == 0 })
}

// notFirst: the same clause with a literal at its beginning, where it need not stand; and whether it has it.
func notFirst(c api.Clause, l api.Lit) (api.Clause, bool) {
	at := slices.Index(c, l)
	if at < 0 {
		return c, false
	}
	return slices.Insert(slices.Delete(slices.Clone(c), at, at+1), 0, l), true
}

// J1: all stores, of a constraint of each kind: there is a reason just where a value goes, and it is one.
func TestRemoved(t *testing.T) {
	reasons, long := 0, 0
	for _, con := range cons {
		m := parsed(t, ground+"con "+con+"; solve any;")
		for _, s := range every(m) {
			left, _ := filter.Filter(m, 0, s)
			for v, w := range m.Vars {
				for value := w.Lo - 1; value <= w.Hi+1; value++ {
					want := !failed(s) && slices.Contains(s[v], value) && !slices.Contains(left[v], value)
					c, ok, e := Removed(m, 0, s, v, value)
					if ok != want || e != api.OK || !ok && c != nil {
						t.Fatalf("J1: %s: Removed(%v, %d, %d) = %v %v %d, want %v", con, s, v, value, c, ok, e, want)
					}
					if !want {
						continue
					}
					c, has := notFirst(c, of(v, api.OpNe, value))
					if why := sound(m, 0, s, c, 1); !has || why != "" {
						t.Fatalf("J1: %s: Removed(%v, %d, %d) = %v: %v %s", con, s, v, value, c, has, why)
					}
					reasons++
					if len(c) > 2 {
						long++
					}
				}
			}
		}
	}
	if reasons < 1000 || long < 300 {
		t.Errorf("%d reasons, %d long ones: too few tell anything", reasons, long)
	}
}

// J1: likewise, why all go: of the constraint's variables; others stay.
func TestFailed(t *testing.T) {
	reasons, long := 0, 0
	for _, con := range cons {
		m := parsed(t, ground+"con "+con+"; solve any;")
		for _, s := range every(m) {
			left, _ := filter.Filter(m, 0, s)
			want := !failed(s) && failed(left)
			c, ok, e := Failed(m, 0, s)
			if ok != want || e != api.OK || !ok && c != nil {
				t.Fatalf("J1: %s: Failed(%v) = %v %v %d, want %v", con, s, c, ok, e, want)
			}
			if !want {
				continue
			}
			if why := sound(m, 0, s, c, 0); why != "" {
				t.Fatalf("J1: %s: Failed(%v) = %v: %s", con, s, c, why)
			}
			reasons++
			if len(c) > 2 {
				long++
			}
		}
	}
	if reasons < 1000 || long < 300 {
		t.Errorf("%d reasons, %d long ones: too few tell anything", reasons, long)
	}
}

// J1: reasons that are not free.
func TestForced(t *testing.T) {
	const two = "var x: 0..1; var y: 0..1; var z: 0..1; "
	for _, c := range []struct {
		text     string
		s        api.Store
		v, value int
		removed  string
		failed   string
	}{
		{two + "con clause [];", api.Store{{0, 1}, {1}, {0}}, 0, 1, "[{0 4 1}] true 0", "[] true 0"},
		{two + "con clause [];", api.Store{{0, 1}, {}, {0}}, 0, 1, "[] false 0", "[] false 0"},
		{two + "con eq [1] [x] 7;", api.Store{{0, 1}, {1}, {0}}, 0, 1, "[{0 4 1}] true 0", "[] true 0"},
		{two + "con eq [1] [x] 7;", api.Store{{0, 1}, {1}, {0}}, 1, 1, "[] false 0", "[] true 0"},
		{two + "con eq [1] [x] 1;", api.Store{{0, 1}, {1}, {0}}, 0, 0, "[{0 4 0}] true 0", "[] false 0"},
		{two + "con eq [1] [x] 1;", api.Store{{1}, {1}, {0}}, 0, 0, "[] false 0", "[] false 0"},
		{two + "con ne [1, -1] [x, y] 0;", api.Store{{0, 1}, {1}, {0}}, 0, 1, "[{0 4 1} {1 3 0}] true 0", "[] false 0"},
		{two + "con ne [1, -1] [x, y] 0;", api.Store{{0, 1}, {1}, {0}}, 2, 0, "[] false 0", "[] false 0"},
		{two + "con ne [1, -1] [x, y] 0;", api.Store{{1}, {1}, {0}}, 1, 1, "[{1 4 1} {0 3 0}] true 0", "[{0 3 0} {1 3 0}] true 0"},
		{two + "con ne [1, -1] [x, y] 0;", api.Store{{1}, {1}, {}}, 1, 1, "[] false 0", "[] false 0"},
	} {
		m := parsed(t, c.text+" solve any;")
		got, ok, e := Removed(m, 0, c.s, c.v, c.value)
		if said := fmt.Sprint(got, ok, e); said != c.removed {
			t.Errorf("J1: %s: Removed(%v, %d, %d) = %s, want %s", c.text, c.s, c.v, c.value, said, c.removed)
		}
		got, ok, e = Failed(m, 0, c.s)
		if said := fmt.Sprint(got, ok, e); said != c.failed {
			t.Errorf("J1: %s: Failed(%v) = %s, want %s", c.text, c.s, said, c.failed)
		}
	}
}

// J3: a reason holds of all values of which the constraint holds.
func TestHolds(t *testing.T) {
	r := rand.New(rand.NewSource(101))
	for _, con := range cons {
		m := parsed(t, ground+"con "+con+"; solve any;")
		stores := every(m)
		for range 60 {
			s := stores[r.Intn(len(stores))]
			v := r.Intn(len(m.Vars))
			value := m.Vars[v].Lo + r.Intn(3)
			c, ok, _ := Removed(m, 0, s, v, value)
			d, too, _ := Failed(m, 0, s)
			for a := -1; a <= 1; a++ {
				for code := range 3 * 3 * 2 {
					values := []int{a, code % 3, code / 3 % 3, 5 + code/9}
					if holds, _ := model.Holds(m, 0, values); !holds {
						continue
					}
					byOne, _ := clause.Holds(m, c, values)
					byAll, _ := clause.Holds(m, d, values)
					if ok && !byOne || too && !byAll {
						t.Fatalf("J3: %s holds of %v, of %v: but %v, %v do not", con, values, s, c, d)
					}
				}
			}
		}
	}
}

// J2, P1: the model, the store, the constraint, the variable; and nothing beside.
func TestErrors(t *testing.T) {
	m := parsed(t, "var x: 0..2; var y: 0..2; con le [1, -1] [x, y] -1; solve any;")
	bad := m
	bad.Goal = 9
	right, none := api.Store{{2}, {0}}, api.Store{{}, {0}}
	for _, c := range []struct {
		m    api.Model
		s    api.Store
		want api.Errno // of the model or the store: ahead of all others
	}{
		{api.Model{}, right, api.ErrForm},
		{api.Model{}, nil, api.ErrForm},
		{bad, right, api.ErrKind},
		{bad, nil, api.ErrKind},
		{m, nil, api.ErrForm},
		{m, api.Store{{0}}, api.ErrForm},
		{m, api.Store{{0}, {0}, {0}}, api.ErrForm},
		{m, api.Store{{3}, {}}, api.ErrRange},
		{m, api.Store{{1, 0}, {-1}}, api.ErrRange},
		{m, api.Store{{}, {1, 1}}, api.ErrState},
		{m, right, api.OK},
		{m, none, api.OK},
	} {
		for _, con := range []int{0, -1, 1, math.MinInt, math.MaxInt} {
			want := c.want
			if want == api.OK && con != 0 {
				want = api.ErrNone
			}
			l, ok, e := Failed(c.m, con, c.s)
			if l != nil && e != api.OK || ok && e != api.OK || e != want {
				t.Errorf("J2: Failed(%d, %v) = %v %v %d, want %d", con, c.s, l, ok, e, want)
			}
			for _, v := range []int{0, 1, -1, 2, math.MinInt, math.MaxInt} {
				if c.want == api.OK && (v < 0 || v > 1) {
					want = api.ErrNone
				}
				for _, value := range []int{0, 2, 9, math.MinInt, math.MaxInt} {
					l, ok, e := Removed(c.m, con, c.s, v, value)
					if l != nil && e != api.OK || ok && e != api.OK || e != want {
						t.Errorf("J2: Removed(%d, %v, %d, %d) = %v %v %d, want %d", con, c.s, v, value, l, ok, e, want)
					}
				}
			}
		}
	}
	m.Cons = nil
	if l, ok, e := Failed(m, 0, right); l != nil || ok || e != api.ErrNone {
		t.Errorf("J2: no constraints: Failed = %v %v %d", l, ok, e)
	}
	if l, ok, e := Removed(m, 0, right, 0, 2); l != nil || ok || e != api.ErrNone {
		t.Errorf("J2: no constraints: Removed = %v %v %d", l, ok, e)
	}
}

// J1: as many variables, with as many values, as may be: drawn stores, with one constraint or another among eight.
func TestGreatest(t *testing.T) {
	m := parsed(t, `var a: 45..50; var b: -50..-45; var c: 0..5; var d: -3..2; var e: 0..5; var f: -2..3; con le [1, 1, 1, 1] [a, b, c, d] -3;
		con eq [2, 3, -1, 1] [c, d, e, f] 4; con differ [c, d, e, f]; con times d e f; con max e [c, d, f]; con element [5, 4, 3, 0, 1, 2] c e;
		con table [b, d, e, f] [[-50, 2, 0, 3], [-45, -3, 5, -2], [-47, 0, 0, 0]]; con clause [a <= 45, b >= -45, c == 5, f == -2]; solve any;`)
	r := rand.New(rand.NewSource(102))
	removed, all, long := 0, 0, 0
	for range 200 {
		s, _ := store.Begin(m)
		for v := range s {
			keep := r.Intn(6)
			s[v] = slices.DeleteFunc(s[v], func(n int) bool { return n != m.Vars[v].Lo+keep && r.Intn(3) > 0 })
		}
		for con := range m.Cons {
			left, _ := filter.Filter(m, con, s)
			for v := range s {
				for _, value := range s[v] {
					c, ok, e := Removed(m, con, s, v, value)
					if ok == slices.Contains(left[v], value) || e != api.OK {
						t.Fatalf("J1: constraint %d: Removed(%v, %d, %d) = %v %v %d", con, s, v, value, c, ok, e)
					}
					if !ok {
						continue
					}
					c, has := notFirst(c, of(v, api.OpNe, value))
					if why := sound(m, con, s, c, 1); !has || why != "" {
						t.Fatalf("J1: constraint %d: Removed(%v, %d, %d) = %v: %v %s", con, s, v, value, c, has, why)
					}
					removed++
					long = max(long, len(c))
				}
			}
			c, ok, e := Failed(m, con, s)
			if ok != failed(left) || e != api.OK {
				t.Fatalf("J1: constraint %d: Failed(%v) = %v %v %d", con, s, c, ok, e)
			}
			if ok {
				all++
				if why := sound(m, con, s, c, 0); why != "" {
					t.Fatalf("J1: constraint %d: Failed(%v) = %v: %s", con, s, c, why)
				}
			}
		}
	}
	if removed < 500 || all < 100 || long < 8 {
		t.Errorf("%d values went, %d times all, by at most %d literals: too few tell anything", removed, all, long)
	}
}

// roomy list: with a mark in the room behind it.
func roomy[T any](l []T, mark T) []T { return append(slices.Clone(l), mark)[:len(l)] }

// withRoom: all that is handed in, and what lies behind its lists.
func withRoom(m api.Model, s api.Store) string {
	out := fmt.Sprintf("%+v %v", m, s[:cap(s)])
	for _, c := range m.Cons {
		out += fmt.Sprint(c.Vars[:cap(c.Vars)], c.Consts[:cap(c.Consts)], c.Lits[:cap(c.Lits)])
	}
	for _, values := range s {
		out += fmt.Sprint(values[:cap(values)])
	}
	return out
}

// P2, P3: what is handed in is only read, the room behind it too; what comes out is new, and the same each time.
func TestApart(t *testing.T) {
	r := rand.New(rand.NewSource(103))
	for _, con := range cons {
		m := parsed(t, ground+"con "+con+"; solve any;")
		for i, c := range m.Cons {
			m.Cons[i].Vars, m.Cons[i].Consts, m.Cons[i].Lits = roomy(c.Vars, 77), roomy(c.Consts, 77), roomy(c.Lits, of(77, 77, 77))
		}
		stores := every(m)
		for range 50 {
			s := stores[r.Intn(len(stores))]
			for v, values := range s {
				s[v] = roomy(values, 77)
			}
			s = roomy(s, []int{79})
			before := withRoom(m, s)
			for range 2 {
				c, ok, _ := Failed(m, 0, s)
				first := fmt.Sprint(c, ok)
				mark(c)
				if c, ok, _ = Failed(m, 0, s); fmt.Sprint(c, ok) != first {
					t.Errorf("P3: %s: Failed(%v): %s, then %v %v", con, s, first, c, ok)
				}
				for v := range s {
					value := m.Vars[v].Lo + r.Intn(2)
					c, ok, _ := Removed(m, 0, s, v, value)
					first := fmt.Sprint(c, ok)
					mark(c)
					if c, ok, _ = Removed(m, 0, s, v, value); fmt.Sprint(c, ok) != first {
						t.Errorf("P3: %s: Removed(%v, %d, %d): %s, then %v %v", con, s, v, value, first, c, ok)
					}
				}
			}
			if after := withRoom(m, s); after != before {
				t.Fatalf("P2: %s was handed in, and is %s", before, after)
			}
		}
	}
}

// mark all of an answer, and the room behind it.
func mark(c api.Clause) {
	c = c[:cap(c)]
	for i := range c {
		c[i] = of(99, 99, 99)
	}
}
