package search

import (
	"fmt"
	"math"
	"math/rand"
	"reflect"
	"slices"
	"strings"
	"testing"

	"cordon/api"
	"cordon/model"
	"cordon/proof"
	"cordon/text"
)

// parsed model of a text that is right.
func parsed(t *testing.T, s string) api.Model {
	t.Helper()
	m, at, e := text.Parse(s)
	if e != api.OK {
		t.Fatalf("%s: %d at %d", s, e, at)
	}
	return m
}

// example of the document: x, y, b.
const example = "var x: 0..2; var y: 0..2; var b: 0..1; con le [1, -1] [x, y] -1; con iff b y == 2; con clause [b == 0, x != 1]; solve most x;"

// pigeons: six, and five holes.
const pigeons = `var a: 0..4; var b: 0..4; var c: 0..4; var d: 0..4; var e: 0..4; var f: 0..4;
	con differ [a, b, c, d]; con differ [a, b, e, f]; con differ [c, d, e, f]; solve any;`

// walk through all values of a model, in order.
func walk(m api.Model) [][]int {
	all := [][]int{nil}
	for _, w := range m.Vars {
		var longer [][]int
		for _, ahead := range all {
			for value := w.Lo; value <= w.Hi; value++ {
				longer = append(longer, append(slices.Clone(ahead), value))
			}
		}
		all = longer
	}
	return all
}

// those of all values of which all holds.
func those(m api.Model, all [][]int) [][]int {
	return slices.DeleteFunc(all, func(values []int) bool { ok, _ := model.All(m, values); return !ok })
}

// wrong tells what is wrong with an answer.
func wrong(m api.Model, a api.Answer) string {
	switch a.Verdict {
	case api.VerdictFound:
		if ok, e := model.All(m, a.Values); !ok || e != api.OK || len(a.Proof) != 0 {
			return fmt.Sprintf("all holds: %v %d; %d steps", ok, e, len(a.Proof))
		}
	case api.VerdictNone:
		if ok, e := proof.Check(m, nil, a.Proof); !ok || e != api.OK || len(a.Values) != 0 {
			return fmt.Sprintf("a proof: %v %d; values %v", ok, e, a.Values)
		}
	case api.VerdictUnknown:
		if len(a.Values) != 0 || len(a.Proof) != 0 {
			return fmt.Sprintf("values %v; %d steps", a.Values, len(a.Proof))
		}
	default:
		return "no verdict"
	}
	return ""
}

// L1: verdicts that are not free, told by hand.
func TestSolve(t *testing.T) {
	for _, c := range []struct {
		text   string
		found  bool
		values []int // if they are not free
	}{
		{example, true, nil},
		{"var x: -50..-45; solve any;", true, nil},
		{"var x: 50..50; solve any;", true, []int{50}},
		{"var x: 0..1; con clause []; solve any;", false, nil},
		{"var x: 0..1; con clause [x >= 2]; solve any;", false, nil},
		{"var x: 0..1; con clause [x >= 0]; solve least x;", true, nil},
		{"var x: 0..3; con eq [2, -2] [x, x] 0; con ne [1] [x] 0; con ne [1] [x] 1; con ne [1] [x] 3; solve any;", true, []int{2}},
		{"var x: 0..3; con ne [1] [x] 2; con ne [1] [x] 0; con ne [1] [x] 1; con ne [1] [x] 3; solve any;", false, nil},
		{"var a: 0..2; var b: 0..2; var c: 0..2; var d: 0..2; con differ [a, b, c, d]; solve any;", false, nil},
		{"var a: 0..2; var b: 0..2; var c: 0..2; con differ [a, b]; con differ [b, c]; con differ [a, c]; con eq [1, 3, 9] [a, b, c] 11; solve any;", true, []int{2, 0, 1}},
		{"var p: 0..1; var q: 0..1; var r: 0..1; con differ [p, q]; con differ [q, r]; con differ [p, r]; solve most p;", false, nil},
		{"var x: -2..1; var y: -2..1; var z: -4..1; con times x y z; con max y [x, z]; con clause [x >= 1, z == -4]; solve any;", true, []int{1, 1, 1}},
		{"var i: -1..4; var v: 0..5; con element [3, 5, 1, 9] i v; con ne [1, 1] [i, v] 3; solve most v;", true, []int{1, 5}},
	} {
		m := parsed(t, c.text)
		a, e := Solve(m, api.MaxFuel)
		want := api.VerdictNone
		if c.found {
			want = api.VerdictFound
		}
		if a.Verdict != want || e != api.OK || c.values != nil && !slices.Equal(a.Values, c.values) {
			t.Errorf("L1: %s: Solve = %v %d, want %d %v", c.text, a, e, want, c.values)
		}
		if why := wrong(m, a); why != "" {
			t.Errorf("L1: %s: Solve = %v: %s", c.text, a, why)
		}
	}
}

// kinds of constraints, with X, Y and Z for variables: most hold of about half of all values, so that it takes many of them
// till there is nothing, and much of a search.
var kinds = []string{
	"ne [1, -1] [X, Y] 0", "le [1, -1] [X, Y] 0", "le [1, 1, -1] [X, Y, Z] 2", "ne [1, 2, -1] [X, Y, Z] 3", "eq [1, 1, -1] [X, Y, Z] 1", "eq [1, -2, 2] [X, Y, Z] 0",
	"differ [X, Y, Z]", "times X Y Z", "max X [Y, Z]", "clause [X >= 1, Y == 0]", "clause [X != 1, Y <= 0, Z == 2]", "iff X Y == 1", "iff X Y >= 1",
	"ne [2] [X] 2", "le [-1] [X] 0", "clause [X != 0]", "element [2, 1, 0, 1] X Y", "table [X, Y] [[0, 1], [1, 0], [1, 1], [2, 0], [0, 2], [2, 3]]",
}

// drawn model: variables with as many values, and some constraints, each of variables that are drawn.
func drawn(t *testing.T, r *rand.Rand, sizes []int, most int) api.Model {
	names := strings.Split("abcdef", "")
	s := ""
	for v, n := range sizes {
		lo := -r.Intn(2)
		s += fmt.Sprintf("var %s: %d..%d; ", names[v], lo, lo+n-1)
	}
	for range r.Intn(most + 1) {
		order := append(r.Perm(len(sizes)), r.Perm(len(sizes))...)
		order = append(order, order...)
		of := strings.NewReplacer("X", names[order[0]], "Y", names[order[1]], "Z", names[order[2]])
		s += of.Replace("con " + kinds[r.Intn(len(kinds))] + "; ")
	}
	return parsed(t, s+"solve any;")
}

// few: sizes of variables with at most 100 values together, of many kinds.
func few() [][]int {
	return [][]int{{6, 4, 4}, {5, 5, 4}, {6, 6, 2}, {2, 2, 2, 2, 2, 3}, {4, 3, 2, 4}, {3, 3, 3, 3}, {6, 5, 3}, {2, 5, 5, 2}, {1, 6, 1, 4, 1, 4}, {2, 2, 2, 3, 4}, {4, 5}, {3}, {1}, {1, 1}}
}

// L1: a model with at most 100 values is not unknown, and what is answered is so; L2: all values, in order.
func TestFew(t *testing.T) {
	r := rand.New(rand.NewSource(121))
	none, found, long := 0, 0, 0
	for i := range 3000 {
		m := drawn(t, r, few()[i%len(few())], api.MaxCons)
		want := those(m, walk(m))
		a, e := Solve(m, api.MaxFuel)
		if why := wrong(m, a); e != api.OK || why != "" || a.Verdict == api.VerdictUnknown || (a.Verdict == api.VerdictFound) != (len(want) > 0) {
			t.Fatalf("L1: %+v: Solve = %v %d, of %d: %s", m, a, e, len(want), why)
		}
		got, all, e := List(m)
		if !slices.EqualFunc(got, want, slices.Equal) || !all || e != api.OK {
			t.Fatalf("L2: %+v: List = %v %v %d, want %v", m, got, all, e, want)
		}
		if len(want) > 0 {
			found++
		} else {
			none++
			long = max(long, len(a.Proof))
		}
	}
	if none < 500 || found < 500 || long < 20 {
		t.Errorf("%d with none, %d with some, %d steps at most: too few tell anything", none, found, long)
	}
}

// L1: sums that are even or odd, of which no constraint says anything till all but one of its variables are known.
func TestParity(t *testing.T) {
	r := rand.New(rand.NewSource(125))
	none, long := 0, 0
	for range 400 {
		var m api.Model
		for v := range 6 {
			m.Vars = append(m.Vars, api.Var{Name: string([]byte{byte('a' + v)}), Hi: 1})
		}
		for range api.MaxCons {
			c := api.Con{Kind: api.ConTable, Vars: r.Perm(6)[:3+r.Intn(2)]}
			odd := r.Intn(2)
			for code := range 1 << len(c.Vars) {
				row := []int{code & 1, code >> 1 & 1, code >> 2 & 1, code >> 3 & 1}
				if (row[0]+row[1]+row[2]+row[3])%2 == odd {
					c.Rows = append(c.Rows, row[:len(c.Vars)])
				}
			}
			m.Cons = append(m.Cons, c)
		}
		want := those(m, walk(m))
		a, e := Solve(m, api.MaxFuel)
		if why := wrong(m, a); e != api.OK || why != "" || a.Verdict == api.VerdictUnknown || (a.Verdict == api.VerdictFound) != (len(want) > 0) {
			t.Fatalf("L1: %+v: Solve = %v %d, of %d: %s", m, a, e, len(want), why)
		}
		if len(want) == 0 {
			none++
			long = max(long, len(a.Proof))
		}
	}
	if none < 100 || long < 30 {
		t.Errorf("%d with none, %d steps at most: too few tell anything", none, long)
	}
}

// L1: models with more values: an answer, if there is one, is so; L2: likewise, as many as are listed.
func TestMany(t *testing.T) {
	r := rand.New(rand.NewSource(122))
	none, more := 0, 0
	for i := range 150 {
		sizes := [][]int{{6, 6, 6, 6}, {5, 4, 6, 3, 4}, {4, 4, 4, 4, 4, 4}, {3, 4, 5, 6, 3}, {6, 5, 4, 3, 2, 1}}
		m := drawn(t, r, sizes[i%len(sizes)], api.MaxCons)
		want := those(m, walk(m))
		a, e := Solve(m, api.MaxFuel)
		if why := wrong(m, a); e != api.OK || why != "" || a.Verdict == api.VerdictFound && len(want) == 0 || a.Verdict == api.VerdictNone && len(want) > 0 {
			t.Fatalf("L1: %+v: Solve = %v %d, of %d: %s", m, a, e, len(want), why)
		}
		got, all, e := List(m)
		if !slices.EqualFunc(got, want[:min(len(want), api.MaxAll)], slices.Equal) || all != (len(want) <= api.MaxAll) || e != api.OK {
			t.Fatalf("L2: %+v: List = %v %v %d, of %d", m, got, all, e, len(want))
		}
		if len(want) == 0 {
			none++
		}
		if len(want) > api.MaxAll {
			more++
		}
	}
	if none < 20 || more < 20 {
		t.Errorf("%d with none, %d with more than are listed: too few tell anything", none, more)
	}
}

// L1: as much fuel as may be, and less: what is answered with less is answered with more.
func TestFuel(t *testing.T) {
	r := rand.New(rand.NewSource(123))
	models := []api.Model{parsed(t, example), parsed(t, pigeons), parsed(t, "var x: 0..1; con clause []; solve any;")}
	for i := range 60 {
		models = append(models, drawn(t, r, few()[i%6], api.MaxCons))
	}
	turns := 0
	for _, m := range models {
		last := api.Answer{Verdict: api.VerdictUnknown}
		for fuel := range api.MaxFuel + 1 {
			if fuel > 60 && fuel < 290 && fuel%10 != 0 {
				continue
			}
			a, e := Solve(m, fuel)
			if why := wrong(m, a); e != api.OK || why != "" {
				t.Fatalf("L1: %+v: Solve(%d) = %v %d: %s", m, fuel, a, e, why)
			}
			if last.Verdict != api.VerdictUnknown && !reflect.DeepEqual(a, last) {
				t.Fatalf("L1: %+v: Solve(%d) = %v, and with less %v", m, fuel, a, last)
			}
			if last.Verdict != a.Verdict && fuel > 0 {
				turns++
			}
			last = a
		}
	}
	if turns < 10 {
		t.Errorf("%d models take some fuel: too few tell anything", turns)
	}
	if a, _ := Solve(models[1], api.MaxFuel); a.Verdict != api.VerdictNone || len(a.Proof) < 100 {
		t.Errorf("L1: pigeons: %v", a)
	}
	if a, _ := Solve(models[1], 5); a.Verdict != api.VerdictUnknown { // each failure takes one, and five will not do
		t.Errorf("L1: pigeons, with little fuel: %v", a)
	}
}

// L2: lists told by hand, and how many there may be at most.
func TestList(t *testing.T) {
	for _, c := range []struct {
		text string
		want string
	}{
		{example, "[[0 1 0] [0 2 1]] true"},
		{"var x: -2..1; solve any;", "[[-2] [-1] [0] [1]] true"},
		{"var x: 0..1; con clause []; solve any;", "[] true"},
		{"var x: 0..1; con clause [x == 7]; solve any;", "[] true"},
		{"var y: 0..1; var x: -1..0; solve most x;", "[[0 -1] [0 0] [1 -1] [1 0]] true"},
		{"var x: 0..2; var y: 0..2; con differ [x, y]; solve any;", "[[0 1] [0 2] [1 0] [1 2] [2 0] [2 1]] true"},
	} {
		got, all, e := List(parsed(t, c.text))
		if said := fmt.Sprint(got, all); said != c.want || e != api.OK {
			t.Errorf("L2: %s: List = %s %d, want %s", c.text, said, e, c.want)
		}
	}
	const wide = "var a: 0..4; var b: 0..4; var c: 0..3; var d: 0..%d; "
	const one = "con clause [d <= 1, a == 4]; con clause [d <= 1, b == 4]; con clause [d <= 1, c == 3]; " // with d 2 there is one more
	for _, c := range []struct {
		text string
		all  bool
		last string
	}{
		{fmt.Sprintf(wide, 1) + "con ne [1, 5, 25, 75] [a, b, c, d] 0; solve any;", true, "[4 4 3 1]"}, // one less
		{fmt.Sprintf(wide, 1) + "solve any;", true, "[4 4 3 1]"},
		{fmt.Sprintf(wide, 2) + one + "solve any;", false, "[4 4 3 1]"},
		{fmt.Sprintf(wide, 2) + "solve any;", false, "[3 1 2 1]"},
		{"var a: 0..5; var b: 0..5; var c: 0..5; var d: 0..5; var e: 0..5; var f: 0..5; solve any;", false, "[0 0 0 5 3 1]"},
	} {
		m := parsed(t, c.text)
		got, all, e := List(m)
		want := those(m, walk(m))
		if all != c.all || e != api.OK || !slices.EqualFunc(got, want[:min(len(want), 200)], slices.Equal) || fmt.Sprint(got[len(got)-1]) != c.last {
			t.Errorf("L2: %s: List = %d, the last one %v, %v %d, want %s %v", c.text, len(got), got[len(got)-1], all, e, c.last, c.all)
		}
	}
}

// L1, L2, P1: the model ahead of fuel; and nothing beside.
func TestErrors(t *testing.T) {
	m := parsed(t, example)
	bad, far := m, m
	bad.Goal = 9
	far.Cons = make([]api.Con, api.MaxCons+1)
	for _, c := range []struct {
		m    api.Model
		want api.Errno
	}{
		{api.Model{}, api.ErrForm},
		{bad, api.ErrKind},
		{far, api.ErrMany},
		{m, api.OK},
	} {
		for _, fuel := range []int{0, 1, api.MaxFuel, -1, api.MaxFuel + 1, math.MinInt, math.MaxInt} {
			want := c.want
			if want == api.OK && (fuel < 0 || fuel > 300) {
				want = api.ErrRange
			}
			a, e := Solve(c.m, fuel)
			if e != want || (e != api.OK) != reflect.DeepEqual(a, api.Answer{}) {
				t.Errorf("L1: Solve(%d) = %v %d, want %d", fuel, a, e, want)
			}
		}
		l, all, e := List(c.m)
		if e != c.want || e != api.OK && (l != nil || all) {
			t.Errorf("L2: List = %v %v %d, want %d", l, all, e, c.want)
		}
	}
}

// roomy list: with a mark in the room behind it.
func roomy[T any](l []T, mark T) []T { return append(slices.Clone(l), mark)[:len(l)] }

// withRoom: all that is handed in, and what lies behind its lists.
func withRoom(m api.Model) string {
	out := fmt.Sprintf("%+v %v %+v", m, m.Vars[:cap(m.Vars)], m.Cons[:cap(m.Cons)])
	for _, c := range m.Cons {
		out += fmt.Sprint(c.Vars[:cap(c.Vars)], c.Consts[:cap(c.Consts)], c.Lits[:cap(c.Lits)], c.Rows[:cap(c.Rows)])
	}
	return out
}

// P2, P3: what is handed in is only read, the room behind it too; what comes out is new, no two lists of it are one, and it
// is the same each time.
func TestApart(t *testing.T) {
	r := rand.New(rand.NewSource(124))
	for i := range 200 {
		m := drawn(t, r, few()[i%6], api.MaxCons)
		for i, c := range m.Cons {
			m.Cons[i].Vars, m.Cons[i].Consts, m.Cons[i].Lits = roomy(c.Vars, 77), roomy(c.Consts, 77), roomy(c.Lits, api.Lit{Var: 77})
			m.Cons[i].Rows = roomy(c.Rows, []int{78})
		}
		m.Vars, m.Cons = roomy(m.Vars, api.Var{Name: "room"}), roomy(m.Cons, api.Con{Kind: 79})
		before := withRoom(m)
		a, _ := Solve(m, api.MaxFuel)
		first := fmt.Sprint(a)
		mark(a.Values, 99)
		for k, s := range a.Proof {
			rest := fmt.Sprint(a.Proof[k+1:])
			mark(s.Clause, api.Lit{Var: 99, Op: 99, N: 99})
			if fmt.Sprint(a.Proof[k+1:]) != rest {
				t.Fatalf("P2: Solve = %s: clause %d has the memory of another", first, k)
			}
		}
		if a, _ = Solve(m, api.MaxFuel); fmt.Sprint(a) != first {
			t.Errorf("P3: Solve: %s, then %v", first, a)
		}
		l, all, _ := List(m)
		first = fmt.Sprint(l, all)
		for k, values := range l {
			rest := fmt.Sprint(l[k+1:])
			mark(values, 99)
			if fmt.Sprint(l[k+1:]) != rest {
				t.Fatalf("P2: List = %s: values %d have the memory of others", first, k)
			}
		}
		if l, all, _ = List(m); fmt.Sprint(l, all) != first {
			t.Errorf("P3: List: %s, then %v %v", first, l, all)
		}
		if after := withRoom(m); after != before {
			t.Fatalf("P2: %s was handed in, and is %s", before, after)
		}
	}
}

// mark all of a list that was answered, and the room behind it.
func mark[T any](l []T, with T) {
	l = l[:cap(l)]
	for i := range l {
		l[i] = with
	}
}
