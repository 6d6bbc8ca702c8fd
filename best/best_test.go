package best

import (
	"fmt"
	"math"
	"math/rand"
	"reflect"
	"slices"
	"strings"
	"testing"

	"cordon/api"
	"cordon/clause"
	"cordon/model"
	"cordon/proof"
	"cordon/search"
	"cordon/text"
)

// parsed model of a text that is right.
func parsed(t *testing.T, s string) api.Model {
	t.Helper()
	m, at, e := text.Parse(s)
	if e != api.OK {
		t.Fatalf("%s: %d at %d", s, e, at)
	}
	return m
}

// example of the document: x, y, b.
const example = "var x: 0..2; var y: 0..2; var b: 0..1; con le [1, -1] [x, y] -1; con iff b y == 2; con clause [b == 0, x != 1]; solve most x;"

// pigeons: six, and five holes.
const pigeons = `var a: 0..4; var b: 0..4; var c: 0..4; var d: 0..4; var e: 0..4; var f: 0..4;
	con differ [a, b, c, d]; con differ [a, b, e, f]; con differ [c, d, e, f]; solve least f;`

// walk through all values of a model, in order.
func walk(m api.Model) [][]int {
	all := [][]int{nil}
	for _, w := range m.Vars {
		var longer [][]int
		for _, ahead := range all {
			for value := w.Lo; value <= w.Hi; value++ {
				longer = append(longer, append(slices.Clone(ahead), value))
			}
		}
		all = longer
	}
	return all
}

// those of all values of which all holds.
func those(m api.Model) [][]int {
	return slices.DeleteFunc(walk(m), func(values []int) bool { ok, _ := model.All(m, values); return !ok })
}

// worth of values: how good they are, more being better.
func worth(m api.Model, values []int) int {
	switch m.Goal {
	case api.GoalLeast:
		return -values[m.Var]
	case api.GoalMost:
		return values[m.Var]
	}
	return 0
}

// wrong tells what is wrong with an answer, by the calls of chapters 2 and 9.
func wrong(m api.Model, a api.Answer) string {
	var given []api.Clause
	switch a.Verdict {
	case api.VerdictFound:
		if ok, e := model.All(m, a.Values); !ok || e != api.OK {
			return fmt.Sprintf("all holds: %v %d", ok, e)
		}
		if m.Goal == api.GoalAny && len(a.Proof) == 0 {
			return ""
		}
		if m.Goal == api.GoalAny {
			return "a proof"
		}
		c, e := Better(m, a.Values)
		if e != api.OK {
			return fmt.Sprintf("Better: %d", e)
		}
		given = append(given, c)
	case api.VerdictNone:
		if len(a.Values) != 0 {
			return "values"
		}
	case api.VerdictUnknown:
		if len(a.Values) != 0 || len(a.Proof) != 0 {
			return "values, or a proof"
		}
		return ""
	default:
		return "no verdict"
	}
	if ok, e := proof.Check(m, given, a.Proof); !ok || e != api.OK {
		return fmt.Sprintf("a proof, given %v: %v %d", given, ok, e)
	}
	return ""
}

// notBest tells what is wrong with a verdict, and with values that are told to be the best, held against all of which all holds.
func notBest(m api.Model, a api.Answer, all [][]int) string {
	if a.Verdict != api.VerdictUnknown && (a.Verdict == api.VerdictFound) != (len(all) > 0) {
		return fmt.Sprintf("there are %d", len(all))
	}
	for _, values := range all {
		if a.Verdict == api.VerdictFound && worth(m, values) > worth(m, a.Values) {
			return fmt.Sprintf("%v are better", values)
		}
	}
	return ""
}

// M1: what would be better, told by hand.
func TestBetter(t *testing.T) {
	const two = "var x: 0..2; var y: -50..-45; var z: 45..50; con le [1, -1] [x, y] -1; solve "
	for _, c := range []struct {
		goal   string
		values []int
		want   string
	}{
		{"most x", []int{1, -47, 48}, "[{0 2 2}] 0"},
		{"most x", []int{2, -47, 48}, "[{0 2 3}] 0"},
		{"least x", []int{1, -47, 48}, "[{0 1 0}] 0"},
		{"least x", []int{0, -47, 48}, "[{0 1 -1}] 0"},
		{"least y", []int{1, -47, 48}, "[{1 1 -48}] 0"},
		{"least y", []int{1, -50, 48}, "[{1 1 -51}] 0"},
		{"most y", []int{1, -50, 48}, "[{1 2 -49}] 0"},
		{"most y", []int{1, -45, 48}, "[{1 2 -44}] 0"},
		{"most z", []int{1, -45, 50}, "[{2 2 51}] 0"},
		{"least z", []int{1, -45, 45}, "[{2 1 44}] 0"},
		{"any", []int{1, -45, 45}, "[] 0"},
		// the goal's variable is within its bounds, or it is an error; others may be anything
		{"most x", []int{-1, -47, 48}, "[] 3"},
		{"most x", []int{3, -47, 48}, "[] 3"},
		{"least x", []int{-1, -47, 48}, "[] 3"},
		{"least x", []int{3, -47, 48}, "[] 3"},
		{"least x", []int{math.MinInt, 0, 0}, "[] 3"},
		{"most x", []int{math.MaxInt, 0, 0}, "[] 3"},
		{"least z", []int{0, 0, 44}, "[] 3"},
		{"most z", []int{0, 0, 51}, "[] 3"},
		{"most z", []int{math.MinInt, math.MaxInt, 46}, "[{2 2 47}] 0"},
		{"any", []int{math.MinInt, math.MaxInt, 1000}, "[] 0"},
		// as many as variables
		{"most x", nil, "[] 1"},
		{"least x", []int{1, -47}, "[] 1"},
		{"most x", []int{9, -47}, "[] 1"},
		{"least x", []int{1, -47, 48, 0}, "[] 1"},
		{"least x", []int{9, -47, 48, 0}, "[] 1"},
		{"any", nil, "[] 1"},
		{"any", []int{1, -47}, "[] 1"},
		{"any", []int{1, -47, 48, 0}, "[] 1"},
	} {
		got, e := Better(parsed(t, two+c.goal+";"), c.values)
		if said := fmt.Sprint(got, " ", int(e)); said != c.want {
			t.Errorf("M1: %s: Better(%v) = %s, want %s", c.goal, c.values, said, c.want)
		}
	}
}

// M1: Better of values holds of others, if and only if those are better.
func TestBetterHolds(t *testing.T) {
	for _, goal := range []string{"any", "least a", "most a", "least b", "most b"} {
		m := parsed(t, "var a: -2..3; var b: 0..3; con le [1, 1] [a, b] 0; solve "+goal+";")
		for _, values := range walk(m) {
			c, e := Better(m, values)
			if e != api.OK || clause.Check(m, c) != api.OK {
				t.Fatalf("M1: %s: Better(%v) = %v %d", goal, values, c, e)
			}
			for _, others := range walk(m) {
				if ok, e := clause.Holds(m, c, others); ok != (worth(m, others) > worth(m, values)) || e != api.OK {
					t.Fatalf("M1: %s: Better(%v) = %v holds of %v: %v %d", goal, values, c, others, ok, e)
				}
			}
		}
	}
}

// M2: verdicts, and what the best is worth, told by hand.
func TestBest(t *testing.T) {
	const sum = "var a: 0..3; var b: 0..3; var c: 0..3; con differ [a, b, c]; con eq [1, 2, -1] [a, b, c] 2; solve " // [1 2 3], or [3 0 1]
	const none = "var x: 0..1; con clause []; solve "
	for _, c := range []struct {
		text string
		want string // the verdict, and the goal's value, if there is one
	}{
		{example, "1 0"},
		{strings.Replace(example, "most x", "least x", 1), "1 0"},
		{strings.Replace(example, "most x", "most y", 1), "1 2"},
		{strings.Replace(example, "most x", "least y", 1), "1 1"},
		{strings.Replace(example, "most x", "most b", 1), "1 1"},
		{strings.Replace(example, "most x", "any", 1), "1"},
		{"var x: -50..-45; solve least x;", "1 -50"},
		{"var x: -50..-45; solve most x;", "1 -45"},
		{"var x: 45..50; solve most x;", "1 50"},
		{"var x: 7..7; solve most x;", "1 7"},
		{"var x: 7..7; solve least x;", "1 7"},
		{"var x: 7..7; solve any;", "1"},
		{sum + "most a;", "1 3"},
		{sum + "least a;", "1 1"},
		{sum + "most b;", "1 2"},
		{sum + "least b;", "1 0"},
		{sum + "most c;", "1 3"},
		{sum + "least c;", "1 1"},
		{sum + "any;", "1"},
		{none + "most x;", "2"},
		{none + "least x;", "2"},
		{none + "any;", "2"},
		{"var a: 0..2; var b: 0..2; var c: 0..2; var d: 0..2; con differ [a, b, c, d]; solve least d;", "2"},
		{"var i: -1..4; var v: 0..5; con element [3, 5, 1, 9] i v; con ne [1, 1] [i, v] 3; solve most v;", "1 5"},
		{"var i: -1..4; var v: 0..5; con element [3, 5, 1, 9] i v; con ne [1, 1] [i, v] 3; solve least v;", "1 5"},
		{"var x: 0..3; var y: 0..3; con table [x, y] [[0, 1], [2, 2], [3, 0], [1, 9]]; con clause [x == 3, y >= 2]; solve most y;", "1 2"},
		{"var x: 0..3; var y: 0..3; con table [x, y] [[0, 1], [2, 2], [3, 0], [1, 9]]; con clause [x == 3, y >= 2]; solve least y;", "1 0"},
		{"var p: 0..1; var q: 0..1; var r: 0..1; con ne [1, -1] [p, q] 0; con ne [1, -1] [q, r] 0; con ne [1, -1] [p, r] 0; solve least p;", "2"},
		{pigeons, "2"},
	} {
		m := parsed(t, c.text)
		a, e := Best(m, api.MaxFuel)
		said := fmt.Sprint(a.Verdict)
		if a.Verdict == api.VerdictFound && m.Goal != api.GoalAny {
			said += fmt.Sprint(" ", a.Values[m.Var])
		}
		if said != c.want || e != api.OK {
			t.Errorf("M2: %s: Best = %v %d, want %s", c.text, a, e, c.want)
		}
		if why := wrong(m, a); why != "" {
			t.Errorf("M2: %s: Best = %v: %s", c.text, a, why)
		}
		if why := notBest(m, a, those(m)); why != "" {
			t.Errorf("M3: %s: Best = %v: %s", c.text, a, why)
		}
	}
}

// kinds of constraints, with X, Y and Z for variables: most hold of about half of all values, so that it takes many of them
// till there is nothing, and much of a search.
var kinds = []string{
	"ne [1, -1] [X, Y] 0", "le [1, -1] [X, Y] 0", "le [1, 1, -1] [X, Y, Z] 2", "ne [1, 2, -1] [X, Y, Z] 3", "eq [1, 1, -1] [X, Y, Z] 1", "eq [1, -2, 2] [X, Y, Z] 0",
	"differ [X, Y, Z]", "times X Y Z", "max X [Y, Z]", "clause [X >= 1, Y == 0]", "clause [X != 1, Y <= 0, Z == 2]", "iff X Y == 1", "iff X Y >= 1",
	"ne [2] [X] 2", "le [-1] [X] 0", "clause [X != 0]", "element [2, 1, 0, 1] X Y", "table [X, Y] [[0, 1], [1, 0], [1, 1], [2, 0], [0, 2], [2, 3]]",
}

// drawn model: variables with as many values, some constraints, each of variables that are drawn, and a goal.
func drawn(t *testing.T, r *rand.Rand, sizes []int, most int) api.Model {
	names := strings.Split("abcdef", "")
	s := ""
	for v, n := range sizes {
		lo := -r.Intn(2)
		s += fmt.Sprintf("var %s: %d..%d; ", names[v], lo, lo+n-1)
	}
	for range r.Intn(most + 1) {
		order := append(r.Perm(len(sizes)), r.Perm(len(sizes))...)
		order = append(order, order...)
		of := strings.NewReplacer("X", names[order[0]], "Y", names[order[1]], "Z", names[order[2]])
		s += of.Replace("con " + kinds[r.Intn(len(kinds))] + "; ")
	}
	goals := []string{"any", "least ", "most ", "least ", "most "}
	goal := r.Intn(len(goals))
	if goal > 0 {
		goals[goal] += names[r.Intn(len(sizes))]
	}
	return parsed(t, s+"solve "+goals[goal]+";")
}

// few: sizes of variables with at most 100 values together, of many kinds.
func few() [][]int {
	return [][]int{{6, 4, 4}, {5, 5, 4}, {6, 6, 2}, {2, 2, 2, 2, 2, 3}, {4, 3, 2, 4}, {3, 3, 3, 3}, {6, 5, 3}, {2, 5, 5, 2}, {1, 6, 1, 4, 1, 4}, {2, 2, 2, 3, 4}, {4, 5}, {3}, {1}, {1, 1}}
}

// hard model with at most 100 values: tables that are drawn, of which no constraint says anything for a long time.
func hard(r *rand.Rand, sizes []int) api.Model {
	m := api.Model{Goal: 1 + r.Intn(2), Var: r.Intn(len(sizes))}
	for v, n := range sizes {
		m.Vars = append(m.Vars, api.Var{Name: string([]byte{byte('a' + v)}), Hi: n - 1})
	}
	for range 1 + r.Intn(api.MaxCons) {
		c := api.Con{Kind: api.ConTable, Vars: r.Perm(len(sizes))[:min(len(sizes), 2+r.Intn(3))]}
		for range 5 + r.Intn(api.MaxRows-4) {
			var row []int
			for _, v := range c.Vars {
				row = append(row, r.Intn(sizes[v]))
			}
			c.Rows = append(c.Rows, row)
		}
		m.Cons = append(m.Cons, c)
	}
	return m
}

// M2, M3: a model with at most 100 values is not unknown, what is answered is so, and the best is the best.
func TestFew(t *testing.T) {
	r := rand.New(rand.NewSource(131))
	none, found, long := 0, 0, 0
	for i := range 4000 {
		m := drawn(t, r, few()[i%len(few())], api.MaxCons)
		if i%4 == 0 {
			m = hard(r, few()[i/4%11])
		}
		want := those(m)
		a, e := Best(m, api.MaxFuel)
		if why := wrong(m, a); e != api.OK || why != "" || a.Verdict == api.VerdictUnknown {
			t.Fatalf("M2: %+v: Best = %v %d, of %d: %s", m, a, e, len(want), why)
		}
		if why := notBest(m, a, want); why != "" {
			t.Fatalf("M3: %+v: Best = %v %d: %s", m, a, e, why)
		}
		switch {
		case a.Verdict == api.VerdictNone:
			none++
		case m.Goal != api.GoalAny:
			found++
			long = max(long, len(a.Proof))
		}
	}
	if none < 500 || found < 500 || long < 20 {
		t.Errorf("%d with none, %d with a best, %d steps at most: too few tell anything", none, found, long)
	}
}

// M2, M3: models with more values: an answer, if there is one, is so.
func TestMany(t *testing.T) {
	r := rand.New(rand.NewSource(132))
	none, found := 0, 0
	for i := range 150 {
		sizes := [][]int{{6, 6, 6, 6}, {5, 4, 6, 3, 4}, {4, 4, 4, 4, 4, 4}, {3, 4, 5, 6, 3}, {6, 5, 4, 3, 2, 1}}
		m := drawn(t, r, sizes[i%len(sizes)], api.MaxCons)
		if i%3 == 0 {
			m = hard(r, sizes[i/3%len(sizes)])
		}
		a, e := Best(m, api.MaxFuel)
		if why := wrong(m, a); e != api.OK || why != "" {
			t.Fatalf("M2: %+v: Best = %v %d: %s", m, a, e, why)
		}
		if why := notBest(m, a, those(m)); why != "" {
			t.Fatalf("M3: %+v: Best = %v %d: %s", m, a, e, why)
		}
		switch a.Verdict {
		case api.VerdictNone:
			none++
		case api.VerdictFound:
			found++
		}
	}
	if none < 20 || found < 50 {
		t.Errorf("%d with none, %d found: too few tell anything", none, found)
	}
}

// M2: of all goals the best of a ladder, each of whose rungs is better than the one ahead.
func TestLadder(t *testing.T) {
	const ladder = "var a: 0..5; var b: 0..5; var c: -5..0; con eq [1, -1] [a, b] 0; con eq [1, 1] [b, c] 0; solve "
	for goal, want := range map[string]string{"most a": "[5 5 -5]", "least a": "[0 0 0]", "most b": "[5 5 -5]", "least b": "[0 0 0]", "most c": "[0 0 0]", "least c": "[5 5 -5]"} {
		m := parsed(t, ladder+goal+";")
		a, e := Best(m, api.MaxFuel)
		if a.Verdict != api.VerdictFound || fmt.Sprint(a.Values) != want || e != api.OK || wrong(m, a) != "" {
			t.Errorf("M2: %s: Best = %v %d, want %s: %s", goal, a, e, want, wrong(m, a))
		}
	}
}

// M2: as much fuel as may be, and less: what is answered with less is answered with more. Of GoalAny it is what Solve answers.
func TestFuel(t *testing.T) {
	r := rand.New(rand.NewSource(133))
	models := []api.Model{parsed(t, example), parsed(t, pigeons), parsed(t, "var x: 0..1; con clause []; solve least x;")}
	for i := range 60 {
		models = append(models, drawn(t, r, few()[i%6], api.MaxCons), hard(r, few()[i%6]))
	}
	turns := 0
	for _, m := range models {
		last := api.Answer{Verdict: api.VerdictUnknown}
		for fuel := range api.MaxFuel + 1 {
			if fuel > 60 && fuel < 290 && fuel%10 != 0 {
				continue
			}
			a, e := Best(m, fuel)
			if why := wrong(m, a); e != api.OK || why != "" {
				t.Fatalf("M2: %+v: Best(%d) = %v %d: %s", m, fuel, a, e, why)
			}
			if last.Verdict != api.VerdictUnknown && !reflect.DeepEqual(a, last) {
				t.Fatalf("M2: %+v: Best(%d) = %v, and with less %v", m, fuel, a, last)
			}
			if last.Verdict != a.Verdict && fuel > 1 {
				turns++
			}
			last = a
		}
	}
	if turns < 20 {
		t.Errorf("%d models take some fuel: too few tell anything", turns)
	}
	if a, _ := Best(models[1], 5); a.Verdict != api.VerdictUnknown { // each failure takes one, and five will not do
		t.Errorf("M2: pigeons, with little fuel: %v", a)
	}
}

// M2: what fuel there is lasts for all that is found on the way: values that may not be the best are not told.
func TestLittleFuel(t *testing.T) {
	m := parsed(t, "var a: 0..3; var b: 0..3; con le [1, -1] [a, b] 0; con ne [1, -1] [a, b] 0; con ne [1, 2] [a, b] 8; solve most a;")
	unknown := 0
	for fuel := range 30 {
		a, e := Best(m, fuel)
		if a.Verdict == api.VerdictUnknown {
			unknown++
		}
		if e != api.OK || wrong(m, a) != "" || notBest(m, a, those(m)) != "" {
			t.Errorf("M2: Best(%d) = %v %d: %s%s", fuel, a, e, wrong(m, a), notBest(m, a, those(m)))
		}
	}
	if unknown == 0 || unknown == 30 {
		t.Errorf("%d of 30 are unknown: that tells nothing", unknown)
	}
	if s, _ := search.Solve(m, 0); s.Verdict != api.VerdictFound {
		t.Errorf("values are found, but with no fuel: %v", s)
	}
}

// M1, M2, P1: the model first, then what is named next; and nothing beside.
func TestErrors(t *testing.T) {
	m, free := parsed(t, example), parsed(t, "var x: 0..2; var y: 0..2; var b: 0..1; solve any;")
	bad, far, none, other := m, m, m, free
	bad.Goal = 9
	far.Cons = make([]api.Con, api.MaxCons+1)
	none.Var = 3
	other.Var = 1
	below := m
	below.Var = -1
	for i, c := range []struct {
		m    api.Model
		want api.Errno
	}{
		{api.Model{}, api.ErrForm},
		{api.Model{Goal: api.GoalMost}, api.ErrForm},
		{bad, api.ErrKind},
		{far, api.ErrMany},
		{none, api.ErrNone},
		{below, api.ErrNone},
		{other, api.ErrForm},
		{m, api.OK},
		{free, api.OK},
	} {
		for _, fuel := range []int{0, 1, api.MaxFuel, -1, api.MaxFuel + 1, math.MinInt, math.MaxInt} {
			want := c.want
			if want == api.OK && (fuel < 0 || fuel > 300) {
				want = api.ErrRange
			}
			a, e := Best(c.m, fuel)
			if e != want || (e != api.OK) != reflect.DeepEqual(a, api.Answer{}) {
				t.Errorf("M2: %d: Best(%d) = %v %d, want %d", i, fuel, a, e, want)
			}
		}
		for _, values := range [][]int{nil, {0}, {0, 0, 0}, {9, 9, 9}, {9, 9, 9, 9}} {
			want := c.want
			switch {
			case want == api.OK && len(values) != 3:
				want = api.ErrForm
			case want == api.OK && values[0] == 9 && c.m.Goal != api.GoalAny:
				want = api.ErrRange
			}
			l, e := Better(c.m, values)
			if e != want || e != api.OK && len(l) != 0 {
				t.Errorf("M1: %d: Better(%v) = %v %d, want %d", i, values, l, e, want)
			}
		}
	}
}

// roomy list: with a mark in the room behind it.
func roomy[T any](l []T, mark T) []T { return append(slices.Clone(l), mark)[:len(l)] }

// withRoom: all that is handed in, and what lies behind its lists.
func withRoom(m api.Model, values []int) string {
	out := fmt.Sprintf("%+v %v %+v %v", m, m.Vars[:cap(m.Vars)], m.Cons[:cap(m.Cons)], values[:cap(values)])
	for _, c := range m.Cons {
		out += fmt.Sprint(c.Vars[:cap(c.Vars)], c.Consts[:cap(c.Consts)], c.Lits[:cap(c.Lits)], c.Rows[:cap(c.Rows)])
	}
	return out
}

// mark all of a list that was answered, and the room behind it.
func mark[T any](l []T, with T) {
	l = l[:cap(l)]
	for i := range l {
		l[i] = with
	}
}

// P2, P3: what is handed in is only read, the room behind it too; what comes out is new, no two lists of it are one, and it
// is the same each time.
func TestApart(t *testing.T) {
	r := rand.New(rand.NewSource(134))
	for i := range 200 {
		m := drawn(t, r, few()[i%6], api.MaxCons)
		for i, c := range m.Cons {
			m.Cons[i].Vars, m.Cons[i].Consts, m.Cons[i].Lits = roomy(c.Vars, 77), roomy(c.Consts, 77), roomy(c.Lits, api.Lit{Var: 77})
			m.Cons[i].Rows = roomy(c.Rows, []int{78})
		}
		m.Vars, m.Cons = roomy(m.Vars, api.Var{Name: "room"}), roomy(m.Cons, api.Con{Kind: 79})
		values := roomy(walk(m)[r.Intn(16)], 80)
		before := withRoom(m, values)
		a, _ := Best(m, api.MaxFuel)
		first := fmt.Sprint(a)
		mark(a.Values, 99)
		for k, s := range a.Proof {
			rest := fmt.Sprint(a.Proof[k+1:])
			mark(s.Clause, api.Lit{Var: 99, Op: 99, N: 99})
			if fmt.Sprint(a.Proof[k+1:]) != rest {
				t.Fatalf("P2: Best = %s: clause %d has the memory of another", first, k)
			}
		}
		if a, _ = Best(m, api.MaxFuel); fmt.Sprint(a) != first {
			t.Errorf("P3: Best: %s, then %v", first, a)
		}
		c, _ := Better(m, values)
		first = fmt.Sprint(c)
		mark(c, api.Lit{Var: 99, Op: 99, N: 99})
		if c, _ = Better(m, values); fmt.Sprint(c) != first {
			t.Errorf("P3: Better: %s, then %v", first, c)
		}
		if after := withRoom(m, values); after != before {
			t.Fatalf("P2: %s was handed in, and is %s", before, after)
		}
	}
}
