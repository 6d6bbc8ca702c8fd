package model

import (
	"math"
	"slices"
	"strings"
	"testing"

	"cordon/api"
)

// plain is a model with one constraint, which is right if the constraint is.
func plain(c api.Con) api.Model {
	return api.Model{Vars: []api.Var{{Name: "x", Hi: 2}, {Name: "y", Lo: -1, Hi: 3}, {Name: "b", Hi: 1}}, Cons: []api.Con{c}}
}

// oneOfEach is a right constraint of each kind; of plain's variables.
func oneOfEach() []api.Con {
	return []api.Con{
		{Kind: api.ConLe, Vars: []int{0, 1}, Consts: []int{2, -1}, N: 3},
		{Kind: api.ConEq, Vars: []int{1}, Consts: []int{1}, N: 2},
		{Kind: api.ConNe, Vars: []int{0, 2}, Consts: []int{1, 1}, N: -1},
		{Kind: api.ConDiffer, Vars: []int{0, 1}},
		{Kind: api.ConElement, Vars: []int{0, 1}, Consts: []int{3, 1, 0}},
		{Kind: api.ConTable, Vars: []int{0, 2}, Rows: [][]int{{1, 1}, {2, 0}}},
		{Kind: api.ConTimes, Vars: []int{0, 1, 2}},
		{Kind: api.ConMax, Vars: []int{1, 0, 2}},
		{Kind: api.ConClause, Lits: []api.Lit{{Var: 0, Op: api.OpLe}, {Var: 1, Op: api.OpGe, N: 3}}},
		{Kind: api.ConIff, Vars: []int{2}, Lits: []api.Lit{{Var: 1, Op: api.OpNe, N: 1}}},
	}
}

// tells: Check says so, and all others say it first, whatever else is wrong with what they are asked.
func tells(t *testing.T, what string, m api.Model, want api.Errno) {
	t.Helper()
	if e := Check(m); e != want {
		t.Errorf("B1: %s: Check = %d, want %d", what, e, want)
	}
	if want == api.OK {
		return
	}
	if ok, e := Holds(m, -1, nil); ok || e != want {
		t.Errorf("B1: %s: Holds = %v %d, want %d", what, ok, e, want)
	}
	if ok, e := All(m, []int{1000, 0, 0, 0, 0, 0, 0}); ok || e != want {
		t.Errorf("B1: %s: All = %v %d, want %d", what, ok, e, want)
	}
	if l, e := Scope(m, 99); len(l) != 0 || e != want {
		t.Errorf("B1: %s: Scope = %v %d, want %d", what, l, e, want)
	}
}

// named is variables of these names.
func named(names ...string) []api.Var {
	var out []api.Var
	for _, n := range names {
		out = append(out, api.Var{Name: n, Hi: 1})
	}
	return out
}

// B1: how many variables and constraints.
func TestCheckCounts(t *testing.T) {
	six := named("a", "b", "c", "d", "e", "f")
	empty := api.Con{Kind: api.ConClause}
	tells(t, "nothing", api.Model{}, api.ErrForm)
	tells(t, "an empty list", api.Model{Vars: []api.Var{}, Cons: []api.Con{}}, api.ErrForm)
	tells(t, "no variables, too many constraints", api.Model{Cons: make([]api.Con, 9)}, api.ErrForm)
	tells(t, "one variable", api.Model{Vars: six[:1]}, api.OK)
	tells(t, "six variables", api.Model{Vars: six}, api.OK)
	tells(t, "seven variables", api.Model{Vars: append(slices.Clone(six), named("g")...)}, api.ErrMany)
	tells(t, "seven variables, all wrong", api.Model{Vars: make([]api.Var, 7)}, api.ErrMany)
	tells(t, "eight constraints", api.Model{Vars: six, Cons: slices.Repeat([]api.Con{empty}, 8)}, api.OK)
	tells(t, "nine constraints", api.Model{Vars: six, Cons: slices.Repeat([]api.Con{empty}, 9)}, api.ErrMany)
	tells(t, "nine constraints, a name that is none", api.Model{Vars: named("A"), Cons: make([]api.Con, 9)}, api.ErrMany)
}

// B1: names, and the words that are none.
func TestCheckNames(t *testing.T) {
	for _, n := range []string{"x", "x1", "abcdefghijkl", "vars", "v", "lea", "maxi", "bool", "best", "none"} {
		tells(t, n, api.Model{Vars: named("y", n)}, api.OK)
	}
	wrong := strings.Fields("var con solve le eq ne differ element table times max clause iff any least most")
	wrong = append(wrong, "", "X", "1", "1x", ";", " x", "x ", "x y", "x%", "%", "x-", "abcdefghijklm", strings.Repeat("a", 5000), "é", "x\x00")
	for _, n := range wrong {
		tells(t, n, api.Model{Vars: named("y", n)}, api.ErrForm)
	}
}

// B1: what is wrong with variables, one by one, in the promise's order.
func TestCheckVars(t *testing.T) {
	for _, c := range []struct {
		what string
		vars []api.Var
		want api.Errno
	}{
		{"one value", []api.Var{{Name: "x", Lo: 50, Hi: 50}}, api.OK},
		{"at both ends", []api.Var{{Name: "x", Lo: -50, Hi: -45}, {Name: "y", Lo: 45, Hi: 50}}, api.OK},
		{"Lo below", []api.Var{{Name: "x", Lo: -51, Hi: -50}}, api.ErrRange},
		{"Hi below", []api.Var{{Name: "x", Lo: -50, Hi: -51}}, api.ErrRange},
		{"Hi above", []api.Var{{Name: "x", Lo: 50, Hi: 51}}, api.ErrRange},
		{"Lo above", []api.Var{{Name: "x", Lo: 51, Hi: 51}}, api.ErrRange},
		{"far away", []api.Var{{Name: "x", Lo: math.MinInt, Hi: math.MaxInt}}, api.ErrRange},
		{"far away, the other way round", []api.Var{{Name: "x", Lo: math.MaxInt, Hi: math.MinInt}}, api.ErrRange},
		{"Lo more than Hi", []api.Var{{Name: "x", Lo: 1}}, api.ErrRange},
		{"six values", []api.Var{{Name: "x", Lo: -2, Hi: 3}}, api.OK},
		{"seven values", []api.Var{{Name: "x", Lo: -3, Hi: 3}}, api.ErrMany},
		{"all values", []api.Var{{Name: "x", Lo: -50, Hi: 50}}, api.ErrMany},
		{"the same name", named("x", "y", "x"), api.ErrTwice},
		{"no name ahead of range", []api.Var{{Name: "X", Lo: 51}}, api.ErrForm},
		{"no name ahead of twice", named("var", "var"), api.ErrForm},
		{"twice ahead of range", []api.Var{{Name: "x"}, {Name: "x", Lo: 9}}, api.ErrTwice},
		{"twice ahead of many", []api.Var{{Name: "x"}, {Name: "x", Hi: 9}}, api.ErrTwice},
		{"range ahead of many", []api.Var{{Name: "x", Lo: -50, Hi: 51}}, api.ErrRange},
		{"many of the first ahead of no name", []api.Var{{Name: "x", Hi: 9}, {Name: "X"}}, api.ErrMany},
		{"range of the first ahead of twice", []api.Var{{Name: "x", Lo: 9}, {Name: "x"}}, api.ErrRange},
	} {
		tells(t, c.what, api.Model{Vars: c.vars}, c.want)
		wrongCon := []api.Con{{}}
		if c.want != api.OK {
			tells(t, c.what+", and a constraint of no kind", api.Model{Vars: c.vars, Cons: wrongCon, Goal: 9}, c.want)
		}
	}
}

// B1: kinds.
func TestCheckKinds(t *testing.T) {
	for i, c := range oneOfEach() {
		if c.Kind != i+1 {
			t.Fatalf("the kinds are %d, not %d", c.Kind, i+1)
		}
		tells(t, "a right one", plain(c), api.OK)
	}
	for _, kind := range []int{0, -1, 11, math.MaxInt, math.MinInt} {
		tells(t, "no kind", plain(api.Con{Kind: kind}), api.ErrKind)
		tells(t, "no kind, too many", plain(api.Con{Kind: kind, Vars: make([]int, 5)}), api.ErrKind)
	}
}

// B1: too many of anything, of every kind, ahead of what its form is.
func TestCheckManyOfConstraints(t *testing.T) {
	for kind := api.ConLe; kind <= api.ConIff; kind++ {
		for _, c := range []api.Con{
			{Vars: make([]int, 5)}, {Lits: make([]api.Lit, 5)}, {Consts: make([]int, 9)}, {Rows: make([][]int, 21)},
			{Vars: []int{9, 9, 9, 9, 9}, Consts: []int{2000}, N: 2000},
		} {
			c.Kind = kind
			tells(t, "too many", plain(c), api.ErrMany)
		}
	}
	lits := slices.Repeat([]api.Lit{{Op: api.OpEq}}, 4)
	for _, c := range []api.Con{
		{Kind: api.ConLe, Vars: []int{0, 0, 1, 1}, Consts: []int{1, 2, 3, 4}},
		{Kind: api.ConDiffer, Vars: []int{0, 1, 2, 0}},
		{Kind: api.ConElement, Vars: []int{0, 1}, Consts: make([]int, 8)},
		{Kind: api.ConTable, Vars: []int{0, 1, 2, 2}, Rows: slices.Repeat([][]int{{1, 2, 3, 4}}, 20)},
		{Kind: api.ConMax, Vars: []int{0, 1, 2, 0}},
		{Kind: api.ConClause, Lits: lits},
	} {
		tells(t, "as many as may be", plain(c), api.OK)
	}
}

// B1: how many of everything a kind asks: all small counts of all kinds, against the promise's words.
func TestCheckForms(t *testing.T) {
	for kind := api.ConLe; kind <= api.ConIff; kind++ {
		for code := range 5 * 5 * 3 * 4 * 2 {
			vars, consts, rows, lits, n := code%5, code/5%5, code/25%3, code/75%4, code/300
			c := api.Con{Kind: kind, Vars: make([]int, vars), Consts: make([]int, consts), N: n}
			c.Rows = slices.Repeat([][]int{make([]int, vars)}, rows)
			c.Lits = slices.Repeat([]api.Lit{{Op: api.OpGe}}, lits)
			want := api.ErrForm
			if askedFor(kind, [4]int{vars, consts, rows, lits}) && (n == 0 || kind <= api.ConNe) {
				want = api.OK
			}
			if e := Check(plain(c)); e != want {
				t.Errorf("B1: kind %d with %d %d %d %d, N %d: %d, want %d", kind, vars, consts, rows, lits, n, e, want)
			}
		}
	}
	for _, row := range [][]int{nil, {}, {1}, {1, 2, 3}} {
		tells(t, "a row of another length", plain(api.Con{Kind: api.ConTable, Vars: []int{0, 1}, Rows: [][]int{{1, 2}, row}}), api.ErrForm)
	}
	tells(t, "one row in all, longer", plain(api.Con{Kind: api.ConTable, Vars: []int{0}, Rows: [][]int{make([]int, 1000)}}), api.ErrForm)
}

// askedFor: does a kind ask for so many Vars, Consts, Rows, Lits (rows as long as Vars)? -1 in a line is any, -2 one at least.
func askedFor(kind int, have [4]int) bool {
	if kind <= api.ConNe {
		return have[0] > 0 && have[1] == have[0] && have[2] == 0 && have[3] == 0
	}
	asked := map[int][4]int{
		api.ConDiffer: {-2, 0, 0, 0}, api.ConElement: {2, -2, 0, 0}, api.ConTable: {-2, 0, -1, 0}, api.ConTimes: {3, 0, 0, 0},
		api.ConMax: {-2, 0, 0, 0}, api.ConClause: {0, 0, 0, -1}, api.ConIff: {1, 0, 0, 1},
	}[kind]
	for i, n := range asked {
		if n >= 0 && have[i] != n || n == -2 && have[i] == 0 {
			return false
		}
	}
	return kind != api.ConMax || have[0] > 1
}

// B1: variables that are none, in Vars and Lits.
func TestCheckVarsOfConstraints(t *testing.T) {
	for _, none := range []int{-1, 3, math.MaxInt, math.MinInt} {
		for _, c := range oneOfEach() {
			for i := range c.Vars {
				d := c
				d.Vars = slices.Clone(c.Vars)
				d.Vars[i] = none
				tells(t, "no variable", plain(d), api.ErrNone)
			}
			for i := range c.Lits {
				d := c
				d.Lits = slices.Clone(c.Lits)
				d.Lits[i].Var = none
				tells(t, "no variable of a literal", plain(d), api.ErrNone)
			}
		}
	}
}

// B1: numbers that may not stand there, and those that just may.
func TestCheckNumbersOfConstraints(t *testing.T) {
	with := func(n int) []api.Con {
		return []api.Con{
			{Kind: api.ConLe, Vars: []int{0, 1}, Consts: []int{0, n}},
			{Kind: api.ConEq, Vars: []int{0}, Consts: []int{n}},
			{Kind: api.ConNe, Vars: []int{0}, Consts: []int{1}, N: n},
			{Kind: api.ConElement, Vars: []int{0, 1}, Consts: []int{1, 2, n}},
			{Kind: api.ConTable, Vars: []int{0, 1}, Rows: [][]int{{1, 2}, {3, n}}},
			{Kind: api.ConClause, Lits: []api.Lit{{Op: api.OpLe}, {Op: api.OpNe, N: n}}},
			{Kind: api.ConIff, Vars: []int{2}, Lits: []api.Lit{{Op: api.OpGe, N: n}}},
		}
	}
	for _, n := range []int{-1000, 1000} {
		for _, c := range with(n) {
			tells(t, "a number at the end", plain(c), api.OK)
		}
	}
	for _, n := range []int{-1001, 1001, math.MaxInt, math.MinInt} {
		for _, c := range with(n) {
			tells(t, "a number beyond", plain(c), api.ErrRange)
		}
	}
	for _, op := range []int{0, 5, -1, math.MaxInt} {
		tells(t, "no op", plain(api.Con{Kind: api.ConClause, Lits: []api.Lit{{Op: api.OpLe}, {Op: op}}}), api.ErrKind)
		tells(t, "no op", plain(api.Con{Kind: api.ConIff, Vars: []int{2}, Lits: []api.Lit{{Op: op}}}), api.ErrKind)
	}
}

// B1, P1: what is named first is told, constraint by constraint.
func TestCheckOrderOfConstraints(t *testing.T) {
	for _, c := range []struct {
		what string
		con  api.Con
		want api.Errno
	}{
		{"form ahead of none", api.Con{Kind: api.ConTimes, Vars: []int{9}}, api.ErrForm},
		{"form ahead of range", api.Con{Kind: api.ConEq, Vars: []int{0}, Consts: []int{2000, 1}}, api.ErrForm},
		{"N of another kind ahead of its range", api.Con{Kind: api.ConDiffer, Vars: []int{0}, N: 2000}, api.ErrForm},
		{"form ahead of ops", api.Con{Kind: api.ConIff, Lits: []api.Lit{{}}}, api.ErrForm},
		{"none ahead of range", api.Con{Kind: api.ConEq, Vars: []int{9}, Consts: []int{2000}}, api.ErrNone},
		{"none of a literal ahead of ops", api.Con{Kind: api.ConClause, Lits: []api.Lit{{}, {Var: 9, Op: 1}}}, api.ErrNone},
		{"none of a literal ahead of range", api.Con{Kind: api.ConClause, Lits: []api.Lit{{Op: 1, N: 2000}, {Var: 9, Op: 1}}}, api.ErrNone},
		{"op ahead of range", api.Con{Kind: api.ConClause, Lits: []api.Lit{{Op: 9, N: 2000}}}, api.ErrKind},
		{"op of another one ahead of range", api.Con{Kind: api.ConClause, Lits: []api.Lit{{Op: 1, N: 2000}, {Op: 9}}}, api.ErrKind},
	} {
		tells(t, c.what, plain(c.con), c.want)
		m := plain(c.con)
		m.Cons = append(m.Cons, api.Con{}, api.Con{Kind: api.ConLe, Vars: make([]int, 5)})
		m.Goal = 7
		tells(t, c.what+", with others wrong behind it", m, c.want)
		m.Cons = append(oneOfEach()[:7], c.con)
		tells(t, c.what+", with others right ahead of it", m, c.want)
	}
}

// B1: goals.
func TestCheckGoals(t *testing.T) {
	for _, c := range []struct {
		goal, v int
		want    api.Errno
	}{
		{api.GoalAny, 0, api.OK}, {api.GoalAny, 1, api.ErrForm}, {api.GoalAny, -1, api.ErrForm}, {api.GoalAny, 3, api.ErrForm},
		{api.GoalLeast, 0, api.OK}, {api.GoalLeast, 2, api.OK}, {api.GoalLeast, 3, api.ErrNone}, {api.GoalLeast, -1, api.ErrNone},
		{api.GoalMost, 0, api.OK}, {api.GoalMost, 2, api.OK}, {api.GoalMost, 3, api.ErrNone}, {api.GoalMost, math.MinInt, api.ErrNone},
		{3, 0, api.ErrKind}, {-1, 0, api.ErrKind}, {3, 9, api.ErrKind},
	} {
		m := plain(api.Con{Kind: api.ConClause})
		m.Goal, m.Var = c.goal, c.v
		tells(t, "a goal", m, c.want)
		m.Cons[0].N = 1
		tells(t, "a goal, and a wrong constraint", m, api.ErrForm)
	}
}
