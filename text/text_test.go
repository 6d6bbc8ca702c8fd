package text

import (
	"fmt"
	"math/rand"
	"slices"
	"strings"
	"testing"

	"cordon/api"
	"cordon/model"
)

// kinds is a text with constraints of all kinds, as Print has it, and kindsModel its model. (There are more kinds than one
// model may have constraints.)
const kinds = `var x: 0..2;
var y: -3..2;
var z9: -5..-1;
con le [1, -1] [x, y] -1;
con eq [2] [z9] -4;
con ne [0, 7, -1000] [y, y, x] 1000;
con differ [x, y, z9];
con element [3, -5, 0] x z9;
con table [x, z9] [[0, -1], [2, 22]];
con times y x z9;
con max z9 [y, x];
solve least y;
`

func kindsModel() api.Model {
	return api.Model{
		Vars: []api.Var{{Name: "x", Lo: 0, Hi: 2}, {Name: "y", Lo: -3, Hi: 2}, {Name: "z9", Lo: -5, Hi: -1}},
		Cons: []api.Con{
			{Kind: api.ConLe, Vars: []int{0, 1}, Consts: []int{1, -1}, N: -1},
			{Kind: api.ConEq, Vars: []int{2}, Consts: []int{2}, N: -4},
			{Kind: api.ConNe, Vars: []int{1, 1, 0}, Consts: []int{0, 7, -1000}, N: 1000},
			{Kind: api.ConDiffer, Vars: []int{0, 1, 2}},
			{Kind: api.ConElement, Vars: []int{0, 2}, Consts: []int{3, -5, 0}},
			{Kind: api.ConTable, Vars: []int{0, 2}, Rows: [][]int{{0, -1}, {2, 22}}},
			{Kind: api.ConTimes, Vars: []int{1, 0, 2}},
			{Kind: api.ConMax, Vars: []int{2, 1, 0}},
		},
		Goal: api.GoalLeast,
		Var:  1,
	}
}

// clauses has the other two kinds, all ops, and lists that are empty.
const clauses = `var x: 0..2;
var b: 0..1;
con clause [x <= 1, b >= 0, x == 2, b != -1];
con clause [];
con iff b x == 2;
con iff x b <= -1000;
con iff b b >= 0;
con iff b x != 1;
con table [b] [];
solve most b;
`

func clausesModel() api.Model {
	return api.Model{
		Vars: []api.Var{{Name: "x", Hi: 2}, {Name: "b", Hi: 1}},
		Cons: []api.Con{
			{Kind: api.ConClause, Lits: []api.Lit{
				{Var: 0, Op: api.OpLe, N: 1}, {Var: 1, Op: api.OpGe}, {Var: 0, Op: api.OpEq, N: 2}, {Var: 1, Op: api.OpNe, N: -1}}},
			{Kind: api.ConClause},
			{Kind: api.ConIff, Vars: []int{1}, Lits: []api.Lit{{Var: 0, Op: api.OpEq, N: 2}}},
			{Kind: api.ConIff, Vars: []int{0}, Lits: []api.Lit{{Var: 1, Op: api.OpLe, N: -1000}}},
			{Kind: api.ConIff, Vars: []int{1}, Lits: []api.Lit{{Var: 1, Op: api.OpGe}}},
			{Kind: api.ConIff, Vars: []int{1}, Lits: []api.Lit{{Var: 0, Op: api.OpNe, N: 1}}},
			{Kind: api.ConTable, Vars: []int{1}},
		},
		Goal: api.GoalMost,
		Var:  1,
	}
}

const small = "var x: 7..7;\nsolve any;\n"

func smallModel() api.Model { return api.Model{Vars: []api.Var{{Name: "x", Lo: 7, Hi: 7}}} }

// show a model; an empty list is shown as a nil one is.
func show(m api.Model) string { return fmt.Sprintf("%+v", m) }

// draw tells a model that is right, the same for the same source.
func draw(r *rand.Rand) api.Model {
	names := []string{"x", "y2", "abcdefghijkl", "vary", "lea", "z"}
	var m api.Model
	for _, n := range names[:1+r.Intn(len(names))] {
		lo := r.Intn(95) - 50
		m.Vars = append(m.Vars, api.Var{Name: n, Lo: lo, Hi: lo + r.Intn(6)})
	}
	for range r.Intn(9) {
		m.Cons = append(m.Cons, drawCon(r, len(m.Vars)))
	}
	if m.Goal = r.Intn(3); m.Goal != api.GoalAny {
		m.Var = r.Intn(len(m.Vars))
	}
	return m
}

func drawCon(r *rand.Rand, vars int) api.Con {
	number := func() int { return r.Intn(2001) - 1000 }
	variable := func() int { return r.Intn(vars) }
	lit := func() api.Lit { return api.Lit{Var: variable(), Op: 1 + r.Intn(4), N: number()} }
	c := api.Con{Kind: 1 + r.Intn(10)}
	size := 1 + r.Intn(4)
	switch c.Kind {
	case api.ConLe, api.ConEq, api.ConNe:
		c.Vars, c.Consts, c.N = times(size, variable), times(size, number), number()
	case api.ConDiffer:
		c.Vars = times(size, variable)
	case api.ConElement:
		c.Vars, c.Consts = times(2, variable), times(1+r.Intn(8), number)
	case api.ConTable:
		c.Vars = times(size, variable)
		c.Rows = times(r.Intn(21), func() []int { return times(size, number) })
	case api.ConTimes:
		c.Vars = times(3, variable)
	case api.ConMax:
		c.Vars = times(max(size, 2), variable)
	case api.ConClause:
		c.Lits = times(r.Intn(5), lit)
	case api.ConIff:
		c.Vars, c.Lits = times(1, variable), times(1, lit)
	}
	return c
}

func times[T any](n int, next func() T) []T {
	var list []T
	for range n {
		list = append(list, next())
	}
	return list
}

// C1 to C4: texts and their models.
func TestTexts(t *testing.T) {
	for _, c := range []struct {
		s string
		m api.Model
	}{{kinds, kindsModel()}, {clauses, clausesModel()}, {small, smallModel()}} {
		m, at, e := Parse(c.s)
		if show(m) != show(c.m) || at != 0 || e != api.OK {
			t.Errorf("C2: Parse(%q) = %s %d %d, want %s", c.s, show(m), at, e, show(c.m))
		}
		s, e := Print(c.m)
		if s != c.s || e != api.OK {
			t.Errorf("C3: Print(%s) = %q %d, want %q", show(c.m), s, e, c.s)
		}
	}
}

// C4: what is printed is parsed as it was, unless it has more bytes than a text may have: then Parse says so.
func TestPrintedIsParsed(t *testing.T) {
	r := rand.New(rand.NewSource(1))
	tooLong := 0
	for range 3000 {
		m := draw(r)
		if e := model.Check(m); e != api.OK {
			t.Fatalf("%s: %d", show(m), e)
		}
		s, e := Print(m)
		if e != api.OK {
			t.Fatalf("C3: Print(%s) = %d", show(m), e)
		}
		back, at, e := Parse(s)
		if len(s) > api.MaxText {
			tooLong++
			if show(back) != show(api.Model{}) || at != 0 || e != api.ErrMany {
				t.Fatalf("C2: Parse of %d bytes = %s %d %d", len(s), show(back), at, e)
			}
			continue
		}
		if show(back) != show(m) || at != 0 || e != api.OK {
			t.Fatalf("C4: Parse(%q) = %s %d %d, want %s", s, show(back), at, e, show(m))
		}
	}
	if tooLong > 100 {
		t.Errorf("%d texts are too long to tell anything", tooLong)
	}
}

// C3, C4: the longest text of all is printed, though it can't be parsed.
func TestPrintLongest(t *testing.T) {
	row := []int{-1000, -1000, -1000, -1000}
	c := api.Con{Kind: api.ConTable, Vars: []int{0, 0, 0, 0}, Rows: slices.Repeat([][]int{row}, 20)}
	m := api.Model{Vars: []api.Var{{Name: "abcdefghijkl"}}, Cons: slices.Repeat([]api.Con{c}, 8)}
	rows := "[" + strings.Repeat("[-1000, -1000, -1000, -1000], ", 19) + "[-1000, -1000, -1000, -1000]]"
	line := "con table [abcdefghijkl, abcdefghijkl, abcdefghijkl, abcdefghijkl] " + rows + ";\n"
	want := "var abcdefghijkl: 0..0;\n" + strings.Repeat(line, 8) + "solve any;\n"
	if s, e := Print(m); s != want || e != api.OK {
		t.Errorf("C3: Print = %q %d", s, e)
	}
	if got, at, e := Parse(want); show(got) != show(api.Model{}) || at != 0 || e != api.ErrMany {
		t.Errorf("C2: Parse = %s %d %d", show(got), at, e)
	}
}

// P2: what Parse answers is the caller's, no two lists of it in one memory.
func TestParseApart(t *testing.T) {
	for _, s := range []string{kinds, clauses} {
		m, _, _ := Parse(s)
		var lists [][]int
		var lits [][]api.Lit
		for _, c := range m.Cons {
			lists = append(append(lists, c.Vars, c.Consts), c.Rows...)
			lits = append(lits, c.Lits)
		}
		for i, l := range lists {
			for j := range l[:cap(l)] {
				l[:cap(l)][j] = 5000 + i
			}
		}
		for i, l := range lits {
			for j := range l[:cap(l)] {
				l[:cap(l)][j].Op = 5000 + i
			}
		}
		for i, l := range lists {
			for _, n := range l {
				if n != 5000+i {
					t.Errorf("P2: list %d of %q shares memory with another", i, s)
				}
			}
		}
		for i, l := range lits {
			for _, lit := range l {
				if lit.Op != 5000+i {
					t.Errorf("P2: literals %d of %q share memory with others", i, s)
				}
			}
		}
		if again, _, _ := Parse(s); show(again) == show(m) {
			t.Errorf("P3: what was changed in an answer is in the next one")
		}
	}
}

// P2: Print only reads, the room behind lists too.
func TestPrintReads(t *testing.T) {
	roomy := func() api.Model {
		m := kindsModel()
		m.Vars = append(m.Vars, api.Var{Name: "q"})[:3]
		m.Cons = append(m.Cons, api.Con{Kind: 77})[:8]
		for i, c := range m.Cons {
			m.Cons[i].Vars = append(c.Vars, 77)[:len(c.Vars)]
			m.Cons[i].Consts = append(c.Consts, 77)[:len(c.Consts)]
			m.Cons[i].Rows = append(c.Rows, []int{77})[:len(c.Rows)]
		}
		return m
	}
	all := func(m api.Model) string {
		m.Vars, m.Cons = m.Vars[:4], slices.Clone(m.Cons[:9])
		for i, c := range m.Cons[:8] {
			m.Cons[i].Vars, m.Cons[i].Consts, m.Cons[i].Rows = c.Vars[:len(c.Vars)+1], c.Consts[:len(c.Consts)+1], c.Rows[:len(c.Rows)+1]
		}
		return show(m)
	}
	m := roomy()
	for range 2 {
		if s, e := Print(m); s != kinds || e != api.OK {
			t.Errorf("P3: Print = %q %d", s, e)
		}
	}
	if all(m) != all(roomy()) {
		t.Errorf("P2: Print changed %s to %s", all(roomy()), all(m))
	}
}

// C3: Check's errors are Print's.
func TestPrintErrors(t *testing.T) {
	for i, change := range []func(m *api.Model){
		func(m *api.Model) { m.Vars = nil },
		func(m *api.Model) { m.Vars = slices.Repeat(m.Vars, 3) },
		func(m *api.Model) { m.Vars[1].Name = "X" },
		func(m *api.Model) { m.Vars[1].Name = "con" },
		func(m *api.Model) { m.Vars[1].Name = "x" },
		func(m *api.Model) { m.Vars[1].Hi = 51 },
		func(m *api.Model) { m.Vars[1].Hi = 4 },
		func(m *api.Model) { m.Cons[7].Kind = 11 },
		func(m *api.Model) { m.Cons[7].Kind = -1 },
		func(m *api.Model) { m.Cons[7].Vars = []int{0} },
		func(m *api.Model) { m.Cons[7].Vars[2] = 3 },
		func(m *api.Model) { m.Cons[7].Vars[2] = -1 },
		func(m *api.Model) { m.Cons[7].N = 1 },
		func(m *api.Model) { m.Cons[5].Rows[1][1] = 1001 },
		func(m *api.Model) { m.Cons[7] = api.Con{Kind: api.ConClause, Lits: []api.Lit{{}}} },
		func(m *api.Model) { m.Cons[7] = api.Con{Kind: api.ConIff} },
		func(m *api.Model) { m.Goal = 3 },
		func(m *api.Model) { m.Goal = -1 },
		func(m *api.Model) { m.Goal = api.GoalAny },
		func(m *api.Model) { m.Var = 3 },
		func(m *api.Model) { *m = api.Model{} },
	} {
		m := kindsModel()
		change(&m)
		want := model.Check(m)
		if want == api.OK {
			t.Errorf("the model %d is right", i)
		}
		if s, e := Print(m); s != "" || e != want {
			t.Errorf("C3: %d: Print = %q %d, want %d", i, s, e, want)
		}
	}
}
