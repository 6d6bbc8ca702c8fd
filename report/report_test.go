package report

import (
	"fmt"
	"math"
	"math/rand"
	"slices"
	"strings"
	"testing"

	"cordon/api"
	"cordon/best"
	"cordon/model"
	"cordon/proof"
	"cordon/text"
)

// example of the document: x, y, b.
const example = "var x: 0..2; var y: 0..2; var b: 0..1; con le [1, -1] [x, y] -1; con iff b y == 2; con clause [b == 0, x != 1]; solve most x;"

// pigeons: six, and five holes.
const pigeons = `var a: 0..4; var b: 0..4; var c: 0..4; var d: 0..4; var e: 0..4; var f: 0..4;
	con differ [a, b, c, d]; con differ [a, b, e, f]; con differ [c, d, e, f]; solve least f;`

// never: a model of which nothing holds.
const never = "var x: 0..1; con clause []; solve any;"

// of: a literal.
func of(v, op, n int) api.Lit { return api.Lit{Var: v, Op: op, N: n} }

// unit: a step that clauses ahead say.
func unit(c ...api.Lit) api.Step { return api.Step{Kind: api.StepUnit, Clause: c} }

// con: a step that a constraint says.
func con(n int, c ...api.Lit) api.Step { return api.Step{Kind: api.StepCon, Con: n, Clause: c} }

// steps, as a list.
func steps(l ...api.Step) []api.Step { return l }

// pad a text behind, up to so many bytes.
func pad(s string, n int) string { return s + strings.Repeat(" ", n-len(s)) }

// padAhead: likewise, ahead of it.
func padAhead(s string, n int) string { return strings.Repeat("\n", n-len(s)) + s }

// goal: a model's text with another goal.
func goal(s, of string) string { return s[:strings.Index(s, "solve ")] + "solve " + of + ";" }

// N1: answers where they are not free, told by hand.
func TestAnswer(t *testing.T) {
	for _, c := range []struct {
		text string
		fuel int
		want string
	}{
		{goal(example, "most y"), api.MaxFuel, "best\nx = 0\ny = 2\nb = 1\n"},
		{goal(example, "least y"), api.MaxFuel, "best\nx = 0\ny = 1\nb = 0\n"},
		{goal(example, "most b"), api.MaxFuel, "best\nx = 0\ny = 2\nb = 1\n"},
		{"var x: -50..-45; solve least x;", api.MaxFuel, "best\nx = -50\n"},
		{"var x: -50..-45; solve most x;", api.MaxFuel, "best\nx = -45\n"},
		{"var longestname1: 7..7; solve any;", api.MaxFuel, "found\nlongestname1 = 7\n"},
		{"var longestname1: 7..7; solve most longestname1;", api.MaxFuel, "best\nlongestname1 = 7\n"},
		{"var b: 1..1; var a: -3..-3; solve any;", api.MaxFuel, "found\nb = 1\na = -3\n"},
		{"var a: 0..2; var b: 0..2; var c: 0..2; con differ [a, b]; con differ [b, c]; con differ [a, c]; con eq [1, 3, 9] [a, b, c] 11; solve any;", api.MaxFuel, "found\na = 2\nb = 0\nc = 1\n"},
		{"var a: 1..1; var b: 2..2; var c: 3..3; var d: 4..4; var e: 5..5; var f: -6..-6; solve least f;", api.MaxFuel, "best\na = 1\nb = 2\nc = 3\nd = 4\ne = 5\nf = -6\n"},
		{never, api.MaxFuel, "none\n"},
		{"var x: 0..1; con clause []; solve most x;", api.MaxFuel, "none\n"},
		{pigeons, api.MaxFuel, "none\n"},
		{pigeons, 5, "unknown\n"},
		{goal(pigeons, "any"), 5, "unknown\n"},
		// texts that are none, and where
		{"", api.MaxFuel, "text 0\n"},
		{"", 0, "text 0\n"},
		{"solve any;", api.MaxFuel, "text 0\n"},
		{"var x: 0..1; solve any", api.MaxFuel, "text 22\n"},
		{"var x: 0..1; solve least z;", api.MaxFuel, "text 25\n"},
		{"var x: 0..1; ?", api.MaxFuel, "text 13\n"},
		{"var x: 0..1; var x: 0..1; solve any;", api.MaxFuel, "text 0\n"},
		{"var x: 0..12345; solve any;", api.MaxFuel, "text 10\n"},
		{"var abcdefghijklm: 0..1; solve any;", api.MaxFuel, "text 4\n"},
		{padAhead("x", api.MaxText), api.MaxFuel, "text 3999\n"},
		{strings.Repeat(" ", api.MaxText), api.MaxFuel, "text 4000\n"},
		// the longest text
		{pad(goal(example, "most y"), api.MaxText), api.MaxFuel, "best\nx = 0\ny = 2\nb = 1\n"},
		{padAhead(never, api.MaxText), 300, "none\n"},
	} {
		got, e := Answer(c.text, c.fuel)
		if got != c.want || e != api.OK {
			t.Errorf("N1: Answer(%.60q, %d) = %q %d, want %q", c.text, c.fuel, got, e, c.want)
		}
	}
}

// N1, P1: too long a text ahead of fuel, and both ahead of what the text says; and nothing beside.
func TestAnswerErrors(t *testing.T) {
	for _, s := range []string{example, never, "", "solve any;", "var x: 0..1; solve least z;", pad(example, api.MaxText), strings.Repeat("x", api.MaxText),
		pad(example, api.MaxText+1), padAhead(never, api.MaxText+1), strings.Repeat("x", api.MaxText+1), strings.Repeat(" ", 100000)} {
		for _, fuel := range []int{0, 1, 299, api.MaxFuel, -1, api.MaxFuel + 1, math.MinInt, math.MaxInt} {
			want := api.OK
			switch {
			case len(s) > 4000:
				want = api.ErrMany
			case fuel < 0 || fuel > 300:
				want = api.ErrRange
			}
			got, e := Answer(s, fuel)
			if e != want || (got == "") != (want != api.OK) {
				t.Errorf("N1: Answer(%.60q, %d) = %q %d, want %d", s, fuel, got, e, want)
			}
		}
	}
}

// right proof, of the document's example, that x is never 1 or more.
func right() []api.Step {
	return steps(
		con(0, of(0, api.OpNe, 2)),
		con(0, of(0, api.OpNe, 1), of(1, api.OpEq, 2)),
		con(1, of(1, api.OpNe, 2), of(2, api.OpEq, 1)),
		con(2, of(2, api.OpEq, 0), of(0, api.OpNe, 1)),
		unit(),
	)
}

// N2: what is verified, told by hand.
func TestVerify(t *testing.T) {
	const up, down = "var x: 0..2; con ne [1] [x] 2; solve most x;", "var x: 0..2; con ne [1] [x] 0; solve least x;"
	const free = "var x: 0..2; var y: 0..2; con le [1, -1] [x, y] -1; solve any;"
	for i, c := range []struct {
		text   string
		values []int
		l      []api.Step
		want   bool
	}{
		{example, []int{0, 1, 0}, right(), true},
		{example, []int{0, 2, 1}, right(), true},
		// a proof, but not of such values
		{example, []int{0, 2, 0}, right(), false},
		{example, []int{0, 0, 0}, right(), false},
		{example, []int{0, 3, 0}, right(), false},
		{example, []int{0, 1, math.MinInt}, right(), false},
		{example, []int{0, math.MaxInt, 1}, right(), false},
		{example, []int{1, 2, 1}, right(), false},
		{example, nil, right(), false},
		{example, []int{}, right(), false},
		// such values, but no proof
		{example, []int{0, 1, 0}, nil, false},
		{example, []int{0, 1, 0}, steps(unit()), false},
		{example, []int{0, 1, 0}, right()[:4], false},
		{example, []int{0, 1, 0}, right()[1:], false},
		{example, []int{0, 1, 0}, slices.Concat(right(), steps(con(0, of(0, api.OpNe, 2)))), false},
		{example, []int{0, 1, 0}, slices.Concat(steps(con(0, of(0, api.OpEq, 2))), right()), false},
		{example, []int{0, 1, 0}, slices.Concat(steps(api.Step{Kind: 9, Clause: api.Clause{of(0, api.OpNe, 2)}}), right()), false},
		{example, []int{0, 1, 0}, slices.Concat(right()[:4], steps(api.Step{Kind: api.StepUnit, Con: 1})), false},
		{goal(example, "least x"), []int{0, 1, 0}, steps(unit()), true}, // less than 0 it is not
		{goal(example, "least x"), []int{0, 1, 0}, nil, false},
		// the goal's variable, and which way
		{up, []int{1}, steps(con(0, of(0, api.OpNe, 2)), unit()), true},
		{up, []int{0}, steps(con(0, of(0, api.OpNe, 2)), unit()), false}, // 1 is better
		{up, []int{2}, steps(unit()), false},                             // nothing is better, but it does not hold
		{goal(up, "least x"), []int{0}, steps(unit()), true},
		{goal(up, "least x"), []int{1}, steps(con(0, of(0, api.OpNe, 2)), unit()), false},
		{down, []int{1}, steps(con(0, of(0, api.OpNe, 0)), unit()), true},
		{down, []int{2}, steps(con(0, of(0, api.OpNe, 0)), unit()), false},
		{down, []int{0}, steps(unit()), false},
		{goal(down, "most x"), []int{2}, steps(unit()), true},
		// GoalAny: no values are better than such values
		{free, []int{0, 1}, steps(unit()), true},
		{free, []int{1, 2}, steps(con(0, of(0, api.OpNe, 2)), unit()), true},
		{free, []int{0, 1}, nil, false},
		{free, []int{0, 1}, steps(con(0, of(0, api.OpNe, 2))), false},
		{free, []int{1, 1}, steps(unit()), false},
		{free, []int{0, 9}, steps(unit()), false},
		{free, nil, steps(unit()), false},
		// nothing
		{never, nil, steps(con(0)), true},
		{never, []int{}, steps(con(0)), true},
		{never, nil, steps(con(0, of(0, api.OpEq, 0)), unit()), false},
		{never, nil, steps(con(0, of(0, api.OpEq, 0)), con(0, of(0, api.OpEq, 1)), unit()), true},
		{never, nil, nil, false},
		{never, []int{0}, steps(con(0)), false},
		{goal(never, "most x"), nil, steps(con(0)), true},
		{goal(never, "most x"), []int{0}, steps(con(0)), false},
	} {
		if got, e := Verify(c.text, c.values, c.l); got != c.want || e != api.OK {
			t.Errorf("N2: %d: Verify(%q, %v, %v) = %v %d, want %v", i, c.text, c.values, c.l, got, e, c.want)
		}
	}
}

// N2, P1: errors of the text, then of the values, then of the steps; and nothing beside.
func TestVerifyErrors(t *testing.T) {
	many := make([]api.Step, api.MaxSteps+1)
	for i := range many {
		many[i] = unit(of(9, 9, 9))
	}
	lits := make([]api.Lit, api.MaxLits+1)
	type part[T any] struct {
		of   T
		want api.Errno
	}
	texts := []part[string]{{example, api.OK}, {strings.Repeat(" ", 4001), api.ErrMany}, {"", api.ErrForm}, {"var x: 0..1; solve most y;", api.ErrNone},
		{"var x: 0..1; var x: 0..1; solve any;", api.ErrTwice}, {"var x: 1..0; solve any;", api.ErrRange}}
	values := []part[[]int]{{nil, api.OK}, {[]int{}, api.OK}, {[]int{0, 1, 0}, api.OK}, {[]int{2, 99, -99}, api.OK}, {[]int{0}, api.ErrForm}, {[]int{9, 9, 9, 9}, api.ErrForm},
		{[]int{-1, 1, 0}, api.ErrRange}, {[]int{3, 1, 0}, api.ErrRange}, {[]int{math.MaxInt, 1, 0}, api.ErrRange}}
	proofs := []part[[]api.Step]{{right(), api.OK}, {nil, api.OK}, {many[:api.MaxSteps], api.ErrNone}, {many, api.ErrMany}, {steps(unit(lits...)), api.ErrMany},
		{steps(unit(of(3, api.OpEq, 0))), api.ErrNone}, {steps(unit(of(0, 0, 0))), api.ErrKind}, {steps(con(0, of(0, api.OpEq, 1001))), api.ErrRange},
		{steps(con(3)), api.ErrNone}, {steps(con(-1)), api.ErrNone}, {steps(api.Step{Kind: 0, Con: 99}), api.OK}}
	for _, s := range texts {
		for _, v := range values {
			for i, l := range proofs {
				want := s.want
				if want == api.OK {
					want = v.want
				}
				if want == api.OK {
					want = l.want
				}
				if ok, e := Verify(s.of, v.of, l.of); e != want || e != api.OK && ok {
					t.Errorf("N2: Verify(%.60q, %v, steps %d) = %v %d, want %d", s.of, v.of, i, ok, e, want)
				}
			}
		}
	}
}

// N2: as many steps as there may be.
func TestVerifyLong(t *testing.T) {
	l := right()
	for len(l) < api.MaxSteps {
		l = slices.Insert(l, 0, con(0, of(0, api.OpNe, 2)))
	}
	if ok, e := Verify(example, []int{0, 1, 0}, l); !ok || e != api.OK {
		t.Errorf("N2: %d steps: %v %d", len(l), ok, e)
	}
	l = slices.Insert(l, 0, con(0, of(0, api.OpNe, 2)))
	if ok, e := Verify(example, []int{0, 1, 0}, l); ok || e != api.ErrMany {
		t.Errorf("N2: %d steps: %v %d", len(l), ok, e)
	}
}

// asked of the calls ahead: what Verify must answer, by chapters 2, 3, 9 and 13, of what is right.
func asked(t *testing.T, s string, values []int, l []api.Step) bool {
	m, _, e := text.Parse(s)
	var given []api.Clause
	if len(values) > 0 {
		c, f := best.Better(m, values)
		given = append(given, c)
		e = max(e, f)
	}
	ok, f := proof.Check(m, given, l)
	if e = max(e, f); e != api.OK {
		t.Fatalf("%s %v %v: %d", s, values, l, e)
	}
	if len(values) > 0 {
		all, _ := model.All(m, values)
		return ok && all
	}
	return ok
}

// N1 to N3: what is answered of models that are drawn is so, and verified; with other values, and other steps, it is verified
// only if it is best all the same.
func TestDrawn(t *testing.T) {
	r := rand.New(rand.NewSource(141))
	verdicts, yes, no := [4]int{}, 0, 0
	for i := range 1200 {
		m := drawn(t, r, few()[i%len(few())], api.MaxCons)
		s, _ := text.Print(m)
		a, _ := best.Best(m, api.MaxFuel)
		got, e := Answer(s, api.MaxFuel)
		if want := lines(m, a); got != want || e != api.OK {
			t.Fatalf("N1: Answer(%s) = %q %d, want %q", s, got, e, want)
		}
		verdicts[a.Verdict]++
		if m.Goal == api.GoalAny && a.Verdict == api.VerdictFound {
			a.Proof = steps(unit())
		}
		if ok, e := Verify(s, a.Values, a.Proof); !ok || e != api.OK {
			t.Fatalf("N2: Verify(%s, %v, %v) = %v %d", s, a.Values, a.Proof, ok, e)
		}
		all := walk(m)
		for _, values := range [][]int{nil, all[r.Intn(len(all))], all[r.Intn(len(all))], a.Values} {
			l := a.Proof
			if r.Intn(2) == 0 {
				at := r.Intn(len(l))
				l = slices.Delete(slices.Clone(l), at, at+1)
			}
			ok, e := Verify(s, values, l)
			if ok != asked(t, s, values, l) || e != api.OK {
				t.Fatalf("N2: Verify(%s, %v, %v) = %v %d", s, values, l, ok, e)
			}
			if ok && !isBest(m, values, those(m)) {
				t.Fatalf("N3: Verify(%s, %v, %v) = %v", s, values, l, ok)
			}
			if ok {
				yes++
			} else {
				no++
			}
		}
	}
	if verdicts[api.VerdictFound] < 300 || verdicts[api.VerdictNone] < 100 || yes < 300 || no < 300 {
		t.Errorf("%v verdicts, %d verified, %d not: too few tell anything", verdicts, yes, no)
	}
}

// N3: with a proof that is one, all values that are as good, and of which all holds, are verified, and no others.
func TestEachValues(t *testing.T) {
	r := rand.New(rand.NewSource(142))
	for i := range 200 {
		m := drawn(t, r, few()[i%len(few())], 3)
		a, _ := best.Best(m, api.MaxFuel)
		if m.Goal == api.GoalAny || a.Verdict != api.VerdictFound {
			continue
		}
		s, _ := text.Print(m)
		for _, values := range walk(m) {
			all, _ := model.All(m, values)
			want := all && values[m.Var] == a.Values[m.Var]
			if ok, e := Verify(s, values, a.Proof); ok != want || e != api.OK {
				t.Fatalf("N3: Verify(%s, %v, %v) = %v %d, want %v", s, values, a.Proof, ok, e, want)
			}
		}
	}
}

// lines that Answer must tell of an answer.
func lines(m api.Model, a api.Answer) string {
	out := []string{"", "best", "none", "unknown"}[a.Verdict]
	if out == "best" && m.Goal == api.GoalAny {
		out = "found"
	}
	out += "\n"
	for v, value := range a.Values {
		out += fmt.Sprintf("%s = %d\n", m.Vars[v].Name, value)
	}
	return out
}

// P2, P3: what is handed in is only read, the room behind it too, and the answer is the same each time.
func TestApart(t *testing.T) {
	r := rand.New(rand.NewSource(143))
	for i := range 200 {
		m := drawn(t, r, few()[i%6], api.MaxCons)
		s, _ := text.Print(m)
		a, _ := best.Best(m, api.MaxFuel)
		values, l := roomy(a.Values, 77), roomy(a.Proof, api.Step{Kind: 78})
		for k, s := range l {
			l[k].Clause = roomy(s.Clause, of(79, 79, 79))
		}
		before := withRoom(values, l)
		first, _ := Verify(s, values, l)
		again, _ := Verify(s, values, l)
		if after := withRoom(values, l); after != before || first != again {
			t.Fatalf("P2, P3: %s was handed in, and is %s; %v, then %v", before, after, first, again)
		}
		told, _ := Answer(s, 2)
		if again, _ := Answer(s, 2); again != told {
			t.Fatalf("P3: Answer(%s) = %q, then %q", s, told, again)
		}
	}
}

// roomy list: with a mark in the room behind it.
func roomy[T any](l []T, mark T) []T { return append(slices.Clone(l), mark)[:len(l)] }

// withRoom: all that is handed in, and what lies behind its lists.
func withRoom(values []int, l []api.Step) string {
	out := fmt.Sprint(values[:cap(values)], l[:cap(l)])
	for _, s := range l {
		out += fmt.Sprint(s.Clause[:cap(s.Clause)])
	}
	return out
}
