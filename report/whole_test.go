package report

import (
	"fmt"
	"math/rand"
	"reflect"
	"slices"
	"strings"
	"testing"

	"cordon/api"
	"cordon/best"
	"cordon/clause"
	"cordon/explain"
	"cordon/filter"
	"cordon/fix"
	"cordon/learn"
	"cordon/lit"
	"cordon/model"
	"cordon/proof"
	"cordon/search"
	"cordon/store"
	"cordon/text"
	"cordon/token"
)

// The section 'What the whole promises', line by line, of models that are drawn.

// kinds of constraints, with X, Y and Z for variables.
var kinds = []string{
	"ne [1, -1] [X, Y] 0", "le [1, -1] [X, Y] 0", "le [1, 1, -1] [X, Y, Z] 2", "ne [1, 2, -1] [X, Y, Z] 3", "eq [1, 1, -1] [X, Y, Z] 1", "eq [1, -2, 2] [X, Y, Z] 0",
	"differ [X, Y, Z]", "times X Y Z", "max X [Y, Z]", "clause [X >= 1, Y == 0]", "clause [X != 1, Y <= 0, Z == 2]", "iff X Y == 1", "iff X Y >= 1",
	"ne [2] [X] 2", "le [-1] [X] 0", "clause [X != 0]", "element [2, 1, 0, 1] X Y", "table [X, Y] [[0, 1], [1, 0], [1, 1], [2, 0], [0, 2], [2, 3]]",
}

// drawn model: variables with as many values, some constraints, each of variables that are drawn, and a goal.
func drawn(t *testing.T, r *rand.Rand, sizes []int, most int) api.Model {
	names := strings.Split("abcdef", "")
	s := ""
	for v, n := range sizes {
		lo := -r.Intn(2)
		s += fmt.Sprintf("var %s: %d..%d; ", names[v], lo, lo+n-1)
	}
	for range r.Intn(most + 1) {
		order := append(r.Perm(len(sizes)), r.Perm(len(sizes))...)
		order = append(order, order...)
		of := strings.NewReplacer("X", names[order[0]], "Y", names[order[1]], "Z", names[order[2]])
		s += of.Replace("con " + kinds[r.Intn(len(kinds))] + "; ")
	}
	goals := []string{"any", "least ", "most ", "least ", "most "}
	goal := r.Intn(len(goals))
	if goal > 0 {
		goals[goal] += names[r.Intn(len(sizes))]
	}
	m, at, e := text.Parse(s + "solve " + goals[goal] + ";")
	if e != api.OK {
		t.Fatalf("%s: %d at %d", s, e, at)
	}
	return m
}

// few: sizes of variables with at most 100 values together, of many kinds.
func few() [][]int {
	return [][]int{{6, 4, 4}, {5, 5, 4}, {6, 6, 2}, {2, 2, 2, 2, 2, 3}, {4, 3, 2, 4}, {3, 3, 3, 3}, {6, 5, 3}, {2, 5, 5, 2}, {1, 6, 1, 4, 1, 4}, {2, 2, 2, 3, 4}, {4, 5}, {3}, {1}, {1, 1}}
}

// walk through all values of a model, in order.
func walk(m api.Model) [][]int {
	all := [][]int{nil}
	for _, w := range m.Vars {
		var longer [][]int
		for _, ahead := range all {
			for value := w.Lo; value <= w.Hi; value++ {
				longer = append(longer, append(slices.Clone(ahead), value))
			}
		}
		all = longer
	}
	return all
}

// those of all values of which all holds.
func those(m api.Model) [][]int {
	return slices.DeleteFunc(walk(m), func(values []int) bool { ok, _ := model.All(m, values); return !ok })
}

// isBest: are values one of all of which all holds, none of which is better? If there are no values, there must be none.
func isBest(m api.Model, values []int, all [][]int) bool {
	if len(values) == 0 {
		return len(all) == 0
	}
	better := func(others []int) bool {
		return m.Goal == api.GoalLeast && others[m.Var] < values[m.Var] || m.Goal == api.GoalMost && others[m.Var] > values[m.Var]
	}
	same := func(others []int) bool { return slices.Equal(values, others) }
	return slices.ContainsFunc(all, same) && !slices.ContainsFunc(all, better)
}

// in a store: are values?
func in(s api.Store, values []int) bool {
	for v, value := range values {
		if !slices.Contains(s[v], value) {
			return false
		}
	}
	return true
}

// drawnStore: most values of a model.
func drawnStore(r *rand.Rand, m api.Model) api.Store {
	s, _ := store.Begin(m)
	for v := range s {
		s[v] = slices.DeleteFunc(s[v], func(int) bool { return r.Intn(4) == 0 })
	}
	return s
}

// drawnLit: a literal of a model, that may say something.
func drawnLit(r *rand.Rand, m api.Model) api.Lit {
	v := r.Intn(len(m.Vars))
	return api.Lit{Var: v, Op: 1 + r.Intn(4), N: m.Vars[v].Lo - 1 + r.Intn(m.Vars[v].Hi-m.Vars[v].Lo+3)}
}

// drawnClause: a few literals, maybe none.
func drawnClause(r *rand.Rand, m api.Model) api.Clause {
	var c api.Clause
	for range r.Intn(4) {
		c = append(c, drawnLit(r, m))
	}
	return c
}

// each model that is drawn is told, with all values of which all holds.
func each(t *testing.T, seed int64, tell func(r *rand.Rand, m api.Model, all [][]int)) {
	r := rand.New(rand.NewSource(seed))
	for i := range 400 {
		m := drawn(t, r, few()[i%len(few())], api.MaxCons)
		tell(r, m, those(m))
	}
}

// What is joined is scanned as it was; what is printed is parsed as it was.
func TestWholeTexts(t *testing.T) {
	kindsAndTexts := func(l []api.Token) string {
		out := ""
		for _, k := range l {
			out += fmt.Sprintf("%d %q ", k.Kind, k.Text)
		}
		return out
	}
	each(t, 151, func(r *rand.Rand, m api.Model, all [][]int) {
		s, e := text.Print(m)
		if e != api.OK {
			t.Fatalf("%+v: Print: %d", m, e)
		}
		if again, at, e := text.Parse(s); e != api.OK || at != 0 || fmt.Sprint(again) != fmt.Sprint(m) {
			t.Fatalf("%s is parsed as %+v %d %d, and was %+v", s, again, at, e, m)
		}
		l, _, _ := token.Scan(s)
		joined, e := token.Join(l)
		if again, at, f := token.Scan(joined); e != api.OK || f != api.OK || at != 0 || kindsAndTexts(again) != kindsAndTexts(l) {
			t.Fatalf("%v is joined %q %d, and scanned as %v %d", l, joined, e, again, f)
		}
	})
}

// What meets is within both; a literal and its opposite part the values.
func TestWholeStores(t *testing.T) {
	each(t, 152, func(r *rand.Rand, m api.Model, all [][]int) {
		one, two := drawnStore(r, m), drawnStore(r, m)
		both, e := store.Meet(m, one, two)
		for _, s := range []api.Store{one, two} {
			if ok, f := store.Within(m, both, s); !ok || e != api.OK || f != api.OK {
				t.Fatalf("%v and %v meet in %v %d, within: %v %d", one, two, both, e, ok, f)
			}
		}
		l := drawnLit(r, m)
		not, e := lit.Not(m, l)
		if e != api.OK {
			t.Fatalf("%v: Not: %d", l, e)
		}
		with, _ := lit.Put(m, one, l)
		without, _ := lit.Put(m, one, not)
		parts := slices.Concat(with[l.Var], without[l.Var])
		slices.Sort(parts)
		if !slices.Equal(parts, one[l.Var]) {
			t.Fatalf("%v and its opposite leave %v and %v of %v", l, with, without, one)
		}
	})
}

// No values of which it holds are lost: by a constraint, a clause, all together.
func TestWholeLosesNone(t *testing.T) {
	each(t, 153, func(r *rand.Rand, m api.Model, all [][]int) {
		s, l := drawnStore(r, m), []api.Clause{drawnClause(r, m), drawnClause(r, m)}
		holds := func(values []int) bool {
			one, _ := clause.Holds(m, l[0], values)
			two, _ := clause.Holds(m, l[1], values)
			return one && two
		}
		keeps := func(what string, left api.Store, e api.Errno, of func(values []int) bool) {
			for _, values := range walk(m) {
				if in(s, values) && of(values) && (e != api.OK || !in(left, values)) {
					t.Fatalf("%s leaves %v %d of %v: %v are lost; %+v %v", what, left, e, s, values, m, l)
				}
			}
		}
		for con := range m.Cons {
			left, e := filter.Filter(m, con, s)
			keeps("Filter", left, e, func(values []int) bool { ok, _ := model.Holds(m, con, values); return ok })
		}
		holdsAll := func(values []int) bool { ok, _ := model.All(m, values); return ok }
		left, e := clause.Unit(m, s, l[0])
		keeps("Unit", left, e, func(values []int) bool { ok, _ := clause.Holds(m, l[0], values); return ok })
		left, e = fix.Cons(m, s)
		keeps("Cons", left, e, holdsAll)
		left, e = fix.Units(m, s, l)
		keeps("Units", left, e, holds)
		left, e = fix.Both(m, s, l)
		keeps("Both", left, e, func(values []int) bool { return holdsAll(values) && holds(values) })
	})
}

// Where there is a proof there is nothing; a reason holds, and so does what is learned.
func TestWholeReasons(t *testing.T) {
	proofs, reasons, learned := 0, 0, 0
	each(t, 154, func(r *rand.Rand, m api.Model, all [][]int) {
		given := []api.Clause{drawnClause(r, m)}
		decisions := []api.Lit{drawnLit(r, m), drawnLit(r, m), drawnLit(r, m)}
		some := slices.DeleteFunc(slices.Clone(all), func(values []int) bool { ok, _ := clause.Holds(m, given[0], values); return !ok })
		holds := func(what string, c api.Clause, of [][]int) {
			for _, values := range of {
				if ok, e := clause.Holds(m, c, values); !ok || e != api.OK {
					t.Fatalf("%s: %v does not hold of %v: %d; %+v %v %v", what, c, values, e, m, given, decisions)
				}
			}
		}
		l, ok, _ := learn.Steps(m, given, decisions)
		if none, e := proof.Check(m, given, l); none && (e != api.OK || len(some) > 0) {
			t.Fatalf("%v: a proof, of %d; %+v %v", l, len(some), m, given)
		} else if none {
			proofs++
		}
		if c, is, e := learn.Learn(m, given, decisions); is {
			learned++
			holds("Learn", c, some)
			if e != api.OK || !ok {
				t.Fatalf("Learn: %v %d, Steps: %v", c, e, ok)
			}
		}
		s := drawnStore(r, m)
		for con := range m.Cons {
			own := slices.DeleteFunc(walk(m), func(values []int) bool { ok, _ := model.Holds(m, con, values); return !ok })
			for v := range m.Vars {
				for _, value := range s[v] {
					if c, ok, _ := explain.Removed(m, con, s, v, value); ok {
						reasons++
						holds("Removed", c, own)
					}
				}
			}
			if c, ok, _ := explain.Failed(m, con, s); ok {
				reasons++
				holds("Failed", c, own)
			}
		}
	})
	if proofs < 20 || reasons < 500 || learned < 100 {
		t.Errorf("%d proofs, %d reasons, %d learned: too few tell anything", proofs, reasons, learned)
	}
}

// What is found holds; where there is none a proof says so. What is best is at least as good as whatever holds, and a proof
// says so.
func TestWholeSearches(t *testing.T) {
	each(t, 155, func(r *rand.Rand, m api.Model, all [][]int) {
		listed, whole, e := search.List(m)
		if !whole || e != api.OK || len(listed) != len(all) || len(all) > 0 && !reflect.DeepEqual(listed, all) {
			t.Fatalf("%+v: List = %v %v %d, want %v", m, listed, whole, e, all)
		}
		a, e := search.Solve(m, api.MaxFuel)
		if found := a.Verdict == api.VerdictFound; e != api.OK || found != (len(all) > 0) {
			t.Fatalf("%+v: Solve = %v %d, of %d", m, a, e, len(all))
		}
		if ok, _ := model.All(m, a.Values); a.Verdict == api.VerdictFound && !ok {
			t.Fatalf("%+v: Solve = %v, of which not all holds", m, a)
		}
		if ok, _ := proof.Check(m, nil, a.Proof); a.Verdict == api.VerdictNone && !ok {
			t.Fatalf("%+v: Solve = %v, and that is no proof", m, a)
		}
		a, e = best.Best(m, api.MaxFuel)
		if e != api.OK || !isBest(m, a.Values, all) {
			t.Fatalf("%+v: Best = %v %d, of %v", m, a, e, all)
		}
		s, _ := text.Print(m)
		if ok, e := Verify(s, a.Values, a.Proof); e != api.OK || ok != (m.Goal != api.GoalAny || a.Verdict == api.VerdictNone) {
			t.Fatalf("%s: Best = %v; verified: %v %d", s, a, ok, e)
		}
	})
}
