package text

import (
	"strconv"
	"strings"

	"cordon/api"
)

// printer has the text that it has printed so far, and the variables whose names stand in it.
type printer struct {
	strings.Builder
	vars []api.Var
}

// model that is right.
func (p *printer) model(m api.Model) {
	for _, v := range m.Vars {
		p.line("var", v.Name+":", number(v.Lo)+".."+number(v.Hi))
	}
	for _, c := range m.Cons {
		p.con(c)
	}
	goal := goalWords()[m.Goal]
	if m.Goal == api.GoalAny {
		p.line("solve", goal)
	} else {
		p.line("solve", goal, p.name(m.Var))
	}
}

// line of these parts.
func (p *printer) line(parts ...string) {
	p.WriteString(strings.Join(parts, " "))
	p.WriteString(";\n")
}

// con is a line of a constraint.
func (p *printer) con(c api.Con) {
	vars := printList(c.Vars, p.name)
	var parts []string
	switch c.Kind {
	case api.ConLe, api.ConEq, api.ConNe:
		parts = []string{numbers(c.Consts), vars, number(c.N)}
	case api.ConDiffer:
		parts = []string{vars}
	case api.ConElement:
		parts = []string{numbers(c.Consts), p.name(c.Vars[0]), p.name(c.Vars[1])}
	case api.ConTable:
		parts = []string{vars, printList(c.Rows, numbers)}
	case api.ConTimes:
		parts = []string{p.name(c.Vars[0]), p.name(c.Vars[1]), p.name(c.Vars[2])}
	case api.ConMax:
		parts = []string{p.name(c.Vars[0]), printList(c.Vars[1:], p.name)}
	case api.ConClause:
		parts = []string{printList(c.Lits, p.lit)}
	case api.ConIff:
		parts = []string{p.name(c.Vars[0]), p.lit(c.Lits[0])}
	}
	p.line(append([]string{"con", conWords()[c.Kind]}, parts...)...)
}

func (p *printer) name(v int) string { return p.vars[v].Name }

func (p *printer) lit(l api.Lit) string {
	return p.name(l.Var) + " " + opSigns()[l.Op] + " " + number(l.N)
}

func number(n int) string { return strconv.Itoa(n) }

func numbers(l []int) string { return printList(l, number) }

// printList puts things in brackets, with commas between, each as it is printed by itself.
func printList[T any](list []T, item func(T) string) string {
	parts := make([]string, len(list))
	for i, x := range list {
		parts[i] = item(x)
	}
	return "[" + strings.Join(parts, ", ") + "]"
}
