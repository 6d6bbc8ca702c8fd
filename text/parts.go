package text

import "cordon/api"

// model is all that a text has.
func (r *reader) model() api.Model {
	var m api.Model
	for r.ahead().Text == "var" {
		m.Vars = append(m.Vars, r.newVar(len(m.Vars)))
	}
	for r.ahead().Text == "con" {
		m.Cons = append(m.Cons, r.con())
	}
	m.Goal, m.Var = r.goal()
	if len(r.tokens) > 0 {
		r.giveUp(api.ErrForm)
	}
	return m
}

// newVar is a variable, which is numbered so.
func (r *reader) newVar(number int) api.Var {
	r.skip("var")
	v := api.Var{Name: r.newName()}
	r.names[v.Name] = number
	r.skip(":")
	v.Lo = r.number()
	r.skip("..")
	v.Hi = r.number()
	r.skip(";")
	return v
}

// con is a constraint.
func (r *reader) con() api.Con {
	r.skip("con")
	c := api.Con{Kind: r.oneOf(conWords())}
	switch c.Kind {
	case api.ConLe, api.ConEq, api.ConNe:
		c.Consts = r.numbers()
		c.Vars = r.variables()
		c.N = r.number()
	case api.ConDiffer:
		c.Vars = r.variables()
	case api.ConElement:
		c.Consts = r.numbers()
		c.Vars = []int{r.name(), r.name()}
	case api.ConTable:
		c.Vars = r.variables()
		c.Rows = r.rows()
	case api.ConTimes:
		c.Vars = []int{r.name(), r.name(), r.name()}
	case api.ConMax:
		c.Vars = []int{r.name()}
		c.Vars = append(c.Vars, r.variables()...)
	case api.ConClause:
		c.Lits = r.lits()
	case api.ConIff:
		c.Vars = []int{r.name()}
		c.Lits = []api.Lit{r.lit()}
	}
	r.skip(";")
	return c
}

// goal is what is sought, and of which variable.
func (r *reader) goal() (goal, v int) {
	r.skip("solve")
	goal = r.oneOf(goalWords())
	if goal != api.GoalAny {
		v = r.name()
	}
	r.skip(";")
	return goal, v
}
