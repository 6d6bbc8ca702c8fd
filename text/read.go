package text

import (
	"slices"
	"strconv"

	"cordon/api"
	"cordon/model"
)

// reader goes through the tokens of a text.
type reader struct {
	tokens []api.Token // those that are still to be read
	end    int         // where the text ends
	names  map[string]int
}

// misfit is what a reader panics with at a token that can't stand where it does.
type misfit struct {
	at int
	e  api.Errno
}

// read the model of a text's tokens. Whether it is right is not asked yet.
func read(tokens []api.Token, end int) (m api.Model, at int, e api.Errno) {
	defer func() {
		if got := recover(); got != nil {
			f, ok := got.(misfit)
			if !ok {
				panic(got)
			}
			m, at, e = api.Model{}, f.at, f.e
		}
	}()
	r := &reader{tokens: tokens, end: end, names: map[string]int{}}
	return r.model(), 0, api.OK
}

// ahead is the token that comes next; at the text's end one without a kind and a text.
func (r *reader) ahead() api.Token {
	if len(r.tokens) == 0 {
		return api.Token{At: r.end}
	}
	return r.tokens[0]
}

// giveUp at the token ahead.
func (r *reader) giveUp(e api.Errno) {
	panic(misfit{r.ahead().At, e})
}

// pass the token ahead, if it is as it must be.
func (r *reader) pass(fits bool) api.Token {
	if !fits {
		r.giveUp(api.ErrForm)
	}
	t := r.ahead()
	r.tokens = r.tokens[1:]
	return t
}

// skip a token with this text.
func (r *reader) skip(text string) {
	r.pass(r.ahead().Text == text)
}

// oneOf these texts: which of them is ahead?
func (r *reader) oneOf(texts []string) int {
	which := slices.Index(texts, r.ahead().Text)
	r.pass(which >= 0 && r.ahead().Kind != 0)
	return which
}

// newName is a name, whatever it is the name of.
func (r *reader) newName() string {
	return r.pass(isName(r.ahead().Text)).Text
}

// isName: Check tells names from the words that are none, so it is asked of a model that has nothing else.
func isName(s string) bool {
	return model.Check(api.Model{Vars: []api.Var{{Name: s}}}) == api.OK
}

// name of a variable: which one?
func (r *reader) name() int {
	which, ok := r.names[r.ahead().Text]
	if !ok && isName(r.ahead().Text) {
		r.giveUp(api.ErrNone)
	}
	r.pass(ok)
	return which
}

// number, with a sign or not.
func (r *reader) number() int {
	sign := 1
	if r.ahead().Text == "-" {
		r.skip("-")
		sign = -1
	}
	isNumber := r.ahead().Kind == api.TokenNumber
	n, _ := strconv.Atoi(r.pass(isNumber && (sign > 0 || r.ahead().Text != "0")).Text)
	return sign * n
}

// lit is a literal.
func (r *reader) lit() api.Lit {
	v := r.name()
	op := r.oneOf(opSigns())
	return api.Lit{Var: v, Op: op, N: r.number()}
}

// readList reads what stands in brackets, with commas between, each as it is read by itself.
func readList[T any](r *reader, item func() T) []T {
	var list []T
	r.skip("[")
	if r.ahead().Text != "]" {
		list = append(list, item())
		for r.ahead().Text == "," {
			r.skip(",")
			list = append(list, item())
		}
	}
	r.skip("]")
	return list
}

func (r *reader) numbers() []int   { return readList(r, r.number) }
func (r *reader) variables() []int { return readList(r, r.name) }
func (r *reader) rows() [][]int    { return readList(r, r.numbers) }
func (r *reader) lits() []api.Lit  { return readList(r, r.lit) }
