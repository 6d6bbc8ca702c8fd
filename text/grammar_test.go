package text

import (
	"math/rand"
	"slices"
	"strings"
	"testing"

	"cordon/api"
	"cordon/token"
)

// The rules of C1, as the chapter has them. A word in great letters is a rule; one with a * behind it may stand there as often
// as one likes, or not at all.
var rules = map[string][]string{
	"MODEL": {"VAR* CON* GOAL"},
	"VAR":   {"var N : K .. K ;"},
	"CON":   {"con BODY ;"},
	"BODY": {"le KS NAMES K", "eq KS NAMES K", "ne KS NAMES K", "differ NAMES", "element KS NAME NAME", "table NAMES ROWS",
		"times NAME NAME NAME", "max NAME NAMES", "clause LITS", "iff NAME LIT"},
	"GOAL":  {"solve any ;", "solve least NAME ;", "solve most NAME ;"},
	"K":     {"NUMBER", "- POSITIVE"},
	"KS":    {"[ ]", "[ K MOREK* ]"},
	"MOREK": {", K"},
	"NAMES": {"[ ]", "[ NAME MOREN* ]"},
	"MOREN": {", NAME"},
	"LITS":  {"[ ]", "[ LIT MOREL* ]"},
	"MOREL": {", LIT"},
	"ROWS":  {"[ ]", "[ KS MORER* ]"},
	"MORER": {", KS"},
	"LIT":   {"NAME <= K", "NAME >= K", "NAME == K", "NAME != K"},
	"NAME":  {"N"},
}

// match goes all ways that the rules leave open, and so tells where a rule may end, and how far any way came.
type match struct {
	tokens []api.Token
	far    int
}

// word, which may be a rule, from a place on: where it may end.
func (m *match) word(w string, at int) []int {
	if ways, ok := rules[w]; ok {
		var ends []int
		for _, way := range ways {
			ends = append(ends, m.way(way, at)...)
		}
		slices.Sort(ends)
		return slices.Compact(ends)
	}
	m.far = max(m.far, at)
	if at < len(m.tokens) && fits(w, m.tokens[at]) {
		return []int{at + 1}
	}
	return nil
}

// way is one of a rule's, from a place on: where it may end.
func (m *match) way(way string, at int) []int {
	places := []int{at}
	for _, w := range strings.Fields(way) {
		w, often := strings.CutSuffix(w, "*")
		var ends []int
		if often {
			ends = append(ends, places...)
		}
		for len(places) > 0 {
			var next []int
			for _, p := range places {
				next = append(next, m.word(w, p)...)
			}
			ends = append(ends, next...)
			places = next
			if !often {
				break
			}
		}
		slices.Sort(ends)
		places = slices.Compact(ends)
	}
	return places
}

var words = strings.Fields("var con solve le eq ne differ element table times max clause iff any least most")

func isFreeName(t api.Token) bool {
	return t.Kind == api.TokenName && !slices.Contains(words, t.Text)
}

func fits(w string, t api.Token) bool {
	switch w {
	case "N":
		return isFreeName(t)
	case "NUMBER":
		return t.Kind == api.TokenNumber
	case "POSITIVE":
		return t.Kind == api.TokenNumber && t.Text != "0"
	}
	return t.Text == w
}

// expect tells which error of a text's form there is, and where; none, if only Check can have something against it.
func expect(s string) (int, api.Errno) {
	tokens, at, e := token.Scan(s)
	if e != api.OK {
		return at, e
	}
	m := match{tokens: tokens}
	ends := m.word("MODEL", 0)
	whole := slices.Contains(ends, len(tokens))
	stands := slices.Max(append(ends, m.far)) // behind a whole model nothing can stand
	var named []string
	behind := false
	for i, x := range tokens[:stands] {
		behind = behind || x.Text == "con" || x.Text == "solve"
		switch {
		case !isFreeName(x):
		case !behind && tokens[i-1].Text == "var":
			named = append(named, x.Text)
		case !slices.Contains(named, x.Text):
			return x.At, api.ErrNone
		}
	}
	switch {
	case whole:
		return 0, api.OK
	case stands == len(tokens):
		return len(s), api.ErrForm
	}
	return tokens[stands].At, api.ErrForm
}

// agree: Parse says of a text's form what the rules say.
func agree(t *testing.T, s string) (parsed bool) {
	t.Helper()
	at, want := expect(s)
	m, place, e := Parse(s)
	switch {
	case want != api.OK && (place != at || e != want):
		t.Errorf("C2: Parse(%q): %d %d, want %d %d", s, place, e, at, want)
	case want == api.OK && place != 0:
		t.Errorf("C2: Parse(%q): %d %d, which is Check's, and so at 0", s, place, e)
	case e != api.OK && show(m) != show(api.Model{}):
		t.Errorf("P1: Parse(%q) = %s %d", s, show(m), e)
	}
	if e == api.OK {
		printedSame(t, s, m)
	}
	return e == api.OK
}

// printedSame: the model that was parsed has a text of just the same tokens, laid out as C3 says.
func printedSame(t *testing.T, s string, m api.Model) {
	t.Helper()
	tokens, _, _ := token.Scan(s)
	if out, e := Print(m); out != layOut(tokens) || e != api.OK {
		t.Errorf("C3, C4: Print of what %q is parsed as: %q %d, want %q", s, out, e, layOut(tokens))
	}
}

// layOut tokens as C3 says.
func layOut(tokens []api.Token) string {
	var b strings.Builder
	last := api.Token{Text: ";"}
	for _, x := range tokens {
		_, closes := slices.BinarySearch([]string{",", "..", ":", ";", "]"}, x.Text)
		if !closes && last.Text != ";" && last.Text != "[" && last.Text != ".." && last.Text != "-" {
			b.WriteByte(' ')
		}
		b.WriteString(x.Text)
		if x.Text == ";" {
			b.WriteByte('\n')
		}
		last = x
	}
	return b.String()
}

// C1, C2: every beginning of texts, each of their tokens left out, twice, or another one.
func TestParseNearTexts(t *testing.T) {
	others := strings.Fields("var con solve le clause iff any most x b nobody 0 1 2000 - [ ] ; : , .. <= == !=")
	for _, s := range []string{kinds, clauses, small} {
		if !agree(t, s) {
			t.Fatalf("%q is right", s)
		}
		for n := range len(s) {
			agree(t, s[:n])
			agree(t, s[n:])
		}
		tokens, _, _ := token.Scan(s)
		for _, x := range tokens {
			end := x.At + len(x.Text)
			agree(t, s[:x.At]+s[end:])
			agree(t, s[:x.At]+" "+s[end:])
			agree(t, s[:end]+" "+s[x.At:])
			for _, o := range others {
				agree(t, s[:x.At]+" "+o+" "+s[end:])
				agree(t, s[:x.At]+" "+o+" "+s[x.At:])
			}
		}
	}
}

// C1 to C4: texts drawn from the rules, and what two changes make of them; parted by anything that parts tokens.
func TestParseDrawnTexts(t *testing.T) {
	r := rand.New(rand.NewSource(2))
	parsed := 0
	for range 4000 {
		l := drawTokens(r)
		if agree(t, spread(r, l)) {
			parsed++
		}
		for range 2 {
			i, j := r.Intn(len(l)), r.Intn(len(l))
			switch r.Intn(3) {
			case 0:
				l[i], l[j] = l[j], l[i]
			case 1:
				l = slices.Delete(l, i, i+1)
			case 2:
				l = slices.Insert(l, i, l[j])
			}
			agree(t, spread(r, l))
		}
	}
	if parsed < 100 {
		t.Errorf("only %d of the texts have a model", parsed)
	}
}

// drawTokens of a text as the rules have it.
func drawTokens(r *rand.Rand) []string {
	var l []string
	l = drawWord(r, l, "MODEL")
	if l[0] != "var" && r.Intn(4) > 0 {
		return drawTokens(r)
	}
	return l
}

func drawWord(r *rand.Rand, l []string, w string) []string {
	switch w {
	case "N", "NAME":
		return append(l, []string{"x", "y", "x", "longname1"}[r.Intn(4)])
	case "NUMBER":
		return append(l, []string{"0", "1", "2", "5"}[r.Intn(4)])
	case "POSITIVE":
		return append(l, []string{"1", "2", "50", "1001"}[r.Intn(4)])
	}
	ways, ok := rules[w]
	if !ok {
		return append(l, w)
	}
	for _, x := range strings.Fields(ways[r.Intn(len(ways))]) {
		x, often := strings.CutSuffix(x, "*")
		for first := true; first && !often || often && r.Intn(2) > 0; first = false {
			l = drawWord(r, l, x)
		}
	}
	return l
}

// spread tokens over a text.
func spread(r *rand.Rand, l []string) string {
	gaps := []string{" ", "\n", "\t", " \n ", "%\n", " % x ; ![\n", "  "}
	s := gaps[r.Intn(len(gaps))]
	for _, x := range l {
		s += x + gaps[r.Intn(len(gaps))]
	}
	return s + []string{"", "% end"}[r.Intn(2)]
}
