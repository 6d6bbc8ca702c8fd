package token

import (
	"math/rand"
	"reflect"
	"regexp"
	"slices"
	"strings"
	"testing"

	"cordon/api"
)

func name(at int, s string) api.Token { return api.Token{Kind: api.TokenName, At: at, Text: s} }

func number(at int, s string) api.Token { return api.Token{Kind: api.TokenNumber, At: at, Text: s} }

func sign(at int, s string) api.Token { return api.Token{Kind: api.TokenSign, At: at, Text: s} }

// A1: which tokens a text has.
func TestScanTellsTokens(t *testing.T) {
	for _, c := range []struct {
		text string
		want []api.Token
	}{
		{"", nil},
		{" \t\n", nil},
		{"%", nil},
		{"% all of it; \r \x00 \xff A 00 .", nil},
		{"var x: 0..2;", []api.Token{name(0, "var"), name(4, "x"), sign(5, ":"), number(7, "0"), sign(8, ".."), number(10, "2"), sign(11, ";")}},
		{"a%b\nc", []api.Token{name(0, "a"), name(4, "c")}},
		{"a%b%c", []api.Token{name(0, "a")}},
		{"%\n%\na", []api.Token{name(4, "a")}},
		{"a\tb\nc d", []api.Token{name(0, "a"), name(2, "b"), name(4, "c"), name(6, "d")}},
		{"az09 z", []api.Token{name(0, "az09"), name(5, "z")}},
		{"12ab", []api.Token{number(0, "12"), name(2, "ab")}},
		{"0a", []api.Token{number(0, "0"), name(1, "a")}},
		{"abcdefghijkl", []api.Token{name(0, "abcdefghijkl")}},
		{"9999 0 10", []api.Token{number(0, "9999"), number(5, "0"), number(7, "10")}},
		{"..<=>===!=[];:,-", []api.Token{sign(0, ".."), sign(2, "<="), sign(4, ">="), sign(6, "=="), sign(8, "!="), sign(10, "["), sign(11, "]"), sign(12, ";"), sign(13, ":"), sign(14, ","), sign(15, "-")}},
		{"....", []api.Token{sign(0, ".."), sign(2, "..")}},
		{"--1", []api.Token{sign(0, "-"), sign(1, "-"), number(2, "1")}},
		{"x==-1", []api.Token{name(0, "x"), sign(1, "=="), sign(3, "-"), number(4, "1")}},
	} {
		l, at, e := Scan(c.text)
		if !slices.Equal(l, c.want) || at != 0 || e != api.OK {
			t.Errorf("A1: Scan(%q) = %v %d %d, want %v 0 0", c.text, l, at, e, c.want)
		}
	}
}

// A1, P1: which errors, where, and nothing else with them.
func TestScanTellsErrors(t *testing.T) {
	for _, c := range []struct {
		text string
		at   int
		want api.Errno
	}{
		{"A", 0, api.ErrForm},
		{"aB", 1, api.ErrForm},
		{"a\r", 1, api.ErrForm},
		{"a\x00", 1, api.ErrForm},
		{"a\v", 1, api.ErrForm},
		{"a \u00a0", 2, api.ErrForm},
		{"é", 0, api.ErrForm},
		{"a`", 1, api.ErrForm},
		{"a{", 1, api.ErrForm},
		{"a/", 1, api.ErrForm},
		{"a_b", 1, api.ErrForm},
		{"x.y", 1, api.ErrForm},
		{"x...y", 3, api.ErrForm},
		{"x <", 2, api.ErrForm},
		{"x < 1", 2, api.ErrForm},
		{"x > =", 2, api.ErrForm},
		{"x = 1", 2, api.ErrForm},
		{"x === 1", 4, api.ErrForm},
		{"x !", 2, api.ErrForm},
		{"=<", 0, api.ErrForm},
		{"+1", 0, api.ErrForm},
		{"% note\n A", 8, api.ErrForm},
		{"abcdefghijklm", 0, api.ErrMany},
		{"a abcdefghijk12 A", 2, api.ErrMany},
		{"A abcdefghijklm", 0, api.ErrForm},
		{"10000", 0, api.ErrMany},
		{"- 12345", 2, api.ErrMany},
		{"00000", 0, api.ErrMany},
		{"0000", 0, api.ErrForm},
		{"1 00", 2, api.ErrForm},
		{"01", 0, api.ErrForm},
		{strings.Repeat(" ", api.MaxText-1) + "A", api.MaxText - 1, api.ErrForm},
		{strings.Repeat(" ", api.MaxText+1), 0, api.ErrMany},
		{strings.Repeat("A", api.MaxText+1), 0, api.ErrMany},
		{"a" + strings.Repeat("A", api.MaxText), 0, api.ErrMany},
		{"%" + strings.Repeat("\n", api.MaxText), 0, api.ErrMany},
	} {
		l, at, e := Scan(c.text)
		if len(l) != 0 || at != c.at || e != c.want {
			t.Errorf("A1: Scan(%.30q) = %v %d %d, want none %d %d", c.text, l, at, e, c.at, c.want)
		}
	}
}

// A1: a text of just MaxText bytes has its tokens.
func TestScanTakesMaxText(t *testing.T) {
	l, at, e := Scan(strings.Repeat("-", api.MaxText))
	if len(l) != api.MaxText || at != 0 || e != api.OK {
		t.Errorf("A1: %d tokens, %d %d", len(l), at, e)
	}
}

// scanByRule is Scan once more, in another way, to hold it against.
func scanByRule(s string) ([]api.Token, int, api.Errno) {
	if len(s) > api.MaxText {
		return nil, 0, api.ErrMany
	}
	rules := []*regexp.Regexp{
		regexp.MustCompile(`^(?:[ \t\n]|%[^\n]*)+`),
		regexp.MustCompile(`^[a-z][a-z0-9]*`),
		regexp.MustCompile(`^[0-9]+`),
		regexp.MustCompile(`^(?:\.\.|<=|>=|==|!=|[\[\];:,-])`),
	}
	var out []api.Token
	for at := 0; at < len(s); {
		kind := slices.IndexFunc(rules, func(r *regexp.Regexp) bool { return r.MatchString(s[at:]) })
		if kind < 0 {
			return nil, at, api.ErrForm
		}
		text := rules[kind].FindString(s[at:])
		switch {
		case kind == api.TokenName && len(text) > 12, kind == api.TokenNumber && len(text) > 4:
			return nil, at, api.ErrMany
		case kind == api.TokenNumber && len(text) > 1 && text[0] == '0':
			return nil, at, api.ErrForm
		case kind != 0:
			out = append(out, api.Token{Kind: kind, At: at, Text: text})
		}
		at += len(text)
	}
	return out, 0, api.OK
}

// A1, A3, P1, P3: texts of all kinds of pieces, right and wrong.
func TestScanOfManyTexts(t *testing.T) {
	r := rand.New(rand.NewSource(1))
	pieces := []string{" ", "\t", "\n", "%", "a", "z", "var", "abcdef", "0", "1", "9", "42", "..", ".", "<=", ">=", "==", "!=", "=", "<", "!", "[", "]", ";", ":", ",", "-", "A", "\r", "é", "\xff", "\x00"}
	for range 20000 {
		var b strings.Builder
		most := len(pieces)
		if r.Intn(4) > 0 {
			most = 14 // mostly texts without much that is wrong
		}
		for range r.Intn(12) {
			b.WriteString(pieces[r.Intn(most)])
		}
		s := b.String()
		l, at, e := Scan(s)
		wl, wat, we := scanByRule(s)
		if !slices.Equal(l, wl) || at != wat || e != we {
			t.Fatalf("A1: Scan(%q) = %v %d %d, want %v %d %d", s, l, at, e, wl, wat, we)
		}
		l2, at2, e2 := Scan(s)
		if !slices.Equal(l, l2) || at != at2 || e != e2 {
			t.Fatalf("P3: Scan(%q) twice: %v %d %d, %v %d %d", s, l, at, e, l2, at2, e2)
		}
		if e == api.OK {
			joinedIsScanned(t, l)
		}
	}
}

// joinedIsScanned: A3.
func joinedIsScanned(t *testing.T, l []api.Token) {
	t.Helper()
	s, e := Join(l)
	if e != api.OK {
		t.Fatalf("A2: Join(%v): %d", l, e)
	}
	back, at, e := Scan(s)
	if at != 0 || e != api.OK || len(back) != len(l) {
		t.Fatalf("A3: %v is joined to %q, and scanned as %v %d %d", l, s, back, at, e)
	}
	for i := range l {
		if back[i].Kind != l[i].Kind || back[i].Text != l[i].Text {
			t.Fatalf("A3: %v is joined to %q, and scanned as %v", l, s, back)
		}
	}
}

// A2: texts of tokens.
func TestJoinTellsTexts(t *testing.T) {
	for _, c := range []struct {
		list []api.Token
		want string
	}{
		{nil, ""},
		{[]api.Token{}, ""},
		{[]api.Token{name(0, "a")}, "a"},
		{[]api.Token{name(-5, "var"), name(1<<40, "x"), sign(0, ":"), sign(3, "-"), number(9, "1")}, "var x : - 1"},
		{[]api.Token{name(0, "abcdefghijkl"), number(0, "9999"), number(0, "0"), sign(0, "..")}, "abcdefghijkl 9999 0 .."},
		{[]api.Token{name(0, "a"), name(0, "b"), number(0, "1"), number(0, "2")}, "a b 1 2"},
	} {
		s, e := Join(c.list)
		if s != c.want || e != api.OK {
			t.Errorf("A2: Join(%v) = %q %d, want %q", c.list, s, e, c.want)
		}
		joinedIsScanned(t, c.list)
	}
}

// A2, P1: tokens that are not the only ones of their texts, wherever they stand.
func TestJoinTellsWrongTokens(t *testing.T) {
	for _, wrong := range []api.Token{
		{},
		name(0, ""), number(0, ""), sign(0, ""),
		name(0, "1"), name(0, ";"), number(0, "a"), number(0, "-"), sign(0, "a"), sign(0, "1"),
		{Kind: 0, Text: "a"}, {Kind: 4, Text: "a"}, {Kind: -1, Text: "a"},
		name(0, " a"), name(0, "a "), name(0, "a%"), name(0, "%\na"), name(0, "a b"), name(0, "a1;"), name(0, "A"),
		name(0, "abcdefghijklm"), name(0, strings.Repeat("a", api.MaxText+1)),
		number(0, "01"), number(0, "00"), number(0, "12345"), number(0, "-1"), number(0, "1\n"),
		sign(0, "="), sign(0, "= ="), sign(0, "."), sign(0, "...."), sign(0, "--"), sign(0, "[]"), sign(0, "%"), sign(0, "\xff"),
	} {
		for _, l := range [][]api.Token{{wrong}, {wrong, sign(0, ";")}, {sign(0, ";"), wrong}} {
			if s, e := Join(l); s != "" || e != api.ErrForm {
				t.Errorf("A2: Join(%.60v) = %q %d", l, s, e)
			}
		}
	}
}

// A2, P1: as long as may be; longer; and what is named first, if a token is wrong, too.
func TestJoinTellsTooLong(t *testing.T) {
	full := slices.Repeat([]api.Token{name(0, "a")}, api.MaxText/2)
	if s, e := Join(full); len(s) != api.MaxText-1 || e != api.OK {
		t.Errorf("A2: %d bytes, %d", len(s), e)
	}
	just := append(slices.Clone(full[1:]), name(0, "ab"))
	if s, e := Join(just); len(s) != api.MaxText || e != api.OK {
		t.Errorf("A2: %d bytes, %d", len(s), e)
	}
	joinedIsScanned(t, just)
	more := append(slices.Clone(full), name(0, "a"))
	if s, e := Join(more); s != "" || e != api.ErrMany {
		t.Errorf("A2: %d bytes, %d", len(s), e)
	}
	if s, e := Join(append(more, name(0, "A"))); s != "" || e != api.ErrForm {
		t.Errorf("A2: %d bytes, %d", len(s), e)
	}
}

// P2: tokens that are handed in stay, and so does the room behind them; a later change of them is not seen.
func TestTokensAreOnlyRead(t *testing.T) {
	room := []api.Token{name(0, "a"), sign(1, ";"), name(7, "behind")}
	before := slices.Clone(room)
	s, e := Join(room[:2])
	if s != "a ;" || e != api.OK || !reflect.DeepEqual(room, before) {
		t.Errorf("P2: %q %d, and the tokens are %v", s, e, room)
	}
	one, _, _ := Scan("a b")
	two, _, _ := Scan("a b")
	one[0].Text = "changed"
	one = append(one[:1], one...)
	if !slices.Equal(two, []api.Token{name(0, "a"), name(2, "b")}) {
		t.Errorf("P2: an answer changed with another one: %v, %v", one, two)
	}
}
