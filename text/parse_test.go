package text

import (
	"strings"
	"testing"

	"cordon/api"
)

// C2: where errors of form are, and which.
func TestParseErrors(t *testing.T) {
	x := "var x: 0..1; "
	for _, c := range []struct {
		s string // with ^ at the place of the error
		e api.Errno
	}{
		{"^", api.ErrForm},
		{" \n^", api.ErrForm},
		{"% all of it^", api.ErrForm},
		{"^x", api.ErrForm},
		{x + "^", api.ErrForm},
		{x + "% solve any;^", api.ErrForm},
		{x + "solve any^", api.ErrForm},
		{x + "solve any  \t^", api.ErrForm},
		{x + "solve any; ^;", api.ErrForm},
		{x + "solve any; ^var y: 0..1;", api.ErrForm},
		{x + "solve any; ^con clause [];", api.ErrForm},
		{x + "con clause []; ^var y: 0..1; solve any;", api.ErrForm},
		{x + "solve any ^x;", api.ErrForm},
		{x + "solve least^;", api.ErrForm},
		{x + "solve most ^any;", api.ErrForm},
		{x + "solve ^le x;", api.ErrForm},
		{x + "^sol any;", api.ErrForm},
		{"var ^X: 0..1; solve any;", api.ErrForm},
		{"var ^1: 0..1; solve any;", api.ErrForm},
		{"var ^var: 0..1; solve any;", api.ErrForm},
		{"var ^iff: 0..1; solve any;", api.ErrForm},
		{"var x: ^y..1; solve any;", api.ErrForm},
		{"var x: 0^,1; solve any;", api.ErrForm},
		{"var x: 0..1 ^solve any;", api.ErrForm},
		{"var x: -^0..1; solve any;", api.ErrForm},
		{"var x: -^..1; solve any;", api.ErrForm},
		{"var x: -^-1..1; solve any;", api.ErrForm},
		{"var x: 0..-^", api.ErrForm},
		{x + "con ^var [x]; solve any;", api.ErrForm},
		{x + "con ^any x; solve any;", api.ErrForm},
		{x + "con ^x; solve any;", api.ErrForm},
		{x + "con differ [x,^]; solve any;", api.ErrForm},
		{x + "con differ [^,x]; solve any;", api.ErrForm},
		{x + "con differ [x ^x]; solve any;", api.ErrForm},
		{x + "con differ [x^; solve any;", api.ErrForm},
		{x + "con differ [^1]; solve any;", api.ErrForm},
		{x + "con differ [^max]; solve any;", api.ErrForm},
		{x + "con le [^x] [x] 0; solve any;", api.ErrForm},
		{x + "con le [-^0] [x] 0; solve any;", api.ErrForm},
		{x + "con le [1] [x] -^0; solve any;", api.ErrForm},
		{x + "con table [x] [^1]; solve any;", api.ErrForm},
		{x + "con table [x] [[1],^]; solve any;", api.ErrForm},
		{x + "con table [x] [[^[1]]]; solve any;", api.ErrForm},
		{x + "con max ^[x, x]; solve any;", api.ErrForm},
		{x + "con clause [x^]; solve any;", api.ErrForm},
		{x + "con clause [x^, 1]; solve any;", api.ErrForm},
		{x + "con clause [^0 == x]; solve any;", api.ErrForm},
		{x + "con clause [x == ^x]; solve any;", api.ErrForm},
		{x + "con clause [x ^- 1]; solve any;", api.ErrForm},
		{x + "con iff ^[x] x == 1; solve any;", api.ErrForm},
		{x + "con iff x ^[x == 1]; solve any;", api.ErrForm},

		{x + "solve most ^y;", api.ErrNone},
		{x + "solve most ^xx;", api.ErrNone},
		{x + "con differ [x, ^y]; solve any;", api.ErrNone},
		{x + "con element [1] x ^y; solve any;", api.ErrNone},
		{x + "con times x ^y z; solve any;", api.ErrNone},
		{x + "con max ^y []; solve any;", api.ErrNone},
		{x + "con clause [x == 1, ^y == 1]; solve any;", api.ErrNone},
		{x + "con iff ^y z == 1; solve any;", api.ErrNone},
		{x + "con iff x ^z == 1; solve any;", api.ErrNone},
		{"con differ [^x]; solve any;", api.ErrNone},
		{"solve least ^x;", api.ErrNone},

		// of both the one that stands ahead
		{x + "con differ [^y, x,]; solve any;", api.ErrNone},
		{x + "con differ [x,^, y]; solve any;", api.ErrForm},
		{x + "con differ ^y; solve any;", api.ErrForm},
		{x + "con differ [^y]; var y: 0..1; solve any;", api.ErrNone},
		{x + "solve most ^y", api.ErrNone},
		{x + "solve most ^y z", api.ErrNone},
		{x + "solve any; ^y", api.ErrForm},

		// Scan's go ahead of all, wherever they stand
		{x + "solve solve; ^!", api.ErrForm},
		{x + "solve most y; ^00", api.ErrForm},
		{x + "con differ y; ^12345", api.ErrMany},
		{x + "var x: 0..1; solve any; ^abcdefghijklm", api.ErrMany},
		{x + "solve least y; ^X", api.ErrForm},
	} {
		ahead, behind, _ := strings.Cut(c.s, "^")
		m, at, e := Parse(ahead + behind)
		if at != len(ahead) || e != c.e || show(m) != show(api.Model{}) {
			t.Errorf("C2: Parse(%q) = %s %d %d, want %d %d", ahead+behind, show(m), at, e, len(ahead), c.e)
		}
	}
}

// C2: what Check says of the model, at 0, once all else is right.
func TestParseCheck(t *testing.T) {
	x := "var x: 0..1; "
	for _, c := range []struct {
		s string
		e api.Errno
	}{
		{"solve any;", api.ErrForm},
		{"con clause []; solve any;", api.ErrForm},
		{x + x + "solve any;", api.ErrTwice},
		{x + x + "con differ [x]; solve most x;", api.ErrTwice},
		{"var x: 1..0; solve any;", api.ErrRange},
		{"var x: 50..51; solve any;", api.ErrRange},
		{"var x: 0..9999; solve any;", api.ErrRange},
		{"var x: -6..0; solve any;", api.ErrMany},
		{strings.Repeat(x, 7) + "solve any;", api.ErrMany},
		{strings.Repeat(x, 300) + "solve any;", api.ErrMany},
		{x + strings.Repeat("con clause []; ", 9) + "solve any;", api.ErrMany},
		{x + "con differ []; solve any;", api.ErrForm},
		{x + "con differ [x, x, x, x, x]; solve any;", api.ErrMany},
		{x + "con ne [1] [x, x] 0; solve any;", api.ErrForm},
		{x + "con ne [1, 1] [x] 0; solve any;", api.ErrForm},
		{x + "con ne [] [] 0; solve any;", api.ErrForm},
		{x + "con le [1] [x] 1001; solve any;", api.ErrRange},
		{x + "con le [-1001] [x] 0; solve any;", api.ErrRange},
		{x + "con element [] x x; solve any;", api.ErrForm},
		{x + "con element [1,1,1,1,1,1,1,1,1] x x; solve any;", api.ErrMany},
		{x + "con table [] []; solve any;", api.ErrForm},
		{x + "con table [x] [[]]; solve any;", api.ErrForm},
		{x + "con table [x] [[1, 1]]; solve any;", api.ErrForm},
		{x + "con table [x] [[-1001]]; solve any;", api.ErrRange},
		{x + "con table [x] [" + strings.Repeat("[1], ", 20) + "[1]]; solve any;", api.ErrMany},
		{x + "con max x []; solve any;", api.ErrForm},
		{x + "con max x [x, x, x, x]; solve any;", api.ErrMany},
		{x + "con clause [x == 1, x == 1, x == 1, x == 1, x == 1]; solve any;", api.ErrMany},
		{x + "con clause [x >= 1001]; solve any;", api.ErrRange},
		{x + "con iff x x != -1001; solve any;", api.ErrRange},
	} {
		if m, at, e := Parse(c.s); at != 0 || e != c.e || show(m) != show(api.Model{}) {
			t.Errorf("C2: Parse(%q) = %s %d %d, want 0 %d", c.s, show(m), at, e, c.e)
		}
	}
}

// C1: tokens may be parted by anything that parts them, a minus and its number too, or by nothing where they are signs.
func TestParseParted(t *testing.T) {
	want := "var x: -1..1;\ncon le [-2] [x] -3;\nsolve least x;\n"
	for _, s := range []string{
		want,
		"var x:-1..1;con le[-2][x]-3;solve least x;",
		"var%\nx\t: - 1 .. 1 ; con le [ -\n2 ] [ x ] - % minus\n 3 ; solve least x ; % end",
		"\n\nvar x:-1 ..1;con le[-2]\t[x]-3;solve\nleast\nx;" + strings.Repeat(" ", 3000),
	} {
		m, at, e := Parse(s)
		if out, _ := Print(m); at != 0 || e != api.OK || out != want {
			t.Errorf("C1: Parse(%q) = %s %d %d", s, show(m), at, e)
		}
	}
}

// C2: a text may have MaxText bytes, and no more; that is said ahead of all, at 0.
func TestParseLong(t *testing.T) {
	s := small + strings.Repeat(" ", api.MaxText-len(small))
	if m, at, e := Parse(s); show(m) != show(smallModel()) || at != 0 || e != api.OK {
		t.Errorf("C2: Parse of %d bytes: %d %d", len(s), at, e)
	}
	for _, s := range []string{s + " ", strings.Repeat("!", 4001), strings.Repeat("var x: 0..1;", 100000), strings.Repeat("[", 5000)} {
		if m, at, e := Parse(s); show(m) != show(api.Model{}) || at != 0 || e != api.ErrMany {
			t.Errorf("C2: Parse of %d bytes: %d %d", len(s), at, e)
		}
	}
	deep := "var x: 0..1; con table [x] " + strings.Repeat("[", 3900)
	if _, at, e := Parse(deep); at != len("var x: 0..1; con table [x] [[") || e != api.ErrForm {
		t.Errorf("C2: many brackets: %d %d", at, e)
	}
}

// P1: any bytes have an answer.
func TestParseBytes(t *testing.T) {
	for b := range 256 {
		for _, s := range []string{string([]byte{byte(b)}), small + string([]byte{byte(b)}), string([]byte{byte(b)}) + small} {
			agree(t, s)
		}
	}
}
