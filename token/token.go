// Package token: tokens: see doc/01-token.md.
package token

import (
	"strings"

	"cordon/api"
)

// Scan tells the tokens of a text; or, with an error, the place that it is of.
func Scan(s string) ([]api.Token, int, api.Errno) {
	if len(s) > api.MaxText {
		return nil, 0, api.ErrMany
	}
	var list []api.Token
	for at := skip(s, 0); at < len(s); {
		t := next(s, at)
		if e := check(t); e != api.OK {
			return nil, at, e
		}
		list = append(list, t)
		at = skip(s, at+len(t.Text))
	}
	return list, 0, api.OK
}

// Join tells a text that has just these tokens.
func Join(l []api.Token) (string, api.Errno) {
	size := 0
	for i, t := range l {
		if !alone(t) {
			return "", api.ErrForm
		}
		if i > 0 {
			size++
		}
		size += len(t.Text)
	}
	if size > api.MaxText {
		return "", api.ErrMany
	}
	var b strings.Builder
	for i, t := range l {
		if i > 0 {
			b.WriteByte(' ')
		}
		b.WriteString(t.Text)
	}
	return b.String(), api.OK
}

// alone: is a token the only one of its text, with nothing around it?
func alone(t api.Token) bool {
	l, _, e := Scan(t.Text)
	return e == api.OK && len(l) == 1 && l[0].Kind == t.Kind && l[0].Text == t.Text
}

// skip what parts tokens, from a place on: where it ends.
func skip(s string, at int) int {
	for at < len(s) {
		switch s[at] {
		case ' ', '\t', '\n':
			at++
		case '%':
			at = run(s, at, func(c byte) bool { return c != '\n' })
		default:
			return at
		}
	}
	return at
}

// next token, at a place within the text. If none begins there, it is the zero token.
func next(s string, at int) api.Token {
	switch {
	case isLetter(s[at]):
		end := run(s, at, func(c byte) bool { return isLetter(c) || isDigit(c) })
		return api.Token{Kind: api.TokenName, At: at, Text: s[at:end]}
	case isDigit(s[at]):
		return api.Token{Kind: api.TokenNumber, At: at, Text: s[at:run(s, at, isDigit)]}
	}
	if n := signSize(s[at:]); n > 0 {
		return api.Token{Kind: api.TokenSign, At: at, Text: s[at : at+n]}
	}
	return api.Token{}
}

// check what was cut out by next.
func check(t api.Token) api.Errno {
	switch t.Kind {
	case api.TokenName:
		if len(t.Text) > api.MaxName {
			return api.ErrMany
		}
	case api.TokenNumber:
		if len(t.Text) > api.MaxDigits {
			return api.ErrMany
		}
		if len(t.Text) > 1 && t.Text[0] == '0' {
			return api.ErrForm
		}
	case api.TokenSign:
	default:
		return api.ErrForm
	}
	return api.OK
}

// run tells where the bytes end, from a place on, that go on as they are asked to.
func run(s string, at int, goesOn func(c byte) bool) int {
	for at < len(s) && goesOn(s[at]) {
		at++
	}
	return at
}

// signSize is how many bytes the sign at a text's beginning has; 0, if there is none.
func signSize(s string) int {
	if len(s) >= 2 {
		switch s[:2] {
		case "..", "<=", ">=", "==", "!=":
			return 2
		}
	}
	switch s[0] {
	case '[', ']', ';', ':', ',', '-':
		return 1
	}
	return 0
}

func isLetter(c byte) bool { return 'a' <= c && c <= 'z' }

func isDigit(c byte) bool { return '0' <= c && c <= '9' }
