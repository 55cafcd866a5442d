package lex

import (
	"strings"

	"foregone/api"
	"foregone/num"
)

const (
	lineComment  = `\*`
	commentOpen  = "(*"
	commentClose = "*)"
	ruleSpelling = "----"
	endSpelling  = "===="
	weakWord     = "WF_"
	strongWord   = "SF_"
)

// failure is an error, and the first byte of what it is an error of. Reading is left by a panic with it.
type failure struct {
	at int
	e  api.Errno
}

// span is a part of a text.
type span struct{ from, to int }

// reading is what has been read of a text.
type reading struct {
	tokens   []api.Token
	comments []span
}

// reader is a text that is read by a language.
type reader struct {
	*language
	text string
}

// read returns the tokens and the comments of a text of any length.
func (g *language) read(text string) (r reading, f failure) {
	defer func() {
		if left, ok := recover().(failure); ok {
			r, f = reading{}, left
		}
	}()
	return reader{g, text}.all(), failure{}
}

// all reads the text from its first byte to its last one.
func (r reader) all() reading {
	var done reading
	p := firstPlace()
	for at := 0; at < len(r.text); {
		if isBlank(r.text[at]) {
			at++
			continue
		}
		if end := r.commentEnd(at); end > at {
			done.comments = append(done.comments, span{at, end})
			at = end
			continue
		}
		t := r.token(at)
		p = p.to(r.text, at)
		t.Line, t.Col = p.line, p.col
		done.tokens = append(done.tokens, t)
		at = t.End
	}
	return done
}

// commentEnd returns the byte behind the comment that begins at a byte; the byte itself if none does.
func (r reader) commentEnd(at int) int {
	rest := r.text[at:]
	switch {
	case strings.HasPrefix(rest, lineComment):
		return at + countFirst(rest, func(b byte) bool { return b != '\n' })
	case strings.HasPrefix(rest, commentOpen):
		return r.nestedEnd(at)
	}
	return at
}

// nestedEnd returns the byte behind the comment that begins with (* at a byte.
func (r reader) nestedEnd(at int) int {
	open := 0
	for i := at; i < len(r.text); {
		switch {
		case strings.HasPrefix(r.text[i:], commentOpen):
			open++
			i += len(commentOpen)
		case strings.HasPrefix(r.text[i:], commentClose):
			open--
			i += len(commentClose)
		default:
			i++
		}
		if open == 0 {
			return i
		}
	}
	panic(failure{at, api.ErrComment})
}

// token returns the token that begins at a byte, which begins no comment, without its line and column.
func (r reader) token(at int) api.Token {
	rest := r.text[at:]
	if isRun(rest[0]) {
		return r.run(at)
	}
	if base := baseOf(rest); base > 0 {
		return r.based(at, base)
	}
	switch {
	case rest[0] == '"':
		return r.quoted(at)
	case strings.HasPrefix(rest, ruleSpelling):
		return api.Token{Kind: api.TkRule, At: at, End: at + countFirst(rest, func(b byte) bool { return b == '-' })}
	case strings.HasPrefix(rest, endSpelling):
		return api.Token{Kind: api.TkClose, At: at, End: at + countFirst(rest, func(b byte) bool { return b == '=' })}
	}
	return r.sign(at)
}

// run returns the token with which a run begins.
func (r reader) run(at int) api.Token {
	rest := r.text[at:]
	// Looked at ahead of the whole run: many of these in one run would be measured again and again.
	if strings.HasPrefix(rest, weakWord) || strings.HasPrefix(rest, strongWord) {
		return api.Token{Kind: api.TkKey, S: rest[:len(weakWord)], At: at, End: at + len(weakWord)}
	}
	s := rest[:countFirst(rest, isRun)]
	t := api.Token{Kind: api.TkName, S: s, At: at, End: at + len(s)}
	switch {
	case countFirst(s, isDigit) == len(s):
		t.Kind, t.S, t.I = api.TkNumber, "", numberOf(s, 10, at)
	case s == "_":
		t.Kind = api.TkSign
	case r.isWord(s):
		t.Kind = api.TkKey
	case !hasLetter(s):
		panic(failure{at, api.ErrChar})
	case len(s) > api.MaxName:
		panic(failure{at, api.ErrLong})
	}
	return t
}

// baseOf returns the base of the number that begins with \b, \o or \h at the first byte; 0 if none does.
func baseOf(s string) int {
	if len(s) < 3 || s[0] != '\\' {
		return 0
	}
	next := digitOf(s[2])
	switch s[1] {
	case 'b', 'B': // a decimal digit makes it a number, be it one to this base or not
		if next < 10 {
			return 2
		}
	case 'o', 'O':
		if next < 10 {
			return 8
		}
	case 'h', 'H':
		if next < 16 {
			return 16
		}
	}
	return 0
}

// based returns the number to a base that begins with two bytes that name the base.
func (r reader) based(at, base int) api.Token {
	rest := r.text[at:]
	end := 2 + countFirst(rest[2:], isRun)
	return api.Token{Kind: api.TkNumber, I: numberOf(rest[2:end], base, at), At: at, End: at + end}
}

// numberOf returns the number of digits to a base; at is where its token begins.
func numberOf(digits string, base, at int) api.Int {
	const enough = 1 << 48 // several digits at once, for a number may have many
	sum := api.Int{}
	part, scale := 0, 1
	for i := range len(digits) {
		d := digitOf(digits[i])
		if d >= base {
			panic(failure{at, api.ErrDigits})
		}
		part, scale = part*base+d, scale*base
		if scale >= enough || i == len(digits)-1 {
			sum = extended(sum, scale, part, at)
			part, scale = 0, 1
		}
	}
	return sum
}

// extended returns sum * scale + part.
func extended(sum api.Int, scale, part, at int) api.Int {
	product, e := num.Mul(sum, num.FromInt(scale))
	if e != api.OK {
		panic(failure{at, api.ErrDigits})
	}
	sum, e = num.Add(product, num.FromInt(part))
	if e != api.OK {
		panic(failure{at, api.ErrDigits})
	}
	return sum
}

// quoted returns the string that begins at a byte.
func (r reader) quoted(at int) api.Token {
	var s []byte
	for i := at + 1; i < len(r.text) && len(s) <= api.MaxStr; i++ {
		b := r.text[i]
		switch {
		case b == '"':
			return api.Token{Kind: api.TkString, S: string(s), At: at, End: i + 1}
		case b == '\\' && i+1 < len(r.text):
			i++
			k := strings.IndexByte(escapeLetters, r.text[i])
			if k < 0 {
				panic(failure{at, api.ErrQuote})
			}
			b = escapedBytes[k]
		case !isPrintable(b):
			panic(failure{at, api.ErrQuote})
		}
		s = append(s, b)
	}
	panic(failure{at, api.ErrQuote})
}

// sign returns the sign that begins at a byte.
func (r reader) sign(at int) api.Token {
	rest := r.text[at:]
	if rest[0] == '\\' {
		end := 1 + countFirst(rest[1:], isLetter)
		if first := r.canon(rest[:end]); first != "" && end > 1 {
			return api.Token{Kind: api.TkSign, S: first, At: at, End: at + end}
		}
	}
	for n := min(longestPlain, len(rest)); n > 0; n-- {
		if first := r.canon(rest[:n]); first != "" && !hasLetter(rest[:n]) {
			return api.Token{Kind: api.TkSign, S: first, At: at, End: at + n}
		}
	}
	panic(failure{at, api.ErrChar})
}
