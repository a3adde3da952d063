package unit

import (
	"strconv"
	"strings"

	"aneroid/api"
	"aneroid/sat"
)

// Text returns the text of a quantity and true; the empty string and false if
// there is no such unit or N is outside of the bounds.
func Text(q Quantity) (string, bool) {
	name := Name(q.Unit)
	if _, outside := sat.Clip(q.N); outside || name == "" {
		return "", false
	}
	return decimal(q.N) + " " + name, true
}

// decimal is n thousandths, in as few digits as possible.
func decimal(n int64) string {
	sign := ""
	if n < 0 {
		sign, n = "-", -n
	}
	s := sign + strconv.FormatInt(n/1000, 10)
	if n%1000 != 0 {
		digits := strconv.FormatInt(1000+n%1000, 10)[1:]
		s += "." + strings.TrimRight(digits, "0")
	}
	return s
}

// Parse returns the quantity with this text.
func Parse(s string) (Quantity, api.Errno) {
	number, name, ok := strings.Cut(s, " ")
	if !ok || name == "" {
		return Quantity{}, api.ErrForm
	}
	n, ok := thousandths(number)
	if !ok {
		return Quantity{}, api.ErrForm
	}
	u, ok := Find(name)
	if !ok {
		return Quantity{}, api.ErrNone
	}
	if _, outside := sat.Clip(n); outside {
		return Quantity{}, api.ErrRange
	}
	return Quantity{n, u}, api.OK
}

// malformed is what a parser panics with.
const malformed = "malformed number"

// tooGreat replaces all greater integers, to which no digit can be appended
// without an overflow in the end. A thousand times it is outside of the bounds.
const tooGreat = 1 << 41

// parser takes a number from the start of its text.
type parser struct {
	rest string
}

// thousandths returns the number that is written as in a text; false if it is
// not written like that.
func thousandths(s string) (n int64, ok bool) {
	defer func() {
		if recover() != nil {
			n, ok = 0, false
		}
	}()
	p := parser{s}
	return p.number(), true
}

func (p *parser) number() int64 {
	negative := p.skip('-')
	n := p.integer()*1000 + p.fraction()
	if p.rest != "" || negative && n == 0 {
		panic(malformed)
	}
	if negative {
		return -n
	}
	return n
}

// skip skips a byte if it comes next.
func (p *parser) skip(b byte) bool {
	if p.rest == "" || p.rest[0] != b {
		return false
	}
	p.rest = p.rest[1:]
	return true
}

// digits takes all digits that come next; there must be some.
func (p *parser) digits() string {
	end := 0
	for end < len(p.rest) && p.rest[end] >= '0' && p.rest[end] <= '9' {
		end++
	}
	if end == 0 {
		panic(malformed)
	}
	taken := p.rest[:end]
	p.rest = p.rest[end:]
	return taken
}

func (p *parser) integer() int64 {
	taken := p.digits()
	if len(taken) > 1 && taken[0] == '0' {
		panic(malformed)
	}
	var n int64
	for i := range len(taken) {
		n = min(n*10+int64(taken[i]-'0'), tooGreat)
	}
	return n
}

// fraction takes a fraction, if there is one, without zeros at its end.
func (p *parser) fraction() int64 {
	if !p.skip('.') {
		return 0
	}
	taken := p.digits()
	if len(taken) > 3 || taken[len(taken)-1] == '0' {
		panic(malformed)
	}
	n, scale := int64(0), int64(100)
	for i := range len(taken) {
		n += int64(taken[i]-'0') * scale
		scale /= 10
	}
	return n
}
