package text

import "amend/value"

func isDigit(c byte) bool { return '0' <= c && c <= '9' }

// digits steps over the digits that come next, perhaps none.
func (r *reader) digits() string {
	from := r.at
	for isDigit(r.peek()) {
		r.at++
	}
	return r.text[from:r.at]
}

func (r *reader) number() (value.Number, bool) {
	negative := r.take('-')
	whole := r.digits()
	if whole == "" || whole[0] == '0' && len(whole) > 1 {
		return value.Number{}, false
	}
	fraction, ok := r.fraction()
	if !ok {
		return value.Number{}, false
	}
	exponent, ok := r.exponent()
	if !ok {
		return value.Number{}, false
	}
	n := value.MakeNumber(negative, whole+fraction, exponent-len(fraction))
	r.farthest = max(r.farthest, n.Exponent, -n.Exponent)
	return n, true
}

func (r *reader) fraction() (string, bool) {
	if !r.take('.') {
		return "", true
	}
	digits := r.digits()
	return digits, digits != ""
}

func (r *reader) exponent() (int, bool) {
	if !r.take('e') && !r.take('E') {
		return 0, true
	}
	negative := r.take('-')
	if !negative {
		r.take('+')
	}
	digits := r.digits()
	n := 0
	for _, d := range digits {
		n = min(10*n+int(d-'0'), farExponent)
	}
	if negative {
		n = -n
	}
	return n, digits != ""
}
