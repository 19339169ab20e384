package expr

// Longest parts of the text of a number.
const (
	maxNumeral = 20
	maxPlaces  = 12
)

// token returns the next token, empty at the end of the text; a byte that begins none counts as one.
func (r *reader) token() string {
	r.skipBlanks()
	rest := r.s[r.at:]
	switch {
	case rest == "":
		return ""
	case isLetter(rest[0]):
		return rest[:run(rest, len(rest), isInName)]
	case isDigit(rest[0]):
		return rest[:numberEnd(rest)]
	case len(rest) > 1 && rest[:2] == "<=":
		return rest[:2]
	}
	return rest[:1]
}

// negative returns the number directly behind a `-`, which is the next token; if there is none, it is empty.
func (r *reader) negative() string {
	rest := r.s[r.at:]
	if len(rest) < 2 || rest[0] != '-' || !isDigit(rest[1]) {
		return ""
	}
	return rest[1 : 1+numberEnd(rest[1:])]
}

// numberEnd returns how long the longest beginning of s is that is the text of a number; s begins with a digit.
func numberEnd(s string) int {
	end := numeral(s)
	if end == len(s) {
		return end
	}
	behind := s[end+1:]
	more := 0
	switch s[end] {
	case '/':
		if behind != "" && behind[0] != '0' { // a number is not divided by 0
			more = numeral(behind)
		}
	case '.':
		more = run(behind, maxPlaces, isDigit)
	}
	if more == 0 {
		return end
	}
	return end + 1 + more
}

// numeral returns how long the numeral is with which s begins, 0 if there is none.
func numeral(s string) int {
	if s != "" && s[0] == '0' {
		return 1
	}
	return run(s, maxNumeral, isDigit)
}

// run returns how many bytes at the beginning of s, at most most, are as asked.
func run(s string, most int, is func(byte) bool) int {
	n := 0
	for n < len(s) && n < most && is(s[n]) {
		n++
	}
	return n
}

func (r *reader) skipBlanks() {
	for r.at < len(r.s) && r.s[r.at] == ' ' {
		r.at++
	}
}

// next passes over the next token.
func (r *reader) next() {
	t := r.token()
	r.at += len(t)
}

// take passes over the next token if it is t, and reports whether it is.
func (r *reader) take(t string) bool {
	is := r.token() == t
	if is {
		r.next()
	}
	return is
}

// expect passes over t, which has to be the next token.
func (r *reader) expect(t string) {
	if !r.take(t) {
		r.fail()
	}
}

// fail keeps the next token as the first one that cannot stand there, and ends the reading.
func (r *reader) fail() {
	r.skipBlanks()
	if r.bad < 0 {
		r.bad = r.at
	}
	r.at = len(r.s)
}
