package model

import (
	"strconv"
	"strings"

	"isocline/api"
)

const (
	maxSimple = 16     // the most bytes of a simple name
	realType  = "Real" // the type of components without a class
)

// isWord reports whether s is a word that is no simple name.
func isWord(s string) bool {
	switch s {
	case "model", "port", "partial", "extends", "inner", "outer", "replaceable", "flow", "parameter", "discrete",
		"equation", "initial", "connect", "when", "set", "end", "in", "is", realType, "time",
		"class", "connector", "abstract", "base", "param", "state", "number", "eq", "start", "wire", "on", "put",
		"if", "then", "else", "or", "and", "not", "der", "pre", "abs", "min", "max":
		return true
	}
	return false
}

// isSimple reports whether s is a simple name.
func isSimple(s string) bool {
	if len(s) < 1 || len(s) > maxSimple || !isLetter(s[0]) || isWord(s) {
		return false
	}
	for i := range len(s) {
		if !isLetter(s[i]) && !isDigit(s[i]) && s[i] != '_' {
			return false
		}
	}
	return true
}

func isLetter(c byte) bool {
	return 'a' <= c && c <= 'z' || 'A' <= c && c <= 'Z'
}

func isDigit(c byte) bool {
	return '0' <= c && c <= '9'
}

// isPath reports whether s is one or more simple names with `.` between.
func isPath(s string) bool {
	for name := range strings.SplitSeq(s, ".") {
		if !isSimple(name) {
			return false
		}
	}
	return true
}

// isClassName reports whether s is the name of a class.
func isClassName(s string) bool {
	return len(s) <= api.MaxName && isPath(s)
}

// isType reports whether s is the type of a component.
func isType(s string) bool {
	return s == realType || isClassName(s)
}

// isEnd reports whether s is an end of a link: a path whose names may have a number each.
func isEnd(s string) bool {
	if len(s) > api.MaxName {
		return false
	}
	for name := range strings.SplitSeq(s, ".") {
		if open, ok := strings.CutSuffix(name, "]"); ok {
			before, digits, _ := strings.Cut(open, "[")
			if _, ok := number(digits); !ok {
				return false
			}
			name = before
		}
		if !isSimple(name) {
			return false
		}
	}
	return true
}

// number returns the number from 1 to MaxSize whose text is s, and whether it is one.
func number(s string) (int, bool) {
	n, err := strconv.Atoi(s)
	if err != nil || n < 1 || n > api.MaxSize || strconv.Itoa(n) != s {
		return 0, false
	}
	return n, true
}
