package scope

import "isocline/api"

// Fits reports whether the class a may stand where b does: the errors of bases and names of all classes that are asked, until it is clear that a does not fit.
func Fits(lib []api.Class, a, b string) (bool, api.Errno) {
	l, at, err := open(lib, a, b)
	if err != api.OK {
		return false, err
	}
	return l.fits(at[0], at[1])
}

// fits reports whether a fits b, or what the first error is. A pair is asked only once in a call, as the first one that does not fit ends it: what was asked before fits, if what is still to be asked does.
func (l *library) fits(a, b int) (bool, api.Errno) {
	pair := [2]int{a, b}
	if l.asked[pair] {
		return true, api.OK
	}
	l.asked[pair] = true
	mine, other := l.outline(a), l.outline(b)
	if mine.err != api.OK {
		return false, mine.err
	}
	if other.err != api.OK {
		return false, other.err
	}
	for _, k := range other.comps {
		at, is := mine.number[k.Name]
		if !is || !alike(mine.comps[at], k) {
			return false, api.OK
		}
		if k.Type == realType {
			continue
		}
		if fit, err := l.fits(l.numbers[mine.comps[at].Type], l.numbers[k.Type]); !fit {
			return false, err
		}
	}
	return true, api.OK
}

// alike reports whether two components are of one sort, but for their classes.
func alike(a, b api.Comp) bool {
	return a.Var == b.Var && a.Flow == b.Flow && a.Size == b.Size && (a.Type == realType) == (b.Type == realType)
}
