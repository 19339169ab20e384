package scope

import (
	"strings"

	"isocline/api"
)

// target returns the component that the first name of a Path names, as its class declares it, whether there is one, and whether the Path leads into it.
func (s site) target(m api.Mod) (k api.Comp, is, deep bool) {
	first, _, deep := strings.Cut(m.Path, ".")
	at, is := s.on.number[first]
	if is {
		k = s.on.declared[at]
	}
	return k, is, deep
}

// siteError returns the first error of modifiers that P9.5 has, each one asked of all sites before the next one: ErrNone, ErrType, ErrRule.
func (l *library) siteError(sites []site) api.Errno {
	if err := nameError(sites); err != api.OK {
		return err
	}
	for _, s := range sites {
		if s.mistyped() {
			return api.ErrType
		}
	}
	for _, s := range sites {
		if l.breaks(s) {
			return api.ErrRule
		}
	}
	return api.OK
}

// nameError is ErrNone if a modifier names no component, or if the class at which it stands has a name that means nothing.
func nameError(sites []site) api.Errno {
	for _, s := range sites {
		if s.on.err != api.OK {
			return s.on.err
		}
		for _, m := range s.mods {
			if _, is, _ := s.target(m); !is {
				return api.ErrNone
			}
		}
	}
	return api.OK
}

// mistyped reports whether a modifier asks of a component what its Type does not have: a number of a class, a class of a number, or what is in a number.
func (s site) mistyped() bool {
	for _, m := range s.mods {
		k, _, deep := s.target(m)
		if wantsReal := !deep && m.Type == ""; wantsReal != (k.Type == realType) {
			return true
		}
	}
	return false
}

// breaks reports whether a modifier puts in a class where none, or not that one, may be put in.
func (l *library) breaks(s site) bool {
	for _, m := range s.mods {
		k, _, deep := s.target(m)
		if deep || m.Type == "" {
			continue
		}
		if fit, _ := l.fits(l.numbers[m.Type], l.numbers[k.Type]); !fit || !k.Replace {
			return true
		}
	}
	return false
}
