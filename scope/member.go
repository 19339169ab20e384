package scope

import (
	"slices"
	"strings"

	"isocline/api"
)

// Member returns the component of the whole class at a path of simple names: ErrArg for the path, Whole's errors of the classes that it leads through, with the modifiers over them, ErrNone if there is no such component.
func Member(lib []api.Class, name, path string) (api.Comp, api.Errno) {
	l, at, err := open(lib, name)
	if err != api.OK {
		return api.Comp{}, err
	}
	if err := pathError([]api.Mod{{Path: path}}); err != api.OK {
		return api.Comp{}, err
	}
	class := at[0]
	var over []api.Mod
	for {
		first, rest, deep := strings.Cut(path, ".")
		whole, err := l.whole(class, over)
		if err != api.OK {
			return api.Comp{}, err
		}
		i := slices.IndexFunc(whole.Comps, func(k api.Comp) bool { return k.Name == first })
		if i < 0 || deep && whole.Comps[i].Type == realType {
			return api.Comp{}, api.ErrNone
		}
		if !deep {
			return whole.Comps[i], api.OK
		}
		class, over, path = l.numbers[whole.Comps[i].Type], whole.Comps[i].Mods, rest
	}
}
