package scope

import "isocline/api"

// step is a class that a walk through the bases met, with the modifiers that reach it along the way by which it was met.
type step struct {
	class int
	mods  []api.Mod
}

// walk goes through the bases of a class, each one with its own bases first.
type walk struct {
	*library
	done  map[int]bool // of the classes that were met: false for those that the walk is still in
	steps []step
}

// Bases returns the names of a class and of all classes that it extends, the class last: ErrNone if a base means no class, ErrLoop if a class extends itself. There are never too many, as each class of the library stands there at most once.
func Bases(lib []api.Class, name string) ([]string, api.Errno) {
	l, at, err := open(lib, name)
	if err != api.OK {
		return nil, err
	}
	steps, err := l.walk(at[0])
	if err != api.OK {
		return nil, err
	}
	var names []string
	for _, s := range steps {
		names = append(names, l.classes[s.class].Name)
	}
	return names, api.OK
}

// walk returns the steps of the walk through the bases of a class, or the first trouble of it.
func (l *library) walk(class int) ([]step, api.Errno) {
	w := &walk{library: l, done: map[int]bool{}}
	if err := w.visit(class, nil); err != api.OK {
		return nil, err
	}
	return w.steps, api.OK
}

// visit goes through the bases of a class that the modifiers reach, and then to itself.
func (w *walk) visit(class int, mods []api.Mod) api.Errno {
	w.done[class] = false
	for _, b := range w.classes[class].Bases {
		base, is := w.meant(class, b.Name)
		if !is {
			return api.ErrNone
		}
		done, met := w.done[base]
		if met && !done {
			return api.ErrLoop
		}
		if met {
			continue
		}
		if err := w.visit(base, merge(mods, w.resolved(class, b.Mods))); err != api.OK {
			return err
		}
	}
	w.done[class] = true
	w.steps = append(w.steps, step{class, mods})
	return api.OK
}
