package scope

import (
	"slices"

	"isocline/api"
)

// Loop returns the first cycle of components, and whether there is one: Whole's errors of the classes in order.
func Loop(lib []api.Class) ([]string, bool, api.Errno) {
	l, _, err := open(lib)
	if err != api.OK {
		return nil, false, err
	}
	next := make([][]int, len(lib))
	for i := range lib {
		c, err := l.whole(i, nil)
		if err != api.OK {
			return nil, false, err
		}
		next[i] = l.within(c)
	}
	for i := range lib {
		if names := l.cycle(next, i); names != nil {
			return names, true, api.OK
		}
	}
	return nil, false, api.OK
}

// within returns the classes of the components of a whole class, ascending.
func (l *library) within(c api.Class) []int {
	var classes []int
	for _, k := range c.Comps {
		if k.Type != realType {
			classes = append(classes, l.numbers[k.Type])
		}
	}
	slices.Sort(classes)
	return slices.Compact(classes)
}

// cycle returns the names of the classes of the least of the shortest ways that lead from a class back to it, or nil.
func (l *library) cycle(next [][]int, from int) []string {
	far := distances(next, from)
	nearest := func(class int) int {
		best := -1
		for _, n := range next[class] {
			if far[n] >= 0 && (best < 0 || far[n] < far[best]) {
				best = n
			}
		}
		return best
	}
	at := nearest(from)
	if at < 0 {
		return nil
	}
	names := []string{l.classes[from].Name}
	for at != from {
		names = append(names, l.classes[at].Name)
		at = nearest(at)
	}
	return names
}

// distances tells of each class how many steps it is from there to a class, -1 if no way leads there.
func distances(next [][]int, to int) []int {
	far := make([]int, len(next))
	for i := range far {
		far[i] = -1
	}
	far[to] = 0
	for queue := []int{to}; len(queue) > 0; queue = queue[1:] {
		for i, classes := range next {
			if far[i] < 0 && slices.Contains(classes, queue[0]) {
				far[i] = far[queue[0]] + 1
				queue = append(queue, i)
			}
		}
	}
	return far
}
