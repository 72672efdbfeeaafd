package plan

// walk enters the first one, those near it, those near these, and so on, as far as they may be entered.
func walk[T any](first T, near func(T) []T, enter func(T) bool) {
	if !enter(first) {
		return
	}
	path := []T{first}
deeper:
	for len(path) > 0 {
		last := len(path) - 1
		for _, x := range near(path[last]) {
			if enter(x) {
				path = append(path, x)
				continue deeper
			}
		}
		path = path[:last]
	}
}

// parts are the connected parts of a list, no two of whose members are equal: in the order of their first members, and each in the order
// of the list. What near tells beside members makes no difference.
func parts[T comparable](list []T, near func(T) []T) [][]T {
	const none = -1
	number := map[T]int{}
	for _, x := range list {
		number[x] = none
	}
	count := 0
	for _, first := range list {
		if number[first] != none {
			continue
		}
		walk(first, near, func(x T) bool {
			if n, isMember := number[x]; !isMember || n != none {
				return false
			}
			number[x] = count
			return true
		})
		count++
	}
	all := make([][]T, count)
	for _, x := range list {
		all[number[x]] = append(all[number[x]], x)
	}
	return all
}
