package solve

import "pantry/api"

// set is releases: bit n stands for release n. There are bits enough: a shelf
// that is looked at has at most 50 releases.
type set uint64

func only(number int) set { return 1 << number }

func (s set) has(number int) bool { return s&only(number) != 0 }

// setOf tells the chosen releases, if they are on the shelf and no two of them
// have one name.
func setOf(l []api.Release, chosen []int) (set, bool) {
	var all set
	ahead := make(map[string]struct{}, len(l))
	for _, number := range chosen {
		if number < 0 || number >= len(l) {
			return 0, false
		}
		name := l[number].Name
		if _, ok := ahead[name]; ok {
			return 0, false
		}
		ahead[name] = struct{}{}
		all |= only(number)
	}
	return all, true
}
