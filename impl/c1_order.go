package impl

import "slices"

// MaxClasses is the largest number of classes, and of numbers of a list.
const MaxClasses = 12

// MaxBases is the largest number of bases of a class.
const MaxBases = 4

// MaxLists is the largest number of lists that are merged.
const MaxLists = 6

// MaxWalk is the greatest index of a class from which a walk goes.
const MaxWalk = 9

// MaxCount is the largest number of numbers of which orders are counted.
const MaxCount = 7

// ValidBases reports whether lists of bases are valid.
func ValidBases(bases [][]int) bool {
	if len(bases) < 1 || len(bases) > MaxClasses || len(bases[0]) > 0 {
		return false
	}
	for c := 1; c < len(bases); c++ {
		if !canBeBases(bases[c], c) {
			return false
		}
	}
	return true
}

// canBeBases reports whether a list can be the bases of the class c, which is not the root.
func canBeBases(list []int, c int) bool {
	return len(list) > 0 && isList(list, MaxBases) && areUpTo(list, c-1)
}

// isUpTo reports whether a number is in 0..most.
func isUpTo(n int, most int) bool {
	return n >= 0 && n <= most
}

// areUpTo reports whether all numbers of a list are in 0..most.
func areUpTo(list []int, most int) bool {
	for _, n := range list {
		if !isUpTo(n, most) {
			return false
		}
	}
	return true
}

// isList reports whether a list has at most some numbers, all different.
// The length is looked at first, so that a long list is never compared with itself.
func isList[T comparable](list []T, most int) bool {
	if len(list) > most {
		return false
	}
	for i, x := range list {
		if slices.Contains(list[:i], x) {
			return false
		}
	}
	return true
}

// hasClass reports whether bases are valid and tell the class c.
func hasClass(bases [][]int, c int) bool {
	return ValidBases(bases) && c >= 0 && c < len(bases)
}

// MergeLists returns the merge of lists.
func MergeLists(lists [][]int) ([]int, bool) {
	if !canMerge(lists) {
		return nil, false
	}
	merged, left := mergeAll(lists)
	if len(heads(left)) > 0 {
		return nil, false
	}
	return merged, true
}

// StuckHeads returns the first numbers of lists that cannot be merged any more.
func StuckHeads(lists [][]int) []int {
	if !canMerge(lists) {
		return nil
	}
	_, left := mergeAll(lists)
	return heads(left)
}

// canMerge reports whether lists are such as MergeLists takes, whether they have a merge or not.
func canMerge(lists [][]int) bool {
	if len(lists) > MaxLists {
		return false
	}
	for _, list := range lists {
		if !isList(list, MaxClasses) {
			return false
		}
	}
	return true
}

// mergeAll merges lists as far as it goes, and returns also what is left of them then.
func mergeAll[T comparable](lists [][]T) ([]T, [][]T) {
	var merged []T
	for x, ok := firstFree(lists); ok; x, ok = firstFree(lists) {
		merged = append(merged, x)
		lists = withoutHead(lists, x)
	}
	return merged, lists
}

// firstFree returns the first head that can come next in a merge.
func firstFree[T comparable](lists [][]T) (T, bool) {
	for _, list := range lists {
		if len(list) > 0 && !isBehind(lists, list[0]) {
			return list[0], true
		}
	}
	var none T
	return none, false
}

// isBehind reports whether x is behind the first place of one of the lists.
func isBehind[T comparable](lists [][]T, x T) bool {
	for _, list := range lists {
		if slices.Index(list, x) > 0 {
			return true
		}
	}
	return false
}

// withoutHead returns a copy of the lists in which none begins with x any more.
// It is a copy because the lists may be those of a caller, or be gone on with from another head.
func withoutHead[T comparable](lists [][]T, x T) [][]T {
	left := make([][]T, len(lists))
	copy(left, lists)
	for i, list := range left {
		if len(list) > 0 && list[0] == x {
			left[i] = list[1:]
		}
	}
	return left
}

// heads returns the first numbers of the lists that are not empty, each once.
func heads[T comparable](lists [][]T) []T {
	var first []T
	for _, list := range lists {
		if len(list) > 0 {
			first = append(first, list[0])
		}
	}
	return eachOnce(first)
}

// eachOnce returns what a list has, each where it stands first.
func eachOnce[T comparable](list []T) []T {
	var once []T
	for _, x := range list {
		if !slices.Contains(once, x) {
			once = append(once, x)
		}
	}
	return once
}

// OrderOf returns the order of a class.
func OrderOf(bases [][]int, c int) ([]int, bool) {
	if !hasClass(bases, c) {
		return nil, false
	}
	order := ordersUpTo(bases, c)[c]
	return order, order != nil
}

// ordersUpTo returns the order of each class up to c, nil where there is none.
// Bases have lesser indices, so that each order is made once, and before it is needed.
func ordersUpTo(bases [][]int, c int) [][]int {
	orders := make([][]int, c+1)
	for i := range orders {
		orders[i] = orderFrom(orders, bases[i], i)
	}
	return orders
}

// orderFrom returns the order of the class c with the bases list, by the orders of these, nil if there is none.
func orderFrom(orders [][]int, list []int, c int) []int {
	var lists [][]int
	for _, b := range list {
		if orders[b] == nil {
			return nil
		}
		lists = append(lists, orders[b])
	}
	merged, ok := MergeLists(append(lists, list))
	if !ok {
		return nil
	}
	return append([]int{c}, merged...)
}

// AboveOf returns all classes above a class.
func AboveOf(bases [][]int, c int) []int {
	if !hasClass(bases, c) {
		return nil
	}
	met := make([]bool, len(bases))
	met[c] = true
	// From a class all steps lead down in indices, so that one pass from c meets all of them.
	for i := c; i > 0; i-- {
		if met[i] {
			for _, b := range bases[i] {
				met[b] = true
			}
		}
	}
	return indicesOf(met)
}

// BelowOf returns all classes below a class.
func BelowOf(bases [][]int, c int) []int {
	if !hasClass(bases, c) {
		return nil
	}
	met := make([]bool, len(bases))
	met[c] = true
	for i := c + 1; i < len(bases); i++ {
		for _, b := range bases[i] {
			met[i] = met[i] || met[b]
		}
	}
	return indicesOf(met)
}

// indicesOf returns the indices at which a mark is set, ascending.
func indicesOf(marks []bool) []int {
	var list []int
	for i, set := range marks {
		if set {
			list = append(list, i)
		}
	}
	return list
}

// isBelow reports whether the class a is below the class b, or is this class itself.
// A number that is no class is below nothing, and nothing is below it.
func isBelow(bases [][]int, a int, b int) bool {
	return slices.Contains(AboveOf(bases, a), b)
}

// DepthFirst returns classes in the order of a walk, where they are met first.
func DepthFirst(bases [][]int, c int) []int {
	if !canWalk(bases, c) {
		return nil
	}
	return eachOnce(walkFrom(bases, c))
}

// LastMet returns classes in the order of a walk, where they are met last.
func LastMet(bases [][]int, c int) []int {
	if !canWalk(bases, c) {
		return nil
	}
	walk := walkFrom(bases, c)
	slices.Reverse(walk)
	last := eachOnce(walk)
	slices.Reverse(last)
	return last
}

// canWalk reports whether a walk can go from the class c: the length of a walk nearly doubles with each index.
func canWalk(bases [][]int, c int) bool {
	return hasClass(bases, c) && c <= MaxWalk
}

// walkFrom returns all classes that a walk from the class c meets, as often as it meets them.
func walkFrom(bases [][]int, c int) []int {
	walk := []int{c}
	for _, b := range bases[c] {
		walk = append(walk, walkFrom(bases, b)...)
	}
	return walk
}

// KeepsOrder reports whether a list is in another one in order.
func KeepsOrder(long []int, short []int) bool {
	if !isList(long, MaxClasses) || !isList(short, MaxClasses) {
		return false
	}
	kept := 0
	for _, x := range long {
		if kept < len(short) && short[kept] == x {
			kept++
		}
	}
	return kept == len(short)
}

// CountOrders returns in how many orders lists are kept.
func CountOrders(lists [][]int) int {
	if !canCount(lists) {
		return -1
	}
	return countFrom(lists)
}

// canCount reports whether lists are few and short enough for their orders to be counted.
func canCount(lists [][]int) bool {
	if len(lists) > MaxLists {
		return false
	}
	var all []int
	for _, list := range lists {
		if !isList(list, MaxCount) {
			return false
		}
		all = append(all, list...)
	}
	return len(eachOnce(all)) <= MaxCount
}

// countFrom counts the orders by what can come first: a number that no other one must be before is a head.
func countFrom[T comparable](lists [][]T) int {
	first := heads(lists)
	if len(first) == 0 {
		return 1
	}
	count := 0
	for _, x := range first {
		if !isBehind(lists, x) {
			count += countFrom(withoutHead(lists, x))
		}
	}
	return count
}

// AddClass returns bases with one more class.
func AddClass(bases [][]int, list []int) ([][]int, bool) {
	if !ValidBases(bases) || !canBeBases(list, len(bases)) {
		return nil, false
	}
	longer := append(copyLists(bases), slices.Clone(list))
	if _, ok := OrderOf(longer, len(bases)); !ok {
		return nil, false
	}
	return longer, true
}

// copyLists returns lists that share no memory with the given ones.
func copyLists[T any](lists [][]T) [][]T {
	copies := make([][]T, len(lists))
	for i, list := range lists {
		copies[i] = slices.Clone(list)
	}
	return copies
}

// AllOrders reports whether each class has an order.
func AllOrders(bases [][]int) bool {
	if !ValidBases(bases) {
		return false
	}
	for _, order := range ordersUpTo(bases, len(bases)-1) {
		if order == nil {
			return false
		}
	}
	return true
}
