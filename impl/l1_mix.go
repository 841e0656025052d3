package impl

// MixMax is below what all mixed numbers are.
const MixMax = 65521

// mixed is a mixed number. It has 64 bits, as two of them multiplied do not fit into 32.
type mixed int64

// MixOk says whether a number is a mixed one.
func MixOk(n int) bool {
	return n >= 0 && n < MixMax
}

// MixPair mixes two mixed numbers, in this order.
func MixPair(a int, b int) int {
	if !MixOk(a) || !MixOk(b) {
		return 0
	}
	return int(mixed(a).pair(mixed(b)))
}

// MixLeaf mixes numbers, in this order, so that they begin a tree.
func MixLeaf(list []int) int {
	m := mixed(7)
	for _, n := range list {
		m = m.add(n)
	}
	return int(m.end(len(list)))
}

// pair mixes a number with the one on its right.
func (m mixed) pair(right mixed) mixed {
	return (m*8191 + right*127 + m*right + 31) % MixMax
}

// add mixes one more number of a leaf into what there is.
func (m mixed) add(n int) mixed {
	return (m*4099 + reduced(n) + 11) % MixMax
}

// end mixes in how many numbers there were, so that a longer list is told from its beginning.
func (m mixed) end(count int) mixed {
	return (m*31 + reduced(count)) % MixMax
}

// reduced is any number mod MixMax, from 0 on: the remainder alone would be below 0 where the number is.
func reduced(n int) mixed {
	rest := n % MixMax
	if rest < 0 {
		rest += MixMax
	}
	return mixed(rest)
}
