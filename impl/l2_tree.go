package impl

import "iter"

// TreMax is how many leaves a tree may have.
const TreMax = 40

// treeNode is a tree, or a part of one, while a call lasts; a leaf has no parts.
type treeNode struct {
	root  mixed
	count int
	left  *treeNode
	right *treeNode
}

// treePair is two numbers that are mixed, in the parts' order.
type treePair struct {
	left  mixed
	right mixed
}

// treeStep is the way from a tree of some leaves down to one of them: into a part of so many, as the one at a place there.
type treeStep struct {
	count  int
	at     int
	onLeft bool
}

// TreOk says whether leaves are ok.
func TreOk(list []int) bool {
	if len(list) > TreMax {
		return false
	}
	for _, n := range list {
		if !MixOk(n) {
			return false
		}
	}
	return true
}

// TreSplit is where leaves are parted: the greatest power of two below how many there are; 0, if there are fewer than two.
func TreSplit(n int) int {
	if n < 2 || n > TreMax {
		return 0
	}
	k := 1
	for 2*k < n {
		k *= 2
	}
	return k
}

// TreRoot is the root of a tree of leaves: of one the leaf, of more the mix of both parts' roots.
func TreRoot(list []int) int {
	if !TreOk(list) {
		return 0
	}
	return int(treeOf(list).root)
}

// TreProof is the roots that stand beside a leaf, from below.
func TreProof(list []int, i int) []int {
	if !TreOk(list) || i < 0 || i >= len(list) {
		return nil
	}
	var proof []int
	for root := range treeOf(list).beside(i) {
		proof = append(proof, int(root))
	}
	return proof
}

// TreUp is the root that a leaf of a tree of so many, and what stands beside it, lead to; false, if that is no proof.
func TreUp(n int, i int, leaf int, proof []int) (int, bool) {
	if n < 1 || n > TreMax || i < 0 || i >= n || !MixOk(leaf) || !TreOk(proof) {
		return 0, false
	}
	root, ok := leadUp(n, i, mixed(leaf), proof)
	return int(root), ok
}

// TreCheck says whether a proof shows that a leaf stands in a tree of so many with a root.
func TreCheck(root int, n int, i int, leaf int, proof []int) bool {
	up, ok := TreUp(n, i, leaf, proof)
	return ok && up == root
}

// TreClash is two pairs that differ, and mix to the same, found from a proof that shows a leaf of a tree that is not there; none, if it shows nothing wrong.
func TreClash(list []int, i int, leaf int, proof []int) []int {
	if !TreOk(list) || !TreCheck(TreRoot(list), len(list), i, leaf, proof) || list[i] == leaf {
		return nil
	}
	return treeOf(list).clash(i, mixed(leaf), proof)
}

// treeOf builds the tree of leaves that are ok.
func treeOf(list []int) *treeNode {
	switch len(list) {
	case 0:
		return &treeNode{root: 5}
	case 1:
		return &treeNode{root: mixed(list[0]), count: 1}
	}
	k := TreSplit(len(list))
	t := &treeNode{count: len(list), left: treeOf(list[:k]), right: treeOf(list[k:])}
	t.root = t.parts().mix()
	return t
}

// parts is the roots of both parts of a tree that has them.
func (t *treeNode) parts() treePair {
	return treePair{left: t.left.root, right: t.right.root}
}

// mix is the root above a pair.
func (p treePair) mix() mixed {
	return p.left.pair(p.right)
}

// stepDown parts a tree of n leaves, 2 or more, and goes to the part of the i-th one.
func stepDown(n int, i int) treeStep {
	k := TreSplit(n)
	if i < k {
		return treeStep{count: k, at: i, onLeft: true}
	}
	return treeStep{count: n - k, at: i - k}
}

// pair puts the root of the part that the step leads to, and that of the other part, in the parts' order.
func (s treeStep) pair(own mixed, other mixed) treePair {
	if s.onLeft {
		return treePair{left: own, right: other}
	}
	return treePair{left: other, right: own}
}

// sides is the part of a tree that a step leads to, and the other one.
func (t *treeNode) sides(s treeStep) (*treeNode, *treeNode) {
	if s.onLeft {
		return t.left, t.right
	}
	return t.right, t.left
}

// beside tells the roots that stand beside a leaf, from below.
func (t *treeNode) beside(i int) iter.Seq[mixed] {
	return func(yield func(mixed) bool) {
		t.tellBeside(i, yield)
	}
}

// tellBeside is false once no more is wanted, so that the parts above stay silent.
func (t *treeNode) tellBeside(i int, yield func(mixed) bool) bool {
	if t.count < 2 {
		return true
	}
	step := stepDown(t.count, i)
	own, other := t.sides(step)
	return own.tellBeside(step.at, yield) && yield(other.root)
}

// leadUp is TreUp of numbers that are all in their bounds; only how many the proof has is left to see.
func leadUp(n int, i int, leaf mixed, proof []int) (mixed, bool) {
	if n == 1 && len(proof) == 0 {
		return leaf, true
	}
	if n == 1 || len(proof) == 0 {
		return 0, false
	}
	last := len(proof) - 1
	step := stepDown(n, i)
	own, ok := leadUp(step.count, step.at, leaf, proof[:last])
	if !ok {
		return 0, false
	}
	return step.pair(own, mixed(proof[last])).mix(), true
}

// clash goes down to a leaf by a proof that leads to the tree's root, until what the proof mixes is not what stands there.
func (t *treeNode) clash(i int, leaf mixed, proof []int) []int {
	if t.count < 2 || len(proof) == 0 {
		return nil
	}
	last := len(proof) - 1
	step := stepDown(t.count, i)
	up, _ := leadUp(step.count, step.at, leaf, proof[:last])
	shown, there := step.pair(up, mixed(proof[last])), t.parts()
	if shown != there {
		return []int{int(shown.left), int(shown.right), int(there.left), int(there.right)}
	}
	own, _ := t.sides(step)
	return own.clash(step.at, leaf, proof[:last])
}
