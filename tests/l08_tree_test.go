package tests

import (
	"math"
	"slices"
	"strconv"
	"strings"
	"testing"

	"loop.example/g00264/impl"
)

// treesOf has each right tree of so many nodes.
func treesOf(count int) []impl.Tree {
	if count == 1 {
		return []impl.Tree{{Up: []int{-1}}}
	}
	var list []impl.Tree
	for _, less := range treesOf(count - 1) {
		for parent := range count - 1 {
			list = append(list, impl.Tree{Up: append(slices.Clone(less.Up), parent)})
		}
	}
	return list
}

// treeBy has the parent of each node but the first told by a function.
func treeBy(count int, parent func(n int) int) impl.Tree {
	up := []int{-1}
	for n := 1; n < count; n++ {
		up = append(up, parent(n))
	}
	return impl.Tree{Up: up}
}

func chainOf(count int) impl.Tree { return treeBy(count, func(n int) int { return n - 1 }) }

func starOf(count int) impl.Tree { return treeBy(count, func(int) int { return 0 }) }

// rightTrees has all small ones, and great ones of many forms.
func rightTrees() []impl.Tree {
	var list []impl.Tree
	for count := 1; count <= 6; count++ {
		list = append(list, treesOf(count)...)
	}
	for _, count := range []int{7, 11, 29, 30} {
		list = append(list, chainOf(count), starOf(count), treeBy(count, func(n int) int { return (n - 1) / 2 }))
		c := chooser{state: uint32(count)}
		for range 10 {
			list = append(list, treeBy(count, c.below))
		}
	}
	return list
}

// wrongTrees has trees that are wrong in one way each, with its name.
func wrongTrees() map[string]impl.Tree {
	return map[string]impl.Tree{
		"no node":                               {},
		"a list without a node":                 {Up: []int{}},
		"one more than MaxNodes in a chain":     chainOf(31),
		"one more than MaxNodes in a star":      starOf(31),
		"many more than MaxNodes":               starOf(1000),
		"one node, its own parent":              {Up: []int{0}},
		"one node with a parent above it":       {Up: []int{1}},
		"one node with a parent below -1":       {Up: []int{-2}},
		"a first node that is its own parent":   {Up: []int{0, 0, 1}},
		"a first node with a kid as its parent": {Up: []int{1, 0, 0}},
		"a first node with a parent below -1":   {Up: []int{-2, 0, 0}},
		"a first node with the least parent":    {Up: []int{math.MinInt, 0, 0}},
		"a second node that is its own parent":  {Up: []int{-1, 1}},
		"a last node that is its own parent":    {Up: []int{-1, 0, 0, 3}},
		"a parent that comes later":             {Up: []int{-1, 0, 3, 0}},
		"two that are each other's parents":     {Up: []int{-1, 2, 1}},
		"a parent that is no node of it":        {Up: []int{-1, 0, 3}},
		"a parent that is no node at all":       {Up: []int{-1, 0, 30}},
		"the greatest number as a parent":       {Up: []int{-1, 0, math.MaxInt}},
		"a second root":                         {Up: []int{-1, -1}},
		"a second root at the end":              {Up: []int{-1, 0, 1, -1}},
		"a parent below -1":                     {Up: []int{-1, 0, -2}},
		"the least number as a parent":          {Up: []int{-1, math.MinInt, 0}},
		"a last of many that is its own parent": {Up: append(chainOf(29).Up, 29)},
		"a last of many without a parent":       {Up: append(chainOf(29).Up, -1)},
	}
}

// isTree asks sentence by sentence whether a tree is right.
func isTree(t impl.Tree) bool {
	if !isIn(len(t.Up), 1, 30) {
		return false
	}
	for n, up := range t.Up {
		if n == 0 && up != -1 || n > 0 && !isIn(up, 0, n-1) {
			return false
		}
	}
	return true
}

// kidsOf goes down the nodes and lays each one that has that parent ahead of the later ones.
func kidsOf(t impl.Tree, n int) []int {
	var kids []int
	for kid := len(t.Up) - 1; kid >= 0; kid-- {
		if t.Up[kid] == n {
			kids = append([]int{kid}, kids...)
		}
	}
	return kids
}

// depthOf has one more than its parent.
func depthOf(t impl.Tree, n int) int {
	if n == 0 {
		return 0
	}
	return 1 + depthOf(t, t.Up[n])
}

func textOfTree(t impl.Tree) string {
	text := ""
	for n, up := range t.Up {
		if n > 1 {
			text += " "
		}
		if n > 0 {
			text += strconv.Itoa(up)
		}
	}
	return text
}

// treeOfText reads a text number by number as the document tells it, with no word left out.
func treeOfText(s string) (impl.Tree, bool) {
	t := impl.Tree{Up: []int{-1}}
	for s != "" {
		word, rest, more := strings.Cut(s, " ")
		n, err := strconv.Atoi(word)
		if err != nil || strconv.Itoa(n) != word || !isIn(n, 0, len(t.Up)-1) || len(t.Up) == 30 || more && rest == "" {
			return impl.Tree{}, false
		}
		t.Up, s = append(t.Up, n), rest
	}
	return t, true
}

// outsiders has numbers that are no node of a tree.
func outsiders(t impl.Tree) []int {
	return []int{-2, -3, -30, math.MinInt, len(t.Up), len(t.Up) + 1, 30, 31, 1000, math.MaxInt}
}

func wantNoTree(t *testing.T, s string) {
	t.Helper()
	if got, ok := impl.ReadTree(s); ok || got.Up != nil {
		t.Errorf("ReadTree(%.200q) = %v, %v, want the zero value, false", s, got, ok)
	}
}

func TestTreeOkOfRightTrees(t *testing.T) {
	for _, tree := range rightTrees() {
		if !isTree(tree) || !impl.TreeOk(tree) {
			t.Errorf("TreeOk(%v) is false", tree)
		}
	}
}

func TestTreeOkOfWrongTrees(t *testing.T) {
	for name, tree := range wrongTrees() {
		if isTree(tree) || impl.TreeOk(tree) {
			t.Errorf("%s: TreeOk(%v) is true", name, tree)
		}
	}
}

func TestTreeOkOfEachSmallList(t *testing.T) {
	lists := [][]int{nil}
	for at := 0; at < len(lists); at++ {
		tree := impl.Tree{Up: lists[at]}
		if got := impl.TreeOk(tree); got != isTree(tree) {
			t.Errorf("TreeOk(%v) = %v", tree, got)
		}
		if len(lists[at]) < 4 {
			for up := -2; up <= 5; up++ {
				lists = append(lists, append(slices.Clone(lists[at]), up))
			}
		}
	}
}

func TestTreeOkOfEachParentInAGreatTree(t *testing.T) {
	for _, right := range []impl.Tree{chainOf(30), starOf(30), chainOf(17)} {
		for n := range right.Up {
			for up := -3; up <= 32; up++ {
				tree := impl.Tree{Up: slices.Clone(right.Up)}
				tree.Up[n] = up
				if got := impl.TreeOk(tree); got != isTree(tree) {
					t.Errorf("TreeOk(%v) = %v", tree, got)
				}
			}
		}
	}
}

func TestWrongTreesAreAnsweredWithNothing(t *testing.T) {
	for name, tree := range wrongTrees() {
		for n := -3; n <= 1001; n++ {
			if kids := impl.KidsOf(tree, n); len(kids) != 0 {
				t.Errorf("%s: KidsOf %d is %v", name, n, kids)
			}
			if depth := impl.Depth(tree, n); depth != -1 {
				t.Errorf("%s: Depth of %d is %d", name, n, depth)
			}
			if impl.IsEdge(tree, n) {
				t.Errorf("%s: IsEdge of %d is true", name, n)
			}
		}
		if nodes := impl.TreeNodes(tree); len(nodes) != 0 {
			t.Errorf("%s: TreeNodes are %v", name, nodes)
		}
		if text := impl.TreeText(tree); text != "" {
			t.Errorf("%s: TreeText is %q", name, text)
		}
	}
}

func TestKidsOf(t *testing.T) {
	for _, tree := range rightTrees() {
		for n := range tree.Up {
			if kids := impl.KidsOf(tree, n); !slices.Equal(kids, kidsOf(tree, n)) {
				t.Errorf("KidsOf(%v, %d) = %v", tree, n, kids)
			}
		}
	}
}

func TestEachNodeButTheFirstIsAKidOfJustOne(t *testing.T) {
	for _, tree := range rightTrees() {
		parents := make([]int, len(tree.Up))
		for n := range tree.Up {
			for _, kid := range impl.KidsOf(tree, n) {
				parents[kid]++
			}
		}
		for n, count := range parents {
			if count != min(n, 1) {
				t.Errorf("%v: node %d is a kid of %d", tree, n, count)
			}
		}
	}
}

func TestDepth(t *testing.T) {
	for _, tree := range rightTrees() {
		for n := range tree.Up {
			if depth := impl.Depth(tree, n); depth != depthOf(tree, n) {
				t.Errorf("Depth(%v, %d) = %d", tree, n, depth)
			}
		}
	}
	if depth := impl.Depth(chainOf(30), 29); depth != 29 {
		t.Errorf("the last of a chain of 30 has %d above it", depth)
	}
	if depth := impl.Depth(starOf(30), 29); depth != 1 {
		t.Errorf("the last of a star of 30 has %d above it", depth)
	}
}

func TestIsEdge(t *testing.T) {
	for _, tree := range rightTrees() {
		for n := range tree.Up {
			if edge := impl.IsEdge(tree, n); edge != (len(kidsOf(tree, n)) == 0) {
				t.Errorf("IsEdge(%v, %d) = %v", tree, n, edge)
			}
		}
	}
}

func TestNodesThatDoNotStandInTheTree(t *testing.T) {
	for _, tree := range rightTrees() {
		for _, n := range outsiders(tree) {
			if kids := impl.KidsOf(tree, n); len(kids) != 0 {
				t.Errorf("KidsOf(%v, %d) = %v", tree, n, kids)
			}
			if depth := impl.Depth(tree, n); depth != -1 {
				t.Errorf("Depth(%v, %d) = %d", tree, n, depth)
			}
			if impl.IsEdge(tree, n) {
				t.Errorf("IsEdge(%v, %d) is true", tree, n)
			}
		}
	}
}

// The parent of node 0 is -1 by the document's words, and KidsOf tells the nodes whose parent a number is; -1 is still no node.
func TestBelowNoParentStandsTheFirstNode(t *testing.T) {
	for _, tree := range rightTrees() {
		if kids := impl.KidsOf(tree, -1); !slices.Equal(kids, []int{0}) {
			t.Errorf("KidsOf(%v, -1) = %v", tree, kids)
		}
		if impl.Depth(tree, -1) != -1 || impl.IsEdge(tree, -1) {
			t.Errorf("%v: -1 has Depth %d, IsEdge %v", tree, impl.Depth(tree, -1), impl.IsEdge(tree, -1))
		}
	}
}

func TestTheTreeOfOneNode(t *testing.T) {
	tree, ok := impl.ReadTree("")
	if !ok || !slices.Equal(tree.Up, []int{-1}) || !impl.TreeOk(tree) {
		t.Fatalf("ReadTree of the empty text is %v, %v", tree, ok)
	}
	if kids := impl.KidsOf(tree, 0); len(kids) != 0 {
		t.Errorf("it has the kids %v", kids)
	}
	if impl.Depth(tree, 0) != 0 || impl.Depth(tree, 1) != -1 {
		t.Errorf("the depths are %d, %d", impl.Depth(tree, 0), impl.Depth(tree, 1))
	}
	if !impl.IsEdge(tree, 0) || impl.IsEdge(tree, 1) {
		t.Errorf("the edges are %v, %v", impl.IsEdge(tree, 0), impl.IsEdge(tree, 1))
	}
	want := impl.Node{Id: 0, Parent: -1, Next: 1}
	if nodes := impl.TreeNodes(tree); len(nodes) != 1 || !sameNode(nodes[0], want) {
		t.Errorf("its nodes are %v", nodes)
	}
	if text := impl.TreeText(tree); text != "" {
		t.Errorf("its text is %q", text)
	}
}

func TestTreeNodesAreNodeNewOfEach(t *testing.T) {
	for _, tree := range rightTrees() {
		nodes := impl.TreeNodes(tree)
		if len(nodes) != len(tree.Up) {
			t.Fatalf("%v has %d nodes", tree, len(nodes))
		}
		for id, n := range nodes {
			want, ok := impl.NodeNew(id, tree.Up[id], kidsOf(tree, id))
			if !ok || !sameNode(n, want) || !impl.NodeOk(n) {
				t.Errorf("%v: node %d is %s, want %s", tree, id, shown(n), shown(want))
			}
		}
	}
}

func TestATreeComesBackFromItsText(t *testing.T) {
	for _, tree := range rightTrees() {
		text := impl.TreeText(tree)
		if text != textOfTree(tree) {
			t.Errorf("TreeText(%v) = %q", tree, text)
		}
		got, ok := impl.ReadTree(text)
		if !ok || !slices.Equal(got.Up, tree.Up) {
			t.Errorf("ReadTree(%q) = %v, %v", text, got, ok)
		}
	}
}

func TestReadTreeOfTheMostNodes(t *testing.T) {
	text := strings.TrimSuffix(strings.Repeat("0 ", 29), " ")
	if got, ok := impl.ReadTree(text); !ok || !slices.Equal(got.Up, starOf(30).Up) {
		t.Errorf("of 29 numbers it is %v, %v", got, ok)
	}
	wantNoTree(t, text+" 0")
	wantNoTree(t, text+" 29")
	wantNoTree(t, strings.Repeat("0 ", 100000)+"0")
	wantNoTree(t, strings.Repeat(" ", 100000))
}

func TestReadTreeOfNoTree(t *testing.T) {
	for _, s := range []string{
		" ", "  ", "0 ", " 0", "0  0", " 0 0", "0 0 ", "0 0  1",
		"00", "01", "0 00", "0 01", "0 0 02", "000", "0 0000000001",
		"-1", "-0", "+0", "0 -1", "0 +1", "0 -0", "0 0 -2", "--0",
		"1", "2", "0 2", "0 0 3", "0 1 2 4", "0 30", "0 999999999", "0 1000000000", "0 4294967296", "0 18446744073709551616", "0 9223372036854775807",
		"0 " + strings.Repeat("9", 400), "0 1" + strings.Repeat("0", 400), "0 " + strings.Repeat("0", 400),
		"x", "0 x", "0x0", "0 0a", "a0", "0,0", "0,", "0;0", "0_0", "0.0", "0e0", "0\t0", "0\n0", "0\n", "\n", "\n0", "0\r", "\t", "0\x000", "0 \x00", "\x00",
		"0\u00a00", "0 \u0661", "\uff10", "\xff", "0 \xff", "tree", "-1 0", "-1 0 0", "[0]", "0 0 1 1x",
	} {
		wantNoTree(t, s)
	}
}

func TestReadTreeOfEachShortText(t *testing.T) {
	texts := []string{""}
	for at := 0; at < len(texts); at++ {
		s := texts[at]
		want, wantOk := treeOfText(s)
		if got, ok := impl.ReadTree(s); ok != wantOk || !slices.Equal(got.Up, want.Up) {
			t.Errorf("ReadTree(%q) = %v, %v, want %v, %v", s, got, ok, want, wantOk)
		}
		if len(s) < 5 {
			for _, b := range []string{"0", "1", "2", " ", "-", "+", "x"} {
				texts = append(texts, s+b)
			}
		}
	}
}

func TestReadTreeOfATextWithOneByteChanged(t *testing.T) {
	for _, right := range []string{"0 0 1 1", "0 1 2 3 4 5 6 7 8 9 10 11", textOfTree(chainOf(30)), textOfTree(starOf(30))} {
		for at := range len(right) {
			for b := range 256 {
				s := withByte(right, at, b)
				want, wantOk := treeOfText(s)
				if got, ok := impl.ReadTree(s); ok != wantOk || !slices.Equal(got.Up, want.Up) {
					t.Errorf("ReadTree(%q) = %v, %v, want %v, %v", s, got, ok, want, wantOk)
				}
			}
		}
	}
}

func TestATextThatIsATreeIsItsText(t *testing.T) {
	for _, s := range []string{"", "0", "0 0", "0 1", "0 1 2 3 4 5 6 7 8 9 10", "0 0 0 0 0 0 0 0 0 0 10 11 10"} {
		tree, ok := impl.ReadTree(s)
		if !ok || impl.TreeText(tree) != s {
			t.Errorf("%q is the tree %v, %v, whose text is %q", s, tree, ok, impl.TreeText(tree))
		}
	}
}

// treeCalls has each function that is given a tree.
func treeCalls() map[string]func(impl.Tree, int) {
	return map[string]func(impl.Tree, int){
		"TreeOk":    func(t impl.Tree, _ int) { impl.TreeOk(t) },
		"KidsOf":    func(t impl.Tree, n int) { spoilNumbers(impl.KidsOf(t, n)) },
		"Depth":     func(t impl.Tree, n int) { impl.Depth(t, n) },
		"IsEdge":    func(t impl.Tree, n int) { impl.IsEdge(t, n) },
		"TreeNodes": func(t impl.Tree, _ int) { spoilNodes(impl.TreeNodes(t)) },
		"TreeText":  func(t impl.Tree, _ int) { impl.TreeText(t) },
	}
}

// spoilNumbers writes into a list, and into the room behind it.
func spoilNumbers(list []int) {
	for i := range list {
		list[i] = -5
	}
	room := list[:cap(list)]
	for i := range room {
		room[i] = -6
	}
}

func spoilNodes(list []impl.Node) {
	for i := range list {
		spoilNumbers(list[i].Kids)
		spoilNode(list[i])
		list[i] = impl.Node{Id: -5}
	}
	_ = append(list, impl.Node{Id: -6})
}

func TestTreesAreNotWrittenInto(t *testing.T) {
	trees := rightTrees()
	for _, wrong := range wrongTrees() {
		trees = append(trees, wrong)
	}
	for _, tree := range trees {
		for name, call := range treeCalls() {
			for _, n := range []int{-1, 0, 1, len(tree.Up) - 1, len(tree.Up)} {
				up := append(slices.Clone(tree.Up), 77, 78)
				want := slices.Clone(up[:cap(up)])
				call(impl.Tree{Up: up[:len(tree.Up)]}, n)
				if !slices.Equal(up[:cap(up)], want) {
					t.Fatalf("%s of %v, %d wrote: %v", name, tree, n, up[:cap(up)])
				}
			}
		}
	}
}

func TestTreeNodesShareNoMemory(t *testing.T) {
	for _, tree := range []impl.Tree{starOf(30), chainOf(30), {Up: []int{-1, 0, 0, 1, 1, 2, 2}}} {
		for spoilt := range tree.Up {
			nodes := impl.TreeNodes(tree)
			spoilNumbers(nodes[spoilt].Kids)
			spoilNode(nodes[spoilt])
			for id, want := range impl.TreeNodes(tree) {
				if id != spoilt && !sameNode(nodes[id], want) {
					t.Errorf("%v: to write into node %d changed node %d: %s", tree, spoilt, id, shown(nodes[id]))
				}
			}
		}
	}
}

func TestTreesThatAreAnsweredAreNew(t *testing.T) {
	for _, s := range []string{"", "0 0 1 1", "x"} {
		first, _ := impl.ReadTree(s)
		want := slices.Clone(first.Up)
		spoilNumbers(first.Up)
		if second, _ := impl.ReadTree(s); !slices.Equal(second.Up, want) {
			t.Errorf("ReadTree(%q) = %v behind a write into what it answered before", s, second)
		}
	}
	tree := starOf(5)
	spoilNumbers(impl.KidsOf(tree, 0))
	if kids := impl.KidsOf(tree, 0); !slices.Equal(kids, []int{1, 2, 3, 4}) {
		t.Errorf("KidsOf = %v behind a write into what it answered before", kids)
	}
}

func TestATextOfATreeSharesNoMemory(t *testing.T) {
	text := strings.Clone("0 0 1 1")
	tree, _ := impl.ReadTree(text)
	if sharesText(text, impl.TreeText(tree)) {
		t.Error("the text that was read is the one that is told")
	}
}
