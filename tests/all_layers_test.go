package tests

import (
	"cmp"
	"fmt"
	"go/ast"
	"go/parser"
	"go/token"
	"maps"
	"math"
	"os"
	"path/filepath"
	"reflect"
	"slices"
	"strings"
	"testing"
	"unsafe"

	"loop.example/g00264/impl"
)

// allFunctions has the functions of all chapters by name.
func allFunctions() map[string]any {
	return map[string]any{
		"PutNum": impl.PutNum, "GetNum": impl.GetNum, "PutText": impl.PutText, "GetText": impl.GetText, "CheckSum": impl.CheckSum,
		"KeyOk": impl.KeyOk, "DecText": impl.DecText, "ReadDec": impl.ReadDec, "Words": impl.Words,
		"BucketOk": impl.BucketOk, "Fill": impl.Fill, "Take": impl.Take, "Until": impl.Until, "TakeAll": impl.TakeAll,
		"PursesOk": impl.PursesOk, "PurseOf": impl.PurseOf, "Mint": impl.Mint, "Gain": impl.Gain, "Part": impl.Part,
		"Spend": impl.Spend, "Unspend": impl.Unspend, "Holding": impl.Holding,
		"MsgOk": impl.MsgOk, "PutMsg": impl.PutMsg, "GetMsg": impl.GetMsg, "MsgText": impl.MsgText, "Frame": impl.Frame, "Unframe": impl.Unframe,
		"NodeOk": impl.NodeOk, "NodeDo": impl.NodeDo, "Pays": impl.Pays, "NodeNew": impl.NodeNew,
		"OpOk": impl.OpOk, "PutOp": impl.PutOp, "GetOp": impl.GetOp, "Write": impl.Write, "Read": impl.Read, "Replay": impl.Replay, "OpText": impl.OpText,
		"KeeperOk": impl.KeeperOk, "KeeperNew": impl.KeeperNew, "KeeperDo": impl.KeeperDo, "KeeperSync": impl.KeeperSync,
		"KeeperCrash": impl.KeeperCrash, "KeeperFold": impl.KeeperFold,
		"TreeOk": impl.TreeOk, "KidsOf": impl.KidsOf, "Depth": impl.Depth, "IsEdge": impl.IsEdge, "TreeNodes": impl.TreeNodes,
		"ReadTree": impl.ReadTree, "TreeText": impl.TreeText,
		"WorldNew": impl.WorldNew, "WorldDo": impl.WorldDo, "WorldRun": impl.WorldRun, "WorldOk": impl.WorldOk, "WorldCalm": impl.WorldCalm,
		"OnWay": impl.OnWay, "Total": impl.Total, "MintedOf": impl.MintedOf, "Balanced": impl.Balanced, "KeysOf": impl.KeysOf,
		"Granted": impl.Granted, "AuditText": impl.AuditText, "Settled": impl.Settled,
		"DemandOk": impl.DemandOk, "DemandAsk": impl.DemandAsk, "DemandTick": impl.DemandTick, "Forecast": impl.Forecast,
		"Lack": impl.Lack, "Surplus": impl.Surplus,
		"ReadOp": impl.ReadOp, "Desk": impl.Desk,
	}
}

// TestNoFunctionIsForgotten reads the names of the exported functions where they are written.
func TestNoFunctionIsForgotten(t *testing.T) {
	files, err := filepath.Glob("../impl/*.go")
	if err != nil || len(files) != 12 {
		t.Fatalf("there are %d layers: %v", len(files), err)
	}
	var names []string
	for _, file := range files {
		text, err := os.ReadFile(file)
		if err != nil {
			t.Fatal(err)
		}
		tree, err := parser.ParseFile(token.NewFileSet(), file, text, 0)
		if err != nil {
			t.Fatal(err)
		}
		for _, decl := range tree.Decls {
			if f, ok := decl.(*ast.FuncDecl); ok && f.Name.IsExported() && f.Recv == nil {
				names = append(names, f.Name.Name)
			}
		}
	}
	slices.Sort(names)
	if known := slices.Sorted(maps.Keys(allFunctions())); !slices.Equal(names, known) {
		t.Errorf("exported are %v, known are %v", names, known)
	}
}

// maker makes arguments of every form that their types allow: right ones, right ones with something changed, and any.
type maker struct {
	chooser
	right map[reflect.Type][]reflect.Value
}

// addRight gives values to choose from.
func addRight[T any](m *maker, list ...T) {
	for _, value := range list {
		v := reflect.ValueOf(value)
		m.right[v.Type()] = append(m.right[v.Type()], v)
	}
}

func newMaker(t *testing.T) *maker {
	t.Helper()
	m := &maker{right: map[reflect.Type][]reflect.Value{}}
	addRight(m, slices.Concat(smallBuckets()[:50], greatBuckets(), wrongBuckets())...)
	addRight(m, slices.Concat(rightLists(), wrongLists())...)
	addRight(m, rightMsgs()...)
	addRight(m, rightOps()...)
	addRight(m, slices.Concat(rightNodes(), wrongNodes())...)
	addRight(m, rightTrees()...)
	addRight(m, byName(wrongTrees())...)
	addRight(m, slices.Concat(rightDemands(), wrongDemands())...)
	addRight(m, slices.Concat(someKeepers(t), byName(wrongKeepers(t))[:30])...)
	addRight(m, append(someWorlds(t), threeNodes())...)
	for at := range 3 {
		addRight(m, doAt(at, mintOf("a", 5)), doAt(at, admitOf(9, "a", 1)), doAt(at, releaseOf(2)), doAt(at, wantOf("a", 1)), impl.Event{Kind: impl.EvCrash, At: at, N: 30})
		for kind := impl.EvSync; kind <= impl.EvSpoil; kind++ {
			addRight(m, impl.Event{Kind: kind, At: at})
		}
	}
	addRight(m, rightTexts(t)...)
	return m
}

// byName has the values of a map in the order of their names, so that the same one is chosen each time.
func byName[T any](named map[string]T) []T {
	var list []T
	for _, name := range slices.Sorted(maps.Keys(named)) {
		list = append(list, named[name])
	}
	return list
}

// rightTexts has texts of each thing that is told by a text.
func rightTexts(t *testing.T) []string {
	t.Helper()
	log, _ := journalOf(t, fewOps())
	full, _ := filledLog(impl.MaxJournal)
	texts := []string{"a", "b", "k0", "key1", "zzzzzzzzzz", "0", "7", "999999999", "0 0 1 2", "0 1 2", log, log[:len(log)-1], log[1:], full, full + "x",
		impl.PutNum(4000000000), impl.PutNum(300) + "rest", impl.PutText("key1") + "rest", impl.PutText(strings.Repeat("t", 1000)),
		storyText(), script(slices.Concat(settled(), views())...), script(crowd()...), "net", "tree 0 0\naudit\n"}
	for i, op := range rightOps() {
		if i%9 == 0 {
			texts = append(texts, impl.PutOp(op), impl.OpText(op), impl.PutMsg(op.Msg), impl.Frame(op.Msg))
		}
	}
	return texts
}

func (m *maker) number() int {
	edges := []int{math.MinInt, math.MinInt + 1, -1 << 32, -most, -2, -1, 0, 1, 2, 3, 5, 6, 7, 8, 16, 29, 30, 31, 40, 127, 128, 255, 256, 300, 1000, 1001, 16384, 65521,
		1000000, most - 1, most, most + 1, 4000000000, 4000000001, 1 << 32, 16 * most, 16*most + 1, math.MaxInt - 1, math.MaxInt}
	if m.below(3) == 0 {
		return m.below(40)
	}
	return edges[m.below(len(edges))]
}

func (m *maker) text() string {
	right := m.right[reflect.TypeFor[string]()]
	switch m.below(8) {
	case 0:
		return ""
	case 1:
		return strings.Repeat(string([]byte{byte(m.below(256))}), []int{1, 2, 10, 11, 1000, 1001, 8000, 8001, 60001}[m.below(9)])
	case 2:
		bytes := make([]byte, m.below(30))
		for i := range bytes {
			bytes[i] = byte(m.below(256))
		}
		return string(bytes)
	case 3:
		text := right[m.below(len(right))].String()
		at := m.below(len(text) + 1)
		return text[:at] + string([]byte{byte(m.below(256))}) + text[min(at+m.below(2), len(text)):]
	}
	return right[m.below(len(right))].String()
}

// length is mostly small, and sometimes beyond what a list may have.
func (m *maker) length() int {
	if m.below(12) == 0 {
		return []int{20, 21, 30, 31, 41, 301, 501}[m.below(7)]
	}
	return m.below(5)
}

// value makes one of a type. Deeper down lists are shorter, so that a world of any nodes comes to an end.
func (m *maker) value(of reflect.Type, depth int) reflect.Value {
	right := m.right[of]
	if len(right) > 0 && m.below(4) > 0 && of.Kind() != reflect.String {
		v := copied(right[m.below(len(right))])
		for range []int{0, 1, 1, 2, 5}[m.below(5)] {
			m.change(v, depth)
		}
		return v
	}
	v := reflect.New(of).Elem()
	switch of.Kind() {
	case reflect.Int:
		v.SetInt(int64(m.number()))
	case reflect.Uint32:
		v.SetUint(uint64(m.below(math.MaxInt32)))
	case reflect.Bool:
		v.SetBool(m.below(2) == 0)
	case reflect.String:
		v.SetString(strings.Clone(m.text()))
	case reflect.Struct:
		for i := range of.NumField() {
			v.Field(i).Set(m.value(of.Field(i).Type, depth+1))
		}
	case reflect.Slice:
		length := m.length()
		if depth > 1 || of.Elem().Kind() == reflect.Struct && of.Elem().NumField() > 5 {
			length = min(length, 3)
		}
		for range length {
			v.Set(reflect.Append(v, m.value(of.Elem(), depth+1)))
		}
		addRoom(v)
	default:
		panic("a type that the functions do not have: " + of.String())
	}
	return v
}

// change puts another value at one place of v.
func (m *maker) change(v reflect.Value, depth int) {
	switch {
	case v.Kind() == reflect.Struct:
		m.change(v.Field(m.below(v.NumField())), depth+1)
	case v.Kind() == reflect.Slice && v.Len() > 0 && m.below(3) > 0:
		m.change(v.Index(m.below(v.Len())), depth+1)
	case v.Kind() == reflect.Slice && v.Len() > 0:
		v.SetLen(m.below(v.Len()))
	default:
		v.Set(m.value(v.Type(), depth+1))
	}
}

// addRoom lays a list into memory of its own with two values of any kind behind it. Nil is left as it is.
func addRoom(v reflect.Value) {
	if v.IsNil() {
		return
	}
	length := v.Len()
	room := reflect.MakeSlice(v.Type(), length+2, length+2)
	reflect.Copy(room, v)
	for at := length; at < length+2; at++ {
		room.Index(at).Set(filled(v.Type().Elem()))
	}
	v.Set(room.Slice(0, length))
}

// filled is a value that is not the zero value, without lists.
func filled(of reflect.Type) reflect.Value {
	v := reflect.New(of).Elem()
	switch of.Kind() {
	case reflect.Int:
		v.SetInt(77)
	case reflect.String:
		v.SetString("room")
	case reflect.Struct:
		for i := range of.NumField() {
			if of.Field(i).Type.Kind() != reflect.Slice {
				v.Field(i).Set(filled(of.Field(i).Type))
			}
		}
	}
	return v
}

// copied has the same value in memory of its own, with room behind each list.
func copied(v reflect.Value) reflect.Value {
	out := reflect.New(v.Type()).Elem()
	switch v.Kind() {
	case reflect.String:
		out.SetString(strings.Clone(v.String()))
	case reflect.Struct:
		for i := range v.NumField() {
			out.Field(i).Set(copied(v.Field(i)))
		}
	case reflect.Slice:
		for i := range v.Len() {
			out.Set(reflect.Append(out, copied(v.Index(i))))
		}
		addRoom(out)
	default:
		out.Set(v)
	}
	return out
}

// opened is a copy of a value in which each list has what lies behind it, too.
func opened(v reflect.Value) reflect.Value {
	out := reflect.New(v.Type()).Elem()
	switch v.Kind() {
	case reflect.String:
		out.SetString(strings.Clone(v.String()))
	case reflect.Struct:
		for i := range v.NumField() {
			out.Field(i).Set(opened(v.Field(i)))
		}
	case reflect.Slice:
		whole := v.Slice(0, v.Cap())
		list := reflect.MakeSlice(v.Type(), whole.Len(), whole.Len())
		for i := range whole.Len() {
			list.Index(i).Set(opened(whole.Index(i)))
		}
		out.Set(list)
	default:
		out.Set(v)
	}
	return out
}

// isAlike holds two values against each other; nil and an empty list are the same.
func isAlike(a, b reflect.Value) bool {
	switch a.Kind() {
	case reflect.Struct:
		for i := range a.NumField() {
			if !isAlike(a.Field(i), b.Field(i)) {
				return false
			}
		}
		return true
	case reflect.Slice:
		if a.Len() != b.Len() {
			return false
		}
		for i := range a.Len() {
			if !isAlike(a.Index(i), b.Index(i)) {
				return false
			}
		}
		return true
	}
	return a.Interface() == b.Interface()
}

// stretch is a piece of memory in which a list or a text lies.
type stretch struct {
	from, to uintptr
	given    bool
	isText   bool
}

func stretchesOf(v reflect.Value, given bool, list []stretch) []stretch {
	switch v.Kind() {
	case reflect.String:
		if s := v.String(); s != "" {
			from := uintptr(unsafe.Pointer(unsafe.StringData(s)))
			list = append(list, stretch{from, from + uintptr(len(s)), given, true})
		}
	case reflect.Struct:
		for i := range v.NumField() {
			list = stretchesOf(v.Field(i), given, list)
		}
	case reflect.Slice:
		if v.Cap() > 0 {
			list = append(list, stretch{v.Pointer(), v.Pointer() + uintptr(v.Cap())*v.Type().Elem().Size(), given, false})
		}
		for i := range v.Len() {
			list = stretchesOf(v.Index(i), given, list)
		}
	}
	return list
}

// shared tells of memory that an answer has in common with an argument, or two lists of it with each other.
func shared(given, answered []reflect.Value) bool {
	var list []stretch
	for _, v := range given {
		list = stretchesOf(v, true, list)
	}
	for _, v := range answered {
		list = stretchesOf(v, false, list)
	}
	slices.SortFunc(list, func(a, b stretch) int { return cmp.Compare(a.from, b.from) })
	for i, a := range list {
		for _, b := range list[i+1:] {
			if b.from >= a.to {
				break
			}
			if a.given != b.given || !a.given && !(a.isText && b.isText) {
				return true
			}
		}
	}
	return false
}

func shownValues(list []reflect.Value) string {
	text := ""
	for _, v := range list {
		text += fmt.Sprintf(" %.1500q", fmt.Sprintf("%+v", v.Interface()))
	}
	return text
}

// called tells what a function answers, or with what it panics.
func called(f reflect.Value, given []reflect.Value) (answered []reflect.Value, panicked any) {
	defer func() { panicked = recover() }()
	return f.Call(given), nil
}

// checkCall asks a function twice: it answers both times alike, writes into nothing, and its answer is new memory.
func checkCall(t *testing.T, name string, f reflect.Value, given []reflect.Value) {
	t.Helper()
	before := make([]reflect.Value, len(given))
	for i, v := range given {
		before[i] = opened(v)
	}
	first, panicked := called(f, given)
	if panicked != nil {
		t.Fatalf("%s panics with %v, of%s", name, panicked, shownValues(given))
	}
	again, _ := called(f, given)
	for i, v := range given {
		if !reflect.DeepEqual(opened(v).Interface(), before[i].Interface()) {
			t.Fatalf("%s writes into argument %d, or behind it, of%s", name, i, shownValues(before))
		}
	}
	for i := range first {
		if !isAlike(first[i], again[i]) {
			t.Fatalf("%s answers%s first and%s then, of%s", name, shownValues(first), shownValues(again), shownValues(given))
		}
	}
	if shared(given, first) {
		t.Fatalf("%s answers%s with memory that is shared, of%s", name, shownValues(first), shownValues(given))
	}
}

// timesOf tells how often a function is asked: those that go through worlds seldom, since they take long.
func timesOf(f reflect.Type) int {
	for i := range f.NumIn() {
		switch f.In(i) {
		case reflect.TypeFor[impl.World](), reflect.TypeFor[[]impl.Event]():
			return 150
		case reflect.TypeFor[impl.Keeper](), reflect.TypeFor[impl.Node]():
			return 800
		}
	}
	return 3000
}

func TestEveryFunctionAnswersAtAnyArguments(t *testing.T) {
	functions := allFunctions()
	m := newMaker(t)
	for at, name := range slices.Sorted(maps.Keys(functions)) {
		m.state = uint32(at)*2654435761 + 11
		f := reflect.ValueOf(functions[name])
		for range timesOf(f.Type()) {
			var given []reflect.Value
			for i := range f.Type().NumIn() {
				given = append(given, m.value(f.Type().In(i), 0))
			}
			checkCall(t, name, f, given)
		}
	}
}

// TestArgumentsThatShareMemory has the same lists at several places of one argument: in the answer each is one of its own.
func TestArgumentsThatShareMemory(t *testing.T) {
	k := impl.Keeper{Base: cloneNode(onTop()), Asked: halfSafe(t).Asked, Wait: halfSafe(t).Wait}
	k.Node = k.Base
	events := []impl.Event{doAt(0, mintOf("a", 5)), syncAt(1), doAt(1, impl.Op{Kind: impl.OpTick}), syncAt(1), {Kind: impl.EvFold, At: 2}, {Kind: impl.EvCrash, At: 2}}
	w := impl.World{Tree: starOf(3), Keepers: []impl.Keeper{k, k, k}, Net: framesOf(3)}
	w.Tree.Up = w.Keepers[0].Node.Kids
	values := map[reflect.Type]any{
		reflect.TypeFor[impl.Node](): k.Node, reflect.TypeFor[impl.Keeper](): k, reflect.TypeFor[impl.World](): w, reflect.TypeFor[[]impl.Event](): events,
		reflect.TypeFor[impl.Op](): mintOf("a", 5), reflect.TypeFor[impl.Event](): events[0], reflect.TypeFor[impl.Tree](): starOf(3),
		reflect.TypeFor[[]impl.Purse](): k.Node.Purses, reflect.TypeFor[string](): "a", reflect.TypeFor[int](): 1,
	}
	for name, function := range allFunctions() {
		f := reflect.ValueOf(function)
		var given []reflect.Value
		for i := range f.Type().NumIn() {
			if value, ok := values[f.Type().In(i)]; ok {
				given = append(given, reflect.ValueOf(value))
			}
		}
		if len(given) == f.Type().NumIn() {
			checkCall(t, name, f, given)
		}
	}
	for _, e := range events {
		checkCall(t, "WorldDo", reflect.ValueOf(impl.WorldDo), []reflect.Value{reflect.ValueOf(w), reflect.ValueOf(e)})
	}
}

// TestEveryFunctionAnswersAtNothing has the zero value for each argument.
func TestEveryFunctionAnswersAtNothing(t *testing.T) {
	for name, function := range allFunctions() {
		f := reflect.ValueOf(function)
		var given []reflect.Value
		for i := range f.Type().NumIn() {
			given = append(given, reflect.Zero(f.Type().In(i)))
		}
		checkCall(t, name, f, given)
	}
}

// TestFunctionsOfNumbersAndTexts puts each edge of a number beside each text, for all functions that take nothing else.
func TestFunctionsOfNumbersAndTexts(t *testing.T) {
	numbers := append(noAmounts(), 0, 1, 2, 7, 999, 1000, 1001, 999999999, most, 4000000000, 4000000001, 1<<63-2)
	texts := append(rightTexts(t), "", " ", "\n", "\x00", "\xff", "\x80", "\x80\x80\x80\x80\x80\x80\x80\x80\x80\x80\x01", strings.Repeat("\xff", 50), strings.Repeat(" ", 2000))
	for name, function := range allFunctions() {
		f := reflect.ValueOf(function)
		var pools [][]reflect.Value
		for i := range f.Type().NumIn() {
			var pool []reflect.Value
			switch f.Type().In(i).Kind() {
			case reflect.Int:
				for _, n := range numbers {
					pool = append(pool, reflect.ValueOf(n))
				}
			case reflect.String:
				for _, text := range texts {
					pool = append(pool, reflect.ValueOf(strings.Clone(text)))
				}
			}
			pools = append(pools, pool)
		}
		switch len(pools) {
		case 1:
			for _, v := range pools[0] {
				checkCall(t, name, f, []reflect.Value{v})
			}
		case 2:
			for _, v := range pools[0] {
				for _, u := range pools[1] {
					checkCall(t, name, f, []reflect.Value{v, u})
				}
			}
		}
	}
}
