package tests

import (
	"math"
	"slices"
	"strings"
	"testing"
	"unsafe"

	"loop.example/g00330/impl"
)

func set(key string, num int) impl.Cmd {
	return impl.Cmd{Kind: impl.CmdSet, Key: key, Num: num}
}

func add(key string, num int) impl.Cmd {
	return impl.Cmd{Kind: impl.CmdAdd, Key: key, Num: num}
}

func take(key string, num int) impl.Cmd {
	return impl.Cmd{Kind: impl.CmdTake, Key: key, Num: num}
}

// cellsWith has so many accounts, from key b on: what is ahead of them, behind them and (with two letters) between them is free.
func cellsWith(size int) []impl.Cell {
	var list []impl.Cell
	for i := range size {
		list = append(list, impl.Cell{Key: string([]byte{byte('b' + i)}), Num: 10 * i})
	}
	return list
}

func rightKeys() []string {
	keys := []string{"a", "m", "z", "aa", "az", "za", "zz", "aaa", "abc", "zzz"}
	for b := byte('a'); b <= 'z'; b++ {
		keys = append(keys, string([]byte{b}), string([]byte{b, 'q'}), string([]byte{'q', 'q', b}))
	}
	return keys
}

func wrongKeys() []string {
	keys := []string{"", "aaaa", "abcd", "zzzzz", strings.Repeat("a", 300), strings.Repeat("a", impl.MaxText+1), "\xc3\xa4", "a b"}
	for b := range 256 {
		if b < 'a' || b > 'z' {
			one := string([]byte{byte(b)})
			keys = append(keys, one, one+"a", "a"+one, one+"aa", "a"+one+"a", "aa"+one)
		}
	}
	return keys
}

func rightLists() [][]impl.Cell {
	return [][]impl.Cell{
		nil,
		{},
		{{Key: "a"}},
		{{Key: "zzz", Num: impl.MaxNumber}},
		{{Key: "a", Num: 1}, {Key: "b", Num: 2}},
		{{Key: "a", Num: 5}, {Key: "aa", Num: 4}, {Key: "aaa", Num: 3}, {Key: "aab"}, {Key: "ab", Num: impl.MaxNumber}, {Key: "b"}},
		{{Key: "b", Num: 127}, {Key: "c", Num: 128}, {Key: "cat", Num: 300}},
		cellsWith(impl.MaxCells - 1),
		cellsWith(impl.MaxCells),
	}
}

func wrongLists() [][]impl.Cell {
	lists := [][]impl.Cell{
		{{Key: "b"}, {Key: "a"}},
		{{Key: "a", Num: 1}, {Key: "a", Num: 2}},
		{{Key: "a", Num: 1}, {Key: "a", Num: 1}},
		{{Key: "aa"}, {Key: "a"}},
		{{Key: "a"}, {Key: "b"}, {Key: "d"}, {Key: "c"}},
		{{Key: "a"}, {Key: "b"}, {Key: "c"}, {Key: "c"}},
		{{Key: "c"}, {Key: "a"}, {Key: "b"}},
		cellsWith(impl.MaxCells + 1),
		cellsWith(impl.MaxCells + 5),
		append(cellsWith(impl.MaxCells), impl.Cell{Key: "b"}),
	}
	for _, key := range wrongKeys() {
		lists = append(lists, []impl.Cell{{Key: key}})
	}
	for _, key := range []string{"zzzz", "z~", "~"} {
		lists = append(lists, []impl.Cell{{Key: "a"}, {Key: key}})
	}
	for _, key := range []string{"", "A", "0"} {
		lists = append(lists, []impl.Cell{{Key: key}, {Key: "a"}})
	}
	for _, num := range wrongNumbers() {
		lists = append(lists, []impl.Cell{{Key: "a", Num: num}}, []impl.Cell{{Key: "a"}, {Key: "b", Num: num}}, []impl.Cell{{Key: "a", Num: num}, {Key: "b"}})
	}
	return lists
}

func rightCmds() []impl.Cmd {
	var cmds []impl.Cmd
	for _, key := range []string{"a", "b", "bb", "c", "m", "mm", "n", "zz", "zzz"} {
		for _, num := range []int{0, 1, 10, 11, impl.MaxNumber - 1, impl.MaxNumber} {
			cmds = append(cmds, set(key, num), add(key, num), take(key, num))
		}
	}
	return cmds
}

func wrongCmds() []impl.Cmd {
	cmds := []impl.Cmd{{}, {Key: "a", Num: 1}}
	for _, kind := range []int{0, -1, -3, 4, 5, 9, 257, math.MaxInt, math.MinInt} {
		cmds = append(cmds, impl.Cmd{Kind: kind, Key: "b", Num: 1})
	}
	for _, kind := range []int{impl.CmdSet, impl.CmdAdd, impl.CmdTake} {
		for _, key := range wrongKeys() {
			cmds = append(cmds, impl.Cmd{Kind: kind, Key: key, Num: 1})
		}
		for _, num := range wrongNumbers() {
			cmds = append(cmds, impl.Cmd{Kind: kind, Key: "b", Num: num})
		}
	}
	return cmds
}

// plainDone is the chapter's own words, on the list itself.
func plainDone(list []impl.Cell, c impl.Cmd) ([]impl.Cell, int) {
	same := slices.Clone(list)
	if !impl.CellsOk(list) || !impl.CmdOk(c) {
		return same, impl.ErrOver
	}
	at := impl.CellAt(list, c.Key)
	if c.Kind != impl.CmdSet && at < 0 {
		return same, impl.ErrNone
	}
	num := c.Num
	if c.Kind == impl.CmdAdd {
		num = list[at].Num + c.Num
	} else if c.Kind == impl.CmdTake {
		num = list[at].Num - c.Num
	}
	if num < 0 || num > impl.MaxNumber || at < 0 && len(list) == impl.MaxCells {
		return same, impl.ErrOver
	}
	if at < 0 {
		at = 0
		for at < len(list) && list[at].Key < c.Key {
			at++
		}
		same = slices.Insert(same, at, impl.Cell{Key: c.Key})
	}
	same[at].Num = num
	return same, 0
}

func holdDone(t *testing.T, list []impl.Cell, c impl.Cmd, want []impl.Cell, code int) {
	t.Helper()
	if got, told := impl.Done(list, c); told != code || !slices.Equal(got, want) {
		t.Errorf("Done(%.300v, %.40v) = %.300v, %d, want %.300v, %d", list, c, got, told, want, code)
	}
}

func TestCellConstants(t *testing.T) {
	if impl.CmdSet != 1 || impl.CmdAdd != 2 || impl.CmdTake != 3 || impl.ErrNone != 1 || impl.ErrOver != 2 || impl.MaxCells != 12 {
		t.Error("a constant is not the document's")
	}
}

func TestKeyOk(t *testing.T) {
	for _, key := range rightKeys() {
		if !impl.KeyOk(key) {
			t.Errorf("KeyOk(%q) is false", key)
		}
	}
	for _, key := range wrongKeys() {
		if impl.KeyOk(key) {
			t.Errorf("KeyOk(%.20q) is true", key)
		}
	}
}

func TestCmdOk(t *testing.T) {
	for _, c := range rightCmds() {
		if !impl.CmdOk(c) {
			t.Errorf("CmdOk(%v) is false", c)
		}
	}
	for _, key := range rightKeys() {
		if !impl.CmdOk(set(key, 0)) || !impl.CmdOk(add(key, 1)) || !impl.CmdOk(take(key, impl.MaxNumber)) {
			t.Errorf("CmdOk of a command of %q is false", key)
		}
	}
	for _, c := range wrongCmds() {
		if impl.CmdOk(c) {
			t.Errorf("CmdOk(%.40v) is true", c)
		}
	}
}

func TestCellsOk(t *testing.T) {
	for _, list := range rightLists() {
		if !impl.CellsOk(list) {
			t.Errorf("CellsOk(%v) is false", list)
		}
	}
	for _, list := range wrongLists() {
		if impl.CellsOk(list) {
			t.Errorf("CellsOk(%.60v) is true", list)
		}
	}
}

func TestCellAt(t *testing.T) {
	twice := []impl.Cell{{Key: "b", Num: 1}, {Key: "a", Num: 2}, {Key: "b", Num: 3}, {Key: "", Num: -4}, {Key: "LONG", Num: 5}, {Key: "a", Num: 6}}
	for key, want := range map[string]int{"b": 0, "a": 1, "": 3, "LONG": 4, "c": -1, "aa": -1, "B": -1, "long": -1, "LON": -1} {
		if got := impl.CellAt(twice, key); got != want {
			t.Errorf("CellAt of %q, in a list with some twice, = %d, want %d", key, got, want)
		}
	}
	for _, list := range rightLists() {
		for at, cell := range list {
			if got := impl.CellAt(list, cell.Key); got != at {
				t.Errorf("CellAt(%v, %q) = %d, want %d", list, cell.Key, got, at)
			}
		}
		for _, key := range []string{"", "zz", "q", "bb", "aaaa"} {
			if got := impl.CellAt(list, key); got != -1 {
				t.Errorf("CellAt(%v, %q) = %d, want -1", list, key, got)
			}
		}
	}
}

func TestDoneOfSet(t *testing.T) {
	b, d := impl.Cell{Key: "b", Num: 5}, impl.Cell{Key: "d", Num: 7}
	list := []impl.Cell{b, d}
	for _, num := range []int{0, 1, 5, impl.MaxNumber} {
		holdDone(t, nil, set("x", num), []impl.Cell{{Key: "x", Num: num}}, 0)
		holdDone(t, list, set("b", num), []impl.Cell{{Key: "b", Num: num}, d}, 0)
		holdDone(t, list, set("d", num), []impl.Cell{b, {Key: "d", Num: num}}, 0)
		holdDone(t, list, set("a", num), []impl.Cell{{Key: "a", Num: num}, b, d}, 0)
		holdDone(t, list, set("bb", num), []impl.Cell{b, {Key: "bb", Num: num}, d}, 0)
		holdDone(t, list, set("c", num), []impl.Cell{b, {Key: "c", Num: num}, d}, 0)
		holdDone(t, list, set("da", num), []impl.Cell{b, d, {Key: "da", Num: num}}, 0)
	}
}

func TestDoneOfAddAndTake(t *testing.T) {
	b, d := impl.Cell{Key: "b", Num: 5}, impl.Cell{Key: "d", Num: impl.MaxNumber - 3}
	list := []impl.Cell{b, d}
	for _, c := range []struct {
		cmd      impl.Cmd
		ofB, ofD int
	}{
		{add("b", 0), 5, d.Num}, {add("b", 1), 6, d.Num}, {add("b", impl.MaxNumber-5), impl.MaxNumber, d.Num},
		{add("d", 0), 5, d.Num}, {add("d", 2), 5, impl.MaxNumber - 1}, {add("d", 3), 5, impl.MaxNumber},
		{take("b", 0), 5, d.Num}, {take("b", 4), 1, d.Num}, {take("b", 5), 0, d.Num},
		{take("d", 1), 5, d.Num - 1}, {take("d", impl.MaxNumber-3), 5, 0},
	} {
		holdDone(t, list, c.cmd, []impl.Cell{{Key: "b", Num: c.ofB}, {Key: "d", Num: c.ofD}}, 0)
	}
	for _, c := range []impl.Cmd{
		take("b", 6), take("b", impl.MaxNumber), take("d", impl.MaxNumber-2), take("d", impl.MaxNumber),
		add("b", impl.MaxNumber-4), add("b", impl.MaxNumber), add("d", 4), add("d", impl.MaxNumber),
	} {
		holdDone(t, list, c, list, impl.ErrOver)
	}
}

// An account that came to 0 is there still: it takes its room, and may be added to.
func TestDoneKeepsAnAccountOfNothing(t *testing.T) {
	list, _ := impl.Done([]impl.Cell{{Key: "a", Num: 2}}, take("a", 2))
	holdDone(t, list, add("a", 9), []impl.Cell{{Key: "a", Num: 9}}, 0)
	holdDone(t, list, take("a", 0), []impl.Cell{{Key: "a"}}, 0)
	holdDone(t, list, take("a", 1), []impl.Cell{{Key: "a"}}, impl.ErrOver)
	full := cellsWith(impl.MaxCells)
	full, _ = impl.Done(full, set("c", 0))
	holdDone(t, full, set("a", 1), full, impl.ErrOver)
}

func TestDoneWithoutTheAccount(t *testing.T) {
	for _, list := range rightLists() {
		for _, key := range []string{"ac", "q", "zz", "bb"} {
			for _, num := range []int{0, 1, impl.MaxNumber} {
				holdDone(t, list, add(key, num), list, impl.ErrNone)
				holdDone(t, list, take(key, num), list, impl.ErrNone)
			}
		}
	}
}

func TestDoneOfAFullList(t *testing.T) {
	full := cellsWith(impl.MaxCells)
	for _, key := range []string{"a", "bb", "ff", "ma", "n", "zzz"} {
		holdDone(t, full, set(key, 1), full, impl.ErrOver)
		holdDone(t, full, set(key, 0), full, impl.ErrOver)
	}
	for at, cell := range full {
		want := slices.Clone(full)
		want[at].Num = impl.MaxNumber
		holdDone(t, full, set(cell.Key, impl.MaxNumber), want, 0)
		want[at].Num = cell.Num + 3
		holdDone(t, full, add(cell.Key, 3), want, 0)
		want[at].Num = 0
		holdDone(t, full, take(cell.Key, cell.Num), want, 0)
	}
	for _, key := range []string{"a", "ff", "zzz"} {
		almost := full[:impl.MaxCells-1]
		want := append(slices.Clone(almost), impl.Cell{Key: key, Num: 8})
		slices.SortFunc(want, func(x, y impl.Cell) int { return strings.Compare(x.Key, y.Key) })
		holdDone(t, almost, set(key, 8), want, 0)
	}
}

func TestDoneOfWrongCommands(t *testing.T) {
	for _, c := range wrongCmds() {
		for _, list := range [][]impl.Cell{nil, {{Key: "a"}}, {{Key: "b", Num: 5}}, cellsWith(impl.MaxCells)} {
			holdDone(t, list, c, list, impl.ErrOver)
		}
	}
}

// A list that is not right is answered as it was handed in, its order and its doubles too.
func TestDoneOfWrongLists(t *testing.T) {
	for _, list := range wrongLists() {
		for _, c := range []impl.Cmd{set("a", 1), set("q", 2), add("a", 0), add("a", 1), take("a", 0), take("q", 1), {}, set("A", 1)} {
			holdDone(t, list, c, list, impl.ErrOver)
		}
	}
}

func TestDoneByTheWords(t *testing.T) {
	for _, list := range append(rightLists(), wrongLists()...) {
		for _, c := range rightCmds() {
			want, code := plainDone(list, c)
			holdDone(t, list, c, want, code)
		}
	}
}

func someRows() [][]impl.Cmd {
	many := rightCmds()
	mixed := slices.Concat(wrongCmds()[:12], many, []impl.Cmd{{Kind: 9}}, many)
	back := slices.Clone(many)
	slices.Reverse(back)
	var fill []impl.Cmd
	for b := byte('z'); b >= 'a'; b-- {
		fill = append(fill, set(string([]byte{b}), int(b)), add(string([]byte{b}), 1), take("z", 50))
	}
	return [][]impl.Cmd{
		nil, {}, {set("a", 1)}, {add("a", 1)}, {take("a", 1)}, {{}},
		{set("b", 5), set("a", 1), take("b", 2), add("c", 1), take("a", 2)},
		{add("a", 1), set("a", 1), add("a", 1), take("a", 2), take("a", 1), set("a", 0), add("a", impl.MaxNumber), add("a", 1)},
		many, mixed, back, fill,
	}
}

func TestDoneAllIsDoneOfEach(t *testing.T) {
	for _, list := range append(rightLists(), wrongLists()[:30]...) {
		for _, cmds := range someRows() {
			want, codes := slices.Clone(list), []int{}
			plain := slices.Clone(list)
			for _, c := range cmds {
				var code, plainCode int
				want, code = impl.Done(want, c)
				plain, plainCode = plainDone(plain, c)
				if code != plainCode || !slices.Equal(want, plain) {
					t.Fatalf("Done of %v = %v, %d, want %v, %d", c, want, code, plain, plainCode)
				}
				codes = append(codes, code)
			}
			got, told := impl.DoneAll(list, cmds)
			if !slices.Equal(got, want) || !slices.Equal(told, codes) {
				t.Errorf("DoneAll(%.60v, %d commands) = %v, %v, want %v, %v", list, len(cmds), got, told, want, codes)
			}
			if impl.CellsOk(got) != impl.CellsOk(list) {
				t.Errorf("DoneAll(%.60v, %d commands) = %v: right is not what it was", list, len(cmds), got)
			}
		}
	}
}

func TestDoneAllTells(t *testing.T) {
	cmds := []impl.Cmd{set("b", 5), set("a", 1), take("b", 2), add("c", 1), take("a", 2), {Kind: 4, Key: "a"}, add("a", impl.MaxNumber), add("a", impl.MaxNumber-1), take("b", 3)}
	got, codes := impl.DoneAll(nil, cmds)
	if !slices.Equal(got, []impl.Cell{{Key: "a", Num: impl.MaxNumber}, {Key: "b"}}) {
		t.Errorf("DoneAll answers %v", got)
	}
	if !slices.Equal(codes, []int{0, 0, 0, impl.ErrNone, impl.ErrOver, impl.ErrOver, impl.ErrOver, 0, 0}) {
		t.Errorf("DoneAll tells %v", codes)
	}
}

func TestCellsTextBytes(t *testing.T) {
	for _, c := range []struct {
		list []impl.Cell
		want string
	}{
		{nil, ""},
		{[]impl.Cell{{Key: "a"}}, "\x01a\x00"},
		{[]impl.Cell{{Key: "a", Num: 1}, {Key: "b", Num: 3}}, "\x01a\x01\x01b\x03"},
		{[]impl.Cell{{Key: "ab", Num: 300}, {Key: "abc", Num: 127}, {Key: "b", Num: 128}}, "\x02ab\xac\x02\x03abc\x7f\x01b\x80\x01"},
		{[]impl.Cell{{Key: "zzz", Num: impl.MaxNumber}}, "\x03zzz\x80\x94\xeb\xdc\x03"},
	} {
		if got := impl.CellsText(c.list); got != c.want {
			t.Errorf("CellsText(%v) = %q, want %q", c.list, got, c.want)
		}
	}
}

func TestCellsTextIsTheTextOfEach(t *testing.T) {
	for _, list := range rightLists() {
		want := ""
		for _, cell := range list {
			key, _ := impl.ShortText(cell.Key)
			num, _ := impl.VarText(cell.Num)
			want += key + num
		}
		if got := impl.CellsText(list); got != want {
			t.Errorf("CellsText(%v) = %q, want %q", list, got, want)
		}
	}
	for _, list := range wrongLists() {
		if got := impl.CellsText(list); got != "" {
			t.Errorf("CellsText(%.60v) = %q", list, got)
		}
	}
}

// withRoom lays a list ahead of spare room whose contents are known.
func withRoom(list []impl.Cell) (whole, front []impl.Cell) {
	whole = slices.Clone(list)
	for range 3 {
		whole = append(whole, impl.Cell{Key: "room", Num: -7})
	}
	return whole, whole[:len(list)]
}

// soil writes over all that an answer has, its spare room too.
func soil(list []impl.Cell) {
	all := list[:cap(list)]
	for i := range all {
		all[i] = impl.Cell{Key: "soil", Num: -9}
	}
}

func TestCellsArgumentsStay(t *testing.T) {
	for _, list := range append(rightLists(), wrongLists()[:30]...) {
		for _, cmds := range someRows() {
			whole, front := withRoom(list)
			was, asked := slices.Clone(whole), slices.Clone(cmds)
			got, codes := impl.DoneAll(front, cmds)
			soil(got)
			for i := range codes {
				codes[i] = -1
			}
			for _, c := range cmds[:min(len(cmds), 5)] {
				one, _ := impl.Done(front, c)
				soil(one)
			}
			impl.CellsOk(front)
			impl.CellAt(front, "b")
			impl.CellsText(front)
			if !slices.Equal(whole, was) || !slices.Equal(cmds, asked) {
				t.Fatalf("an argument is changed: %v, was %v", whole, was)
			}
		}
	}
}

func TestDoneAnswersNewKeys(t *testing.T) {
	lists := [][]impl.Cell{
		{{Key: strings.Clone("ab"), Num: 1}, {Key: strings.Clone("abc"), Num: 2}},
		{{Key: strings.Clone("wrong"), Num: 1}, {Key: strings.Clone("list"), Num: 2}},
	}
	for _, list := range lists {
		c := set(strings.Clone("xyz"), 3)
		got, _ := impl.Done(list, c)
		for _, cell := range got {
			for _, old := range append([]impl.Cell{{Key: c.Key}}, list...) {
				if unsafe.StringData(cell.Key) == unsafe.StringData(old.Key) {
					t.Errorf("the key %q that is answered is the argument's memory", cell.Key)
				}
			}
		}
	}
}

// A map is gone through in any order; what is told is the same each time.
func TestDoneIsTheSameEachTime(t *testing.T) {
	rows := someRows()
	cmds := rows[len(rows)-1]
	first, codes := impl.DoneAll(nil, cmds)
	if len(first) != impl.MaxCells {
		t.Fatalf("%d accounts, want a full list", len(first))
	}
	for range 200 {
		if got, told := impl.DoneAll(nil, cmds); !slices.Equal(got, first) || !slices.Equal(told, codes) {
			t.Fatalf("DoneAll answers %v, %v, and before %v, %v", got, told, first, codes)
		}
	}
}
