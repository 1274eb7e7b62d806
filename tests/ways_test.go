package tests

import (
	"go/ast"
	"go/parser"
	"go/token"
	"path/filepath"
	"strings"
	"testing"
)

// allowedImports is the list of the language page.
const allowedImports = " bytes cmp container/heap errors iter maps math math/bits slices sort strconv strings sync sync/atomic unicode unicode/utf8 "

// longestFunction is what the language page means by some 60 lines.
const longestFunction = 60

func parsedFile(t *testing.T, files *token.FileSet, path string) *ast.File {
	t.Helper()
	f, err := parser.ParseFile(files, path, nil, parser.ParseComments)
	if err != nil {
		t.Fatal(err)
	}
	return f
}

// usesIn counts how often a name is used in a file.
func usesIn(f *ast.File, name string) int {
	count := 0
	ast.Inspect(f, func(n ast.Node) bool {
		if id, ok := n.(*ast.Ident); ok && id.Name == name {
			count++
		}
		return true
	})
	return count
}

// callsIn counts the calls of a name: of a type's, its conversions.
func callsIn(f *ast.File, name string) int {
	count := 0
	ast.Inspect(f, func(n ast.Node) bool {
		if call, ok := n.(*ast.CallExpr); ok {
			if id, ok := call.Fun.(*ast.Ident); ok && id.Name == name {
				count++
			}
		}
		return true
	})
	return count
}

func TestWaysOfMotion(t *testing.T) {
	f := parsedFile(t, token.NewFileSet(), "../impl/l01_motion.go")
	if usesIn(f, "iota") == 0 {
		t.Error("no constants with iota")
	}
	if callsIn(f, "uint64") == 0 || callsIn(f, "int64") == 0 {
		t.Error("sizes are not unsigned by conversions")
	}
}

// comparesOwn tells whether a function holds one of its arguments of that type
// whole against another value.
func comparesOwn(fn *ast.FuncDecl, typeName string) bool {
	own := map[string]bool{}
	for _, p := range fn.Type.Params.List {
		if id, ok := p.Type.(*ast.Ident); ok && id.Name == typeName {
			for _, name := range p.Names {
				own[name.Name] = true
			}
		}
	}
	found := false
	ast.Inspect(fn, func(n ast.Node) bool {
		if b, ok := n.(*ast.BinaryExpr); ok && (b.Op == token.EQL || b.Op == token.NEQ) {
			if id, ok := b.X.(*ast.Ident); ok && own[id.Name] {
				found = true
			}
		}
		return true
	})
	return found
}

// rangesOverField tells whether a function ranges over what is reckoned from
// that number of a struct.
func rangesOverField(fn *ast.FuncDecl, field string) bool {
	found := false
	ast.Inspect(fn, func(n ast.Node) bool {
		if r, ok := n.(*ast.RangeStmt); ok {
			ast.Inspect(r.X, func(n ast.Node) bool {
				if s, ok := n.(*ast.SelectorExpr); ok && s.Sel.Name == field {
					found = true
				}
				return true
			})
		}
		return true
	})
	return found
}

func TestWaysOfTheHouse(t *testing.T) {
	f := parsedFile(t, token.NewFileSet(), "../impl/l02_plan.go")
	isCompared, isRanged := false, false
	for _, d := range f.Decls {
		if fn, ok := d.(*ast.FuncDecl); ok {
			isCompared = isCompared || comparesOwn(fn, "House")
			isRanged = isRanged || rangesOverField(fn, "Floors")
		}
	}
	if !isCompared {
		t.Error("no house is compared")
	}
	if !isRanged {
		t.Error("floors are not ranged over as integers")
	}
}

// interfacesIn are the names of a file's interfaces that have methods.
func interfacesIn(f *ast.File) map[string]bool {
	names := map[string]bool{}
	ast.Inspect(f, func(n ast.Node) bool {
		if spec, ok := n.(*ast.TypeSpec); ok {
			if face, ok := spec.Type.(*ast.InterfaceType); ok && len(face.Methods.List) > 0 {
				names[spec.Name.Name] = true
			}
		}
		return true
	})
	return names
}

// switchesOverType tells whether a function has an argument of one of these
// types, and a type switch.
func switchesOverType(fn *ast.FuncDecl, typeNames map[string]bool) bool {
	isGiven, isSwitched := false, false
	for _, p := range fn.Type.Params.List {
		if id, ok := p.Type.(*ast.Ident); ok && typeNames[id.Name] {
			isGiven = true
		}
	}
	ast.Inspect(fn, func(n ast.Node) bool {
		if _, ok := n.(*ast.TypeSwitchStmt); ok {
			isSwitched = true
		}
		return true
	})
	return isGiven && isSwitched
}

func TestWaysOfCars(t *testing.T) {
	f := parsedFile(t, token.NewFileSet(), "../impl/l03_plant.go")
	interfaces, isSwitched := interfacesIn(f), false
	for _, d := range f.Decls {
		if fn, ok := d.(*ast.FuncDecl); ok {
			isSwitched = isSwitched || !fn.Name.IsExported() && switchesOverType(fn, interfaces)
		}
	}
	if !isSwitched {
		t.Error("what a tick does is no type switch over commands behind an interface")
	}
}

// closuresIn are the names that a function gives to functions that it writes out.
func closuresIn(fn *ast.FuncDecl) map[string]bool {
	names := map[string]bool{}
	ast.Inspect(fn, func(n ast.Node) bool {
		if set, ok := n.(*ast.AssignStmt); ok && len(set.Lhs) == 1 && len(set.Rhs) == 1 {
			_, isWritten := set.Rhs[0].(*ast.FuncLit)
			if id, ok := set.Lhs[0].(*ast.Ident); ok && isWritten {
				names[id.Name] = true
			}
		}
		return true
	})
	return names
}

// callsOneOf tells whether an expression is a call of one of these names.
func callsOneOf(e ast.Expr, names map[string]bool) bool {
	call, ok := e.(*ast.CallExpr)
	if !ok {
		return false
	}
	id, ok := call.Fun.(*ast.Ident)
	return ok && names[id.Name]
}

// turnsClosureRound tells whether a function answers what a closure of its own
// tells, and in another place that with its sign turned.
func turnsClosureRound(fn *ast.FuncDecl) bool {
	closures, isTold, isTurned := closuresIn(fn), false, false
	ast.Inspect(fn, func(n ast.Node) bool {
		if answer, ok := n.(*ast.ReturnStmt); ok && len(answer.Results) == 1 {
			minus, ok := answer.Results[0].(*ast.UnaryExpr)
			isTold = isTold || callsOneOf(answer.Results[0], closures)
			isTurned = isTurned || ok && minus.Op == token.SUB && callsOneOf(minus.X, closures)
		}
		return true
	})
	return isTold && isTurned
}

func TestWaysOfGoing(t *testing.T) {
	f := parsedFile(t, token.NewFileSet(), "../impl/l04_profile.go")
	isTurned := false
	for _, d := range f.Decls {
		if fn, ok := d.(*ast.FuncDecl); ok {
			isTurned = isTurned || turnsClosureRound(fn)
		}
	}
	if !isTurned {
		t.Error("the upward push is no closure that a down one turns round")
	}
}

// arraysIn are the names that a function gives to arrays of that length that it
// writes out.
func arraysIn(fn *ast.FuncDecl, length string) map[string]bool {
	names := map[string]bool{}
	ast.Inspect(fn, func(n ast.Node) bool {
		set, ok := n.(*ast.AssignStmt)
		if !ok || len(set.Lhs) != 1 || len(set.Rhs) != 1 {
			return true
		}
		if list, ok := set.Rhs[0].(*ast.CompositeLit); ok {
			kind, isList := list.Type.(*ast.ArrayType)
			if id, ok := set.Lhs[0].(*ast.Ident); ok && isList && isNumber(kind.Len, length) {
				names[id.Name] = true
			}
		}
		return true
	})
	return names
}

func isNumber(e ast.Expr, digits string) bool {
	number, ok := e.(*ast.BasicLit)
	return ok && number.Value == digits
}

// leavesByLabel tells whether a function ranges over one of these names, and
// leaves that by the label that stands there.
func leavesByLabel(fn *ast.FuncDecl, names map[string]bool) bool {
	found := false
	ast.Inspect(fn, func(n ast.Node) bool {
		labeled, ok := n.(*ast.LabeledStmt)
		if !ok {
			return true
		}
		over, ok := labeled.Stmt.(*ast.RangeStmt)
		if !ok {
			return true
		}
		if id, ok := over.X.(*ast.Ident); !ok || !names[id.Name] {
			return true
		}
		ast.Inspect(over.Body, func(n ast.Node) bool {
			leave, ok := n.(*ast.BranchStmt)
			if ok && leave.Tok == token.BREAK && leave.Label != nil && leave.Label.Name == labeled.Label.Name {
				found = true
			}
			return true
		})
		return true
	})
	return found
}

func TestWaysOfTheGuard(t *testing.T) {
	f := parsedFile(t, token.NewFileSet(), "../impl/l05_guard.go")
	isLeft := false
	for _, d := range f.Decls {
		if fn, ok := d.(*ast.FuncDecl); ok {
			isLeft = isLeft || leavesByLabel(fn, arraysIn(fn, "4"))
		}
	}
	if !isLeft {
		t.Error("no array of four pairs is ranged over, and left by a label")
	}
}

// mapsBy are the names of a function's arguments that are maps by that type.
func mapsBy(fn *ast.FuncDecl, typeName string) map[string]bool {
	names := map[string]bool{}
	for _, p := range fn.Type.Params.List {
		kind, ok := p.Type.(*ast.MapType)
		if !ok {
			continue
		}
		if id, ok := kind.Key.(*ast.Ident); ok && id.Name == typeName {
			for _, name := range p.Names {
				names[name.Name] = true
			}
		}
	}
	return names
}

// deletesFrom tells whether a function deletes something from one of these.
func deletesFrom(fn *ast.FuncDecl, names map[string]bool) bool {
	found := false
	ast.Inspect(fn, func(n ast.Node) bool {
		call, ok := n.(*ast.CallExpr)
		if !ok || !callsOneOf(call, map[string]bool{"delete": true}) {
			return true
		}
		id, ok := call.Args[0].(*ast.Ident)
		found = found || ok && names[id.Name]
		return true
	})
	return found
}

func TestWaysOfSpans(t *testing.T) {
	f := parsedFile(t, token.NewFileSet(), "../impl/l06_spans.go")
	isDeleted := false
	for _, d := range f.Decls {
		if fn, ok := d.(*ast.FuncDecl); ok {
			isDeleted = isDeleted || deletesFrom(fn, mapsBy(fn, "Span"))
		}
	}
	if !isDeleted {
		t.Error("no span is deleted from a map by spans")
	}
}

// tablesIn are the names that a function gives to tables of function values that
// it writes out.
func tablesIn(fn *ast.FuncDecl) map[string]bool {
	names := map[string]bool{}
	ast.Inspect(fn, func(n ast.Node) bool {
		set, ok := n.(*ast.AssignStmt)
		if !ok || len(set.Lhs) != 1 || len(set.Rhs) != 1 {
			return true
		}
		if list, ok := set.Rhs[0].(*ast.CompositeLit); ok {
			kind, isList := list.Type.(*ast.ArrayType)
			if id, ok := set.Lhs[0].(*ast.Ident); ok && isList && isFunction(kind.Elt) {
				names[id.Name] = true
			}
		}
		return true
	})
	return names
}

func isFunction(e ast.Expr) bool {
	_, ok := e.(*ast.FuncType)
	return ok
}

// callsByState tells whether a function calls what stands in one of these tables
// at the State of somebody.
func callsByState(fn *ast.FuncDecl, names map[string]bool) bool {
	found := false
	ast.Inspect(fn, func(n ast.Node) bool {
		call, ok := n.(*ast.CallExpr)
		if !ok {
			return true
		}
		place, ok := call.Fun.(*ast.IndexExpr)
		if !ok {
			return true
		}
		table, isNamed := place.X.(*ast.Ident)
		field, isField := place.Index.(*ast.SelectorExpr)
		found = found || isNamed && names[table.Name] && isField && field.Sel.Name == "State"
		return true
	})
	return found
}

func TestWaysOfPassengers(t *testing.T) {
	f := parsedFile(t, token.NewFileSet(), "../impl/l07_ledger.go")
	isTold := false
	for _, d := range f.Decls {
		if fn, ok := d.(*ast.FuncDecl); ok {
			isTold = isTold || callsByState(fn, tablesIn(fn))
		}
	}
	if !isTold {
		t.Error("no state is told by function values in a table in a function")
	}
	if callsIn(f, "clear") == 0 || callsIn(f, "copy") == 0 {
		t.Error("lists are not cleared and copied")
	}
}

// embedsIn are the types of a file that embed another of its own types, by name,
// as a value or by a pointer.
func embedsIn(f *ast.File) map[string]string {
	embeds := map[string]string{}
	ast.Inspect(f, func(n ast.Node) bool {
		spec, ok := n.(*ast.TypeSpec)
		if !ok {
			return true
		}
		if record, ok := spec.Type.(*ast.StructType); ok {
			for _, field := range record.Fields.List {
				if len(field.Names) == 0 {
					embeds[spec.Name.Name] = nameOf(field.Type)
				}
			}
		}
		return true
	})
	return embeds
}

// nameOf is the name of a type, or of what a pointer points to.
func nameOf(e ast.Expr) string {
	if pointer, ok := e.(*ast.StarExpr); ok {
		e = pointer.X
	}
	if id, ok := e.(*ast.Ident); ok {
		return id.Name
	}
	return ""
}

// methodsIn are the names of a file's methods, by the type that has them.
func methodsIn(f *ast.File) map[string]map[string]bool {
	methods := map[string]map[string]bool{}
	for _, d := range f.Decls {
		if fn, ok := d.(*ast.FuncDecl); ok && fn.Recv != nil {
			owner := nameOf(fn.Recv.List[0].Type)
			if methods[owner] == nil {
				methods[owner] = map[string]bool{}
			}
			methods[owner][fn.Name.Name] = true
		}
	}
	return methods
}

// callsPromoted tells whether a method calls, on what it is a method of, one of
// the methods of what that embeds.
func callsPromoted(fn *ast.FuncDecl, embeds map[string]string, methods map[string]map[string]bool) bool {
	if fn.Recv == nil || len(fn.Recv.List[0].Names) == 0 {
		return false
	}
	owner, own := nameOf(fn.Recv.List[0].Type), fn.Recv.List[0].Names[0].Name
	found := false
	ast.Inspect(fn, func(n ast.Node) bool {
		call, ok := n.(*ast.CallExpr)
		if !ok {
			return true
		}
		if s, ok := call.Fun.(*ast.SelectorExpr); ok && nameOf(s.X) == own {
			found = found || methods[embeds[owner]][s.Sel.Name] && !methods[owner][s.Sel.Name]
		}
		return true
	})
	return found
}

func jumps(fn *ast.FuncDecl) bool {
	found := false
	ast.Inspect(fn, func(n ast.Node) bool {
		leave, ok := n.(*ast.BranchStmt)
		found = found || ok && leave.Tok == token.GOTO
		return true
	})
	return found
}

func TestWaysOfTheGroup(t *testing.T) {
	f := parsedFile(t, token.NewFileSet(), "../impl/l08_group.go")
	embeds, methods := embedsIn(f), methodsIn(f)
	isPromoted, isMachine := false, false
	for _, d := range f.Decls {
		if fn, ok := d.(*ast.FuncDecl); ok {
			isPromoted = isPromoted || callsPromoted(fn, embeds, methods)
			isMachine = isMachine || jumps(fn) && fn.Recv != nil
		}
	}
	if !isPromoted {
		t.Error("no car embeds what it shares, and calls a method of it")
	}
	if !isMachine {
		t.Error("a turn is no machine with goto")
	}
}

// panicsItself tells whether a function panics where it stands.
func panicsItself(fn *ast.FuncDecl) bool {
	found := false
	ast.Inspect(fn, func(n ast.Node) bool {
		call, ok := n.(*ast.CallExpr)
		found = found || ok && callsOneOf(call, map[string]bool{"panic": true})
		return true
	})
	return found
}

// recoversItself tells whether a function defers one that it writes out, and in
// which it recovers.
func recoversItself(fn *ast.FuncDecl) bool {
	found := false
	ast.Inspect(fn, func(n ast.Node) bool {
		later, ok := n.(*ast.DeferStmt)
		if !ok {
			return true
		}
		if _, isWritten := later.Call.Fun.(*ast.FuncLit); !isWritten {
			return true
		}
		ast.Inspect(later.Call.Fun, func(n ast.Node) bool {
			call, ok := n.(*ast.CallExpr)
			found = found || ok && callsOneOf(call, map[string]bool{"recover": true})
			return true
		})
		return true
	})
	return found
}

// wordsFallThrough tells whether a function has a case of words that falls
// through to the next one.
func wordsFallThrough(fn *ast.FuncDecl) bool {
	found := false
	ast.Inspect(fn, func(n ast.Node) bool {
		words, ok := n.(*ast.CaseClause)
		if !ok || len(words.List) == 0 || len(words.Body) == 0 {
			return true
		}
		word, isWord := words.List[0].(*ast.BasicLit)
		last, isLeft := words.Body[len(words.Body)-1].(*ast.BranchStmt)
		found = found || isWord && word.Kind == token.STRING && isLeft && last.Tok == token.FALLTHROUGH
		return true
	})
	return found
}

func TestWaysOfScripts(t *testing.T) {
	f := parsedFile(t, token.NewFileSet(), "../impl/l09_script.go")
	isThrown, isCaught, isFalling := false, false, false
	for _, d := range f.Decls {
		if fn, ok := d.(*ast.FuncDecl); ok {
			isThrown = isThrown || panicsItself(fn) && !fn.Name.IsExported()
			isCaught = isCaught || recoversItself(fn) && fn.Name.IsExported()
			isFalling = isFalling || wordsFallThrough(fn)
		}
	}
	if !isThrown || !isCaught {
		t.Error("a line that cannot be read is no panic, recovered at the face")
	}
	if !isFalling {
		t.Error("no words fall through")
	}
}

// channelsIn are the names that a function gives to channels that it makes.
func channelsIn(fn *ast.FuncDecl) map[string]bool {
	names := map[string]bool{}
	ast.Inspect(fn, func(n ast.Node) bool {
		made, ok := n.(*ast.AssignStmt)
		if !ok || len(made.Lhs) != len(made.Rhs) {
			return true
		}
		for i, value := range made.Rhs {
			call, ok := value.(*ast.CallExpr)
			if !ok || !callsOneOf(call, map[string]bool{"make": true}) {
				continue
			}
			if _, isChannel := call.Args[0].(*ast.ChanType); isChannel {
				names[nameOf(made.Lhs[i])] = true
			}
		}
		return true
	})
	return names
}

// startsAndRanges tells whether a function starts another one and ranges over a
// channel that it made.
func startsAndRanges(fn *ast.FuncDecl) bool {
	channels := channelsIn(fn)
	isStarted, isRanged := false, false
	ast.Inspect(fn, func(n ast.Node) bool {
		switch x := n.(type) {
		case *ast.GoStmt:
			isStarted = true
		case *ast.RangeStmt:
			isRanged = isRanged || channels[nameOf(x.X)]
		}
		return true
	})
	return isStarted && isRanged
}

// closesLast tells whether the last thing that a function does is to close the
// channel over which it sends.
func closesLast(fn *ast.FuncDecl) bool {
	sent := map[string]bool{}
	ast.Inspect(fn, func(n ast.Node) bool {
		if send, ok := n.(*ast.SendStmt); ok {
			sent[nameOf(send.Chan)] = true
		}
		return true
	})
	if len(fn.Body.List) == 0 {
		return false
	}
	last, ok := fn.Body.List[len(fn.Body.List)-1].(*ast.ExprStmt)
	if !ok || !callsOneOf(last.X, map[string]bool{"close": true}) {
		return false
	}
	return sent[nameOf(last.X.(*ast.CallExpr).Args[0])]
}

func TestWaysOfWhatWasSeen(t *testing.T) {
	f := parsedFile(t, token.NewFileSet(), "../impl/l10_trace.go")
	isHandedOver, isAsked := false, false
	for _, d := range f.Decls {
		fn, ok := d.(*ast.FuncDecl)
		if !ok {
			continue
		}
		isHandedOver = isHandedOver || closesLast(fn)
		if startsAndRanges(fn) != (fn.Name.Name == "TraceGroup") {
			t.Errorf("%s: TraceGroup alone hands its events over a channel", fn.Name.Name)
		}
		ast.Inspect(fn, func(n ast.Node) bool {
			s, ok := n.(*ast.SelectorExpr)
			isAsked = isAsked || ok && nameOf(s.X) == "errors" && s.Sel.Name == "As"
			return true
		})
	}
	if !isHandedOver {
		t.Error("no events are handed over a channel until it is closed")
	}
	if !isAsked {
		t.Error("no error is asked by errors.As")
	}
}

// hasOperators tells whether all of these stand in a function.
func hasOperators(fn *ast.FuncDecl, wanted ...token.Token) bool {
	found := map[token.Token]bool{}
	ast.Inspect(fn, func(n ast.Node) bool {
		if b, ok := n.(*ast.BinaryExpr); ok {
			found[b.Op] = true
		}
		return true
	})
	for _, op := range wanted {
		if !found[op] {
			return false
		}
	}
	return true
}

// hasType tells whether that type is among the arguments or the answers.
func hasType(list *ast.FieldList, typeName string) bool {
	if list == nil {
		return false
	}
	for _, field := range list.List {
		if nameOf(field.Type) == typeName {
			return true
		}
	}
	return false
}

// wrapsIn16 tells whether a function takes what is left of a difference of
// numbers of 16 bits.
func wrapsIn16(fn *ast.FuncDecl) bool {
	found := false
	ast.Inspect(fn, func(n ast.Node) bool {
		call, ok := n.(*ast.CallExpr)
		if !ok || !callsOneOf(call, map[string]bool{"int16": true, "uint16": true}) {
			return true
		}
		difference, ok := call.Args[0].(*ast.BinaryExpr)
		found = found || ok && difference.Op == token.SUB
		return true
	})
	return found && hasType(fn.Type.Params, "uint16")
}

func TestWaysOfSensors(t *testing.T) {
	f := parsedFile(t, token.NewFileSet(), "../impl/l11_sense.go")
	isWrapped, isPacked, isUnpacked := false, false, false
	for _, d := range f.Decls {
		if fn, ok := d.(*ast.FuncDecl); ok {
			isWrapped = isWrapped || wrapsIn16(fn)
			isPacked = isPacked || hasType(fn.Type.Params, "Reading") && hasOperators(fn, token.SHL, token.AND)
			isUnpacked = isUnpacked || hasType(fn.Type.Results, "Reading") && hasOperators(fn, token.SHR, token.AND)
		}
	}
	if !isWrapped || callsIn(f, "uint16") == 0 {
		t.Error("counts do not wrap as numbers of 16 bits")
	}
	if !isPacked || !isUnpacked {
		t.Error("readings are not shifted and masked")
	}
}

// arrayTypesIn are the names of a file's types that are arrays.
func arrayTypesIn(f *ast.File) map[string]bool {
	names := map[string]bool{}
	ast.Inspect(f, func(n ast.Node) bool {
		if spec, ok := n.(*ast.TypeSpec); ok {
			kind, isList := spec.Type.(*ast.ArrayType)
			names[spec.Name.Name] = isList && kind.Len != nil
		}
		return true
	})
	return names
}

// answersMapBy tells whether a function answers a map by one of these types.
func answersMapBy(fn *ast.FuncDecl, typeNames map[string]bool) bool {
	if fn.Type.Results == nil {
		return false
	}
	for _, answer := range fn.Type.Results.List {
		if kind, ok := answer.Type.(*ast.MapType); ok && typeNames[nameOf(kind.Key)] {
			return true
		}
	}
	return false
}

// answersIterator tells whether a function answers an iter.Seq.
func answersIterator(fn *ast.FuncDecl) bool {
	if fn.Type.Results == nil {
		return false
	}
	for _, answer := range fn.Type.Results.List {
		of, ok := answer.Type.(*ast.IndexExpr)
		if !ok {
			continue
		}
		if s, ok := of.X.(*ast.SelectorExpr); ok && nameOf(s.X) == "iter" && s.Sel.Name == "Seq" {
			return true
		}
	}
	return false
}

// rangesOverCalls tells whether a function ranges over what a call of one of
// these functions or methods answers.
func rangesOverCalls(fn *ast.FuncDecl, names map[string]bool) bool {
	found := false
	ast.Inspect(fn, func(n ast.Node) bool {
		over, ok := n.(*ast.RangeStmt)
		if !ok {
			return true
		}
		call, ok := over.X.(*ast.CallExpr)
		if !ok {
			return true
		}
		method, isMethod := call.Fun.(*ast.SelectorExpr)
		found = found || callsOneOf(call, names) || isMethod && names[method.Sel.Name]
		return true
	})
	return found
}

func TestWaysOfZones(t *testing.T) {
	f := parsedFile(t, token.NewFileSet(), "../impl/l12_zones.go")
	maps, iterators, arrays := map[string]bool{}, map[string]bool{}, arrayTypesIn(f)
	for _, d := range f.Decls {
		if fn, ok := d.(*ast.FuncDecl); ok {
			maps[fn.Name.Name] = answersMapBy(fn, arrays)
			iterators[fn.Name.Name] = answersIterator(fn)
		}
	}
	isAsked, isRanged := false, false
	for _, d := range f.Decls {
		if fn, ok := d.(*ast.FuncDecl); ok {
			isAsked = isAsked || rangesOverCalls(fn, maps)
			isRanged = isRanged || rangesOverCalls(fn, iterators)
		}
	}
	if !isAsked {
		t.Error("masks are no arrays of bits as keys of a map")
	}
	if !isRanged {
		t.Error("floors are no iterator that is ranged over")
	}
}

// defersCallOf tells whether a function defers one that it writes out, and in
// which it calls one of these names.
func defersCallOf(fn *ast.FuncDecl, names map[string]bool) bool {
	found := false
	ast.Inspect(fn, func(n ast.Node) bool {
		later, ok := n.(*ast.DeferStmt)
		if !ok {
			return true
		}
		written, ok := later.Call.Fun.(*ast.FuncLit)
		if !ok {
			return true
		}
		ast.Inspect(written, func(n ast.Node) bool {
			call, ok := n.(*ast.CallExpr)
			found = found || ok && callsOneOf(call, names)
			return true
		})
		return true
	})
	return found
}

// answersMethodValue tells whether a method answers another one of what it is a
// method of, without calling it.
func answersMethodValue(fn *ast.FuncDecl, methods map[string]map[string]bool) bool {
	if fn.Recv == nil || len(fn.Recv.List[0].Names) == 0 {
		return false
	}
	owner, own := nameOf(fn.Recv.List[0].Type), fn.Recv.List[0].Names[0].Name
	found := false
	ast.Inspect(fn, func(n ast.Node) bool {
		if answer, ok := n.(*ast.ReturnStmt); ok && len(answer.Results) == 1 {
			s, ok := answer.Results[0].(*ast.SelectorExpr)
			found = found || ok && nameOf(s.X) == own && methods[owner][s.Sel.Name]
		}
		return true
	})
	return found
}

// answersOf are the names that a function gives to what methods of these names
// answer.
func answersOf(fn *ast.FuncDecl, names map[string]bool) map[string]bool {
	given := map[string]bool{}
	ast.Inspect(fn, func(n ast.Node) bool {
		set, ok := n.(*ast.AssignStmt)
		if !ok || len(set.Lhs) != len(set.Rhs) {
			return true
		}
		for i, value := range set.Rhs {
			call, ok := value.(*ast.CallExpr)
			if !ok {
				continue
			}
			if method, ok := call.Fun.(*ast.SelectorExpr); ok && names[method.Sel.Name] {
				given[nameOf(set.Lhs[i])] = true
			}
		}
		return true
	})
	return given
}

func TestWaysOfEnergy(t *testing.T) {
	f := parsedFile(t, token.NewFileSet(), "../impl/l13_energy.go")
	methods, tellers := methodsIn(f), map[string]bool{}
	for _, d := range f.Decls {
		if fn, ok := d.(*ast.FuncDecl); ok && answersMethodValue(fn, methods) {
			tellers[fn.Name.Name] = true
		}
	}
	isKept := false
	for _, d := range f.Decls {
		if fn, ok := d.(*ast.FuncDecl); ok {
			isKept = isKept || defersCallOf(fn, answersOf(fn, tellers))
		}
	}
	if !isKept {
		t.Error("no deferred function keeps a book by a method value")
	}
}

// workersOf are the names that a function gives to what joins its workers.
func workersOf(fn *ast.FuncDecl) map[string]bool {
	names := map[string]bool{}
	ast.Inspect(fn, func(n ast.Node) bool {
		spec, ok := n.(*ast.ValueSpec)
		if !ok {
			return true
		}
		if kind, ok := spec.Type.(*ast.SelectorExpr); ok && nameOf(kind.X) == "sync" && kind.Sel.Name == "WaitGroup" {
			for _, name := range spec.Names {
				names[name.Name] = true
			}
		}
		return true
	})
	return names
}

// startsAny tells whether a function starts another one beside itself.
func startsAny(fn *ast.FuncDecl) bool {
	found := false
	ast.Inspect(fn, func(n ast.Node) bool {
		_, isStart := n.(*ast.GoStmt)
		method, isMethod := n.(*ast.SelectorExpr)
		found = found || isStart || isMethod && method.Sel.Name == "Go"
		return true
	})
	return found
}

// joinsAll tells whether a function waits for what it starts by a WaitGroup.
func joinsAll(fn *ast.FuncDecl) bool {
	workers := workersOf(fn)
	found := false
	ast.Inspect(fn, func(n ast.Node) bool {
		method, ok := n.(*ast.SelectorExpr)
		found = found || ok && workers[nameOf(method.X)] && method.Sel.Name == "Wait"
		return true
	})
	return startsAny(fn) && found
}

// genericsIn are the names of a file's types that have type parameters.
func genericsIn(f *ast.File) map[string]bool {
	names := map[string]bool{}
	ast.Inspect(f, func(n ast.Node) bool {
		if spec, ok := n.(*ast.TypeSpec); ok && spec.TypeParams != nil {
			names[spec.Name.Name] = true
		}
		return true
	})
	return names
}

// sumsOver tells whether a function is variadic and answers one of these types.
func sumsOver(fn *ast.FuncDecl, generics map[string]bool) bool {
	params := fn.Type.Params.List
	if len(params) == 0 || fn.Type.Results == nil {
		return false
	}
	_, isVariadic := params[len(params)-1].Type.(*ast.Ellipsis)
	of, isGeneric := fn.Type.Results.List[0].Type.(*ast.IndexExpr)
	return isVariadic && isGeneric && generics[nameOf(of.X)]
}

// spreads tells whether a function hands a whole list to one of these names.
func spreads(fn *ast.FuncDecl, names map[string]bool) bool {
	found := false
	ast.Inspect(fn, func(n ast.Node) bool {
		call, ok := n.(*ast.CallExpr)
		found = found || ok && call.Ellipsis.IsValid() && callsOneOf(call, names)
		return true
	})
	return found
}

func TestWaysOfTraffic(t *testing.T) {
	f := parsedFile(t, token.NewFileSet(), "../impl/l14_traffic.go")
	generics, sums := genericsIn(f), map[string]bool{}
	for _, d := range f.Decls {
		if fn, ok := d.(*ast.FuncDecl); ok {
			sums[fn.Name.Name] = sumsOver(fn, generics)
		}
	}
	for _, d := range f.Decls {
		fn, ok := d.(*ast.FuncDecl)
		if !ok {
			continue
		}
		name := fn.Name.Name
		if isTable := name == "FlightTable"; startsAny(fn) != isTable || joinsAll(fn) != isTable {
			t.Errorf("%s: FlightTable alone makes its rows by goroutines that a WaitGroup joins", name)
		}
		if (name == "TripTicks" || name == "MeanUp") && !spreads(fn, sums) {
			t.Errorf("%s: its sum is not variadic, over a generic type", name)
		}
	}
}

// answersNothing tells whether all that a function does is to answer a literal
// without a value, as those do that are not built yet.
func answersNothing(fn *ast.FuncDecl) bool {
	if len(fn.Body.List) != 1 {
		return len(fn.Body.List) == 0
	}
	answer, ok := fn.Body.List[0].(*ast.ReturnStmt)
	if !ok || len(answer.Results) != 1 {
		return ok
	}
	switch value := answer.Results[0].(type) {
	case *ast.CompositeLit:
		return len(value.Elts) == 0
	case *ast.BasicLit:
		return true
	case *ast.Ident:
		return value.Name == "nil" || value.Name == "false"
	}
	return false
}

// All functions that the document lists are built: 14 layers have some each.
func TestNoFunctionIsEmpty(t *testing.T) {
	paths, err := filepath.Glob("../impl/l*.go")
	if err != nil || len(paths) != 14 {
		t.Fatal("not 14 layers", paths, err)
	}
	for _, path := range paths {
		listed := 0
		for _, d := range parsedFile(t, token.NewFileSet(), path).Decls {
			fn, ok := d.(*ast.FuncDecl)
			if !ok || !fn.Name.IsExported() {
				continue
			}
			listed++
			if answersNothing(fn) {
				t.Errorf("%s: %s is not built", path, fn.Name.Name)
			}
		}
		if listed == 0 {
			t.Errorf("%s has no function", path)
		}
	}
}

func TestProgramKeepsToItsLanguage(t *testing.T) {
	paths, err := filepath.Glob("../impl/*.go")
	if err != nil || len(paths) == 0 {
		t.Fatal("no program", err)
	}
	files := token.NewFileSet()
	for _, path := range paths {
		f := parsedFile(t, files, path)
		for _, i := range f.Imports {
			if !strings.Contains(allowedImports, " "+strings.Trim(i.Path.Value, `"`)+" ") {
				t.Errorf("%s imports %s", path, i.Path.Value)
			}
		}
		for _, d := range f.Decls {
			fn, ok := d.(*ast.FuncDecl)
			if !ok {
				continue
			}
			if lines := files.Position(fn.End()).Line - files.Position(fn.Pos()).Line + 1; lines > longestFunction {
				t.Errorf("%s: %s has %d lines", path, fn.Name.Name, lines)
			}
		}
	}
}
