package ucd

import (
	"go/ast"
	"go/importer"
	"go/parser"
	"go/token"
	"go/types"
	"path/filepath"
	"slices"
	"strings"
	"testing"
)

// declared tells of each name of the package (of a method: the method's) what
// declares it, and what each word in it stands for.
func declared(t *testing.T) (*types.Package, map[types.Object]ast.Node, map[*ast.Ident]types.Object) {
	t.Helper()
	paths, err := filepath.Glob("*.go")
	if err != nil {
		t.Fatal(err)
	}
	set, info := token.NewFileSet(), &types.Info{Uses: map[*ast.Ident]types.Object{}, Defs: map[*ast.Ident]types.Object{}}
	var files []*ast.File
	for _, path := range paths {
		if strings.HasSuffix(path, "_test.go") {
			continue
		}
		file, err := parser.ParseFile(set, path, nil, 0)
		if err != nil {
			t.Fatal(err)
		}
		files = append(files, file)
	}
	pack, err := (&types.Config{Importer: importer.ForCompiler(set, "source", nil)}).Check("calamus/ucd", set, files, info)
	if err != nil {
		t.Fatal(err)
	}
	nodes := map[types.Object]ast.Node{}
	for _, file := range files {
		ast.Inspect(file, func(n ast.Node) bool {
			switch x := n.(type) {
			case *ast.FuncDecl:
				nodes[info.Defs[x.Name]] = x
			case *ast.ValueSpec:
				for _, name := range x.Names {
					nodes[info.Defs[name]] = x
				}
			}
			return true
		})
	}
	return pack, nodes, info.Uses
}

// reached tells the names of all that a function comes to, rising.
func reached(from types.Object, nodes map[types.Object]ast.Node, uses map[*ast.Ident]types.Object) []string {
	seen, work := map[types.Object]bool{from: true}, []types.Object{from}
	var names []string
	for len(work) > 0 {
		o := work[0]
		work, names = work[1:], append(names, o.Name())
		ast.Inspect(nodes[o], func(n ast.Node) bool {
			if id, ok := n.(*ast.Ident); ok {
				if next := uses[id]; next != nil && nodes[next] != nil && !seen[next] {
					seen[next], work = true, append(work, next)
				}
			}
			return true
		})
	}
	slices.Sort(names)
	return names
}

// The faces of the chapter come to none of the variables of the tables in two
// stages; Tabled comes to all of them.
func TestFacesApartFromTables(t *testing.T) {
	var kept []string
	for _, name := range []string{"class", "mirror", "joining", "break", "cluster", "script", "wide", "space"} {
		kept = append(kept, name+"Once", name+"Table")
	}
	pack, nodes, uses := declared(t)
	for _, face := range []string{"Decode", "Class", "Bracket", "Mirror", "Joining", "Break", "Cluster", "Script", "Wide", "Space"} {
		names := reached(pack.Scope().Lookup(face), nodes, uses)
		for _, name := range kept {
			if slices.Contains(names, name) {
				t.Errorf("%s comes to %s", face, name)
			}
		}
	}
	names := reached(pack.Scope().Lookup("Tabled"), nodes, uses)
	for _, name := range kept {
		if !slices.Contains(names, name) {
			t.Errorf("Tabled does not come to %s", name)
		}
	}
}
