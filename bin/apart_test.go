package bin_test

import (
	"go/ast"
	"go/parser"
	"go/token"
	"path/filepath"
	"slices"
	"strings"
	"testing"
)

// declared tells of each name of the package what declares it; methods of one
// name together.
func declared(t *testing.T) map[string][]ast.Node {
	t.Helper()
	paths, err := filepath.Glob("*.go")
	if err != nil {
		t.Fatal(err)
	}
	nodes := map[string][]ast.Node{}
	for _, path := range paths {
		if strings.HasSuffix(path, "_test.go") {
			continue
		}
		file, err := parser.ParseFile(token.NewFileSet(), path, nil, 0)
		if err != nil {
			t.Fatal(err)
		}
		for _, d := range file.Decls {
			ast.Inspect(d, func(n ast.Node) bool {
				switch x := n.(type) {
				case *ast.FuncDecl:
					nodes[x.Name.Name] = append(nodes[x.Name.Name], x)
				case *ast.TypeSpec:
					nodes[x.Name.Name] = append(nodes[x.Name.Name], x)
				case *ast.ValueSpec:
					for _, name := range x.Names {
						nodes[name.Name] = append(nodes[name.Name], x)
					}
				}
				_, body := n.(*ast.BlockStmt)
				return !body
			})
		}
	}
	return nodes
}

// reached tells the names of all that may be come to from a name: a word that
// stands for something else, too, is taken for the package's.
func reached(from string, nodes map[string][]ast.Node) []string {
	names := []string{from}
	for i := 0; i < len(names); i++ {
		for _, node := range nodes[names[i]] {
			ast.Inspect(node, func(n ast.Node) bool {
				if id, ok := n.(*ast.Ident); ok && nodes[id.Name] != nil && !slices.Contains(names, id.Name) {
					names = append(names, id.Name)
				}
				return true
			})
		}
	}
	return names
}

// The chapter's functions and methods come to none of the variables that hold
// the map of closures; PutOne comes to both.
func TestFacesApartFromMap(t *testing.T) {
	kept, nodes := []string{"putterOnce", "putters"}, declared(t)
	for _, face := range []string{"Open", "Len", "Bad", "Byte", "Word", "Int", "Long", "Part", "Words", "Bytes", "Put", "Sum"} {
		if nodes[face] == nil {
			t.Fatalf("there is no %s", face)
		}
		for _, name := range reached(face, nodes) {
			if slices.Contains(kept, name) {
				t.Errorf("%s comes to %s", face, name)
			}
		}
	}
	for _, name := range kept {
		if !slices.Contains(reached("PutOne", nodes), name) {
			t.Errorf("PutOne does not come to %s", name)
		}
	}
}
