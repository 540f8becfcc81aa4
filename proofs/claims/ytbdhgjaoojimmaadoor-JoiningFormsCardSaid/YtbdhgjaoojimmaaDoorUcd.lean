/-
  What ucd's functions of a character answer: as lists of tests, held against their own text by the kernel.
-/
import Derived.Test.YtbdhgjaoojimmaaDoorDec
import Derived.Test.YtbdhgjaoojimmaaDoorPiece
import Derived.Test.YtbdhgjaoojimmaaDoorRefU
namespace Go.Proofs.YtbdhgjaoojimmaaDoor
open Go Go.RowKit

/-- the first test that holds tells -/
def semL (E : Nat → Int → Bool) : List (Cnd × Int) → Int → Int → Int
  | [], d, _ => d
  | x :: l, d, r => if x.1.holds E r then x.2 else semL E l d r

/-- does one of these hold? -/
def anyL (E : Nat → Int → Bool) : List Cnd → Int → Bool
  | [], _ => false
  | c :: l, r => c.holds E r || anyL E l r

def decL (k : IntKind) : List (Cnd × Int) → Int → Dec
  | [], d => .leaf (.con (.int k d))
  | x :: l, d => .node x.1 (.leaf (.con (.int k x.2))) (decL k l d)

theorem decL_sem (E : Nat → Int → Bool) (G : Nat → Int → Value) (r : Int) (k : IntKind) (l : List (Cnd × Int)) (d : Int) : (decL k l d).sem E G r = .int k (semL E l d r) := by
  induction l with
  | nil => rfl
  | cons x l ih =>
    rw [decL, Dec.sem, semL, ih]
    by_cases h : x.1.holds E r = true
    · rw [if_pos h, if_pos h]; rfl
    · rw [if_neg h, if_neg h]

/-- 'a || b || ..' -/
def decO : List Cnd → Dec
  | [] => .leaf (.con (.bool false))
  | [c] => .leaf (.cnd c)
  | c :: l => .node c (.leaf (.con (.bool true))) (decO l)

theorem decO_sem (E : Nat → Int → Bool) (G : Nat → Int → Value) (r : Int) (l : List Cnd) : (decO l).sem E G r = .bool (anyL E l r) := by
  induction l with
  | nil => rfl
  | cons c l ih =>
    cases l with
    | nil => simp [decO, Dec.sem, SV.at, anyL]
    | cons d l =>
      rw [decO, Dec.sem, anyL, ih]
      · cases c.holds E r <;> simp [Dec.sem, SV.at]
      · simp

/-! ### where they turn -/

def Cnd.cuts (X : Nat → List Int) : Cnd → List Int
  | .rng a b => [a, b + 1]
  | .eqc c => [c, c + 1]
  | .ltc c => [c]
  | .ext k => X k

def TurnsB (f : Int → Bool) (l : List Int) : Prop := ∀ r p, (∀ c ∈ l, c ≤ r ↔ c ≤ p) → f r = f p

theorem Cnd.turns (E : Nat → Int → Bool) (X : Nat → List Int) (hE : ∀ k, TurnsB (E k) (X k)) (c : Cnd) : TurnsB (c.holds E) (c.cuts X) := by
  intro r p h
  cases c with
  | rng a b =>
    have h1 := h a (by simp [Cnd.cuts])
    have h2 := h (b + 1) (by simp [Cnd.cuts])
    show (decide (a ≤ r) && decide (r ≤ b)) = (decide (a ≤ p) && decide (p ≤ b))
    have e1 : decide (a ≤ r) = decide (a ≤ p) := by simp [h1]
    have e2 : decide (r ≤ b) = decide (p ≤ b) := by simp only [decide_eq_decide]; omega
    rw [e1, e2]
  | eqc c =>
    have h1 := h c (by simp [Cnd.cuts])
    have h2 := h (c + 1) (by simp [Cnd.cuts])
    show decide (r = c) = decide (p = c)
    simp only [decide_eq_decide]; omega
  | ltc c =>
    have h1 := h c (by simp [Cnd.cuts])
    show decide (r < c) = decide (p < c)
    simp only [decide_eq_decide]; omega
  | ext k => exact hE k r p h

def cutsL (X : Nat → List Int) (l : List (Cnd × Int)) : List Int := l.flatMap fun x => x.1.cuts X
def cutsO (X : Nat → List Int) (l : List Cnd) : List Int := l.flatMap fun c => c.cuts X

theorem semL_turns (E : Nat → Int → Bool) (X : Nat → List Int) (hE : ∀ k, TurnsB (E k) (X k)) (l : List (Cnd × Int)) (d : Int) : TurnsAt (semL E l d) (cutsL X l) := by
  intro r p h
  induction l with
  | nil => rfl
  | cons x l ih =>
    have e : cutsL X (x :: l) = x.1.cuts X ++ cutsL X l := rfl
    rw [e] at h
    have h1 : x.1.holds E r = x.1.holds E p := Cnd.turns E X hE x.1 r p (fun c hc => h c (List.mem_append_left _ hc))
    have h2 := ih (fun c hc => h c (List.mem_append_right _ hc))
    rw [semL, semL, h1, h2]

theorem anyL_turns (E : Nat → Int → Bool) (X : Nat → List Int) (hE : ∀ k, TurnsB (E k) (X k)) (l : List Cnd) : TurnsB (anyL E l) (cutsO X l) := by
  intro r p h
  induction l with
  | nil => rfl
  | cons x l ih =>
    have e : cutsO X (x :: l) = x.cuts X ++ cutsO X l := rfl
    rw [e] at h
    have h1 : x.holds E r = x.holds E p := Cnd.turns E X hE x r p (fun c hc => h c (List.mem_append_left _ hc))
    have h2 := ih (fun c hc => h c (List.mem_append_right _ hc))
    rw [anyL, anyL, h1, h2]

/-! ### the lists -/

def markL : List Cnd := [.rng 1155 1161, .rng 1425 1469, .eqc 1471, .rng 1473 1474, .rng 1476 1477, .eqc 1479, .rng 1552 1562, .rng 1611 1631, .eqc 1648, .rng 1750 1756, .rng 1759 1764, .rng 1767 1768, .rng 1770 1773, .eqc 1809, .rng 1840 1866, .rng 1958 1968, .rng 8400 8432, .eqc 64286, .rng 65024 65039, .rng 65056 65071, .rng 125252 125258, .rng 917760 917999]
def wideL : List Cnd := [.rng 4352 4447, .rng 11904 12350, .rng 12353 13311, .rng 13312 19903, .rng 19968 40959, .rng 44032 55203, .rng 65281 65376, .rng 127744 128591]
def spaceL : List Cnd := [.eqc 9, .eqc 32, .rng 8192 8198, .rng 8200 8202, .eqc 8287, .eqc 12288]
def joiningL : List (Cnd × Int) := [(.rng 1570 1573, 1), (.eqc 1575, 1), (.eqc 1577, 1), (.rng 1583 1586, 1), (.eqc 1608, 1), (.rng 1649 1651, 1), (.rng 1653 1655, 1), (.rng 1672 1689, 1), (.eqc 1728, 1), (.rng 1731 1739, 1), (.eqc 1741, 1), (.eqc 1743, 1), (.rng 1746 1747, 1), (.eqc 1749, 1), (.rng 1774 1775, 1), (.eqc 1568, 2), (.eqc 1574, 2), (.eqc 1576, 2), (.rng 1578 1582, 2), (.rng 1587 1599, 2), (.rng 1601 1607, 2), (.rng 1609 1610, 2), (.rng 1646 1647, 2), (.rng 1656 1671, 2), (.rng 1690 1727, 2), (.rng 1729 1730, 2), (.eqc 1740, 2), (.eqc 1742, 2), (.rng 1744 1745, 2), (.rng 1786 1788, 2), (.eqc 1791, 2), (.eqc 1600, 3), (.eqc 8205, 3), (.ext 0, 4), (.rng 768 879, 4), (.eqc 173, 4), (.eqc 8203, 4), (.rng 8206 8207, 4), (.rng 8234 8238, 4), (.rng 8288 8292, 4), (.eqc 65279, 4)]
def joiningD : Int := 0
def clusterL : List (Cnd × Int) := [(.eqc 13, 1), (.eqc 10, 2), (.rng 0 9, 3), (.rng 11 12, 3), (.rng 14 31, 3), (.rng 127 159, 3), (.eqc 173, 3), (.eqc 8203, 3), (.rng 8206 8207, 3), (.rng 8232 8238, 3), (.rng 8288 8303, 3), (.eqc 65279, 3), (.eqc 8205, 5), (.ext 0, 4), (.rng 768 879, 4), (.eqc 8204, 4), (.rng 127995 127999, 4), (.rng 127462 127487, 6), (.rng 1536 1541, 7), (.eqc 1757, 7), (.rng 4352 4447, 8), (.rng 4448 4519, 9), (.rng 4520 4607, 10), (.eqc 169, 13), (.eqc 174, 13), (.eqc 8252, 13), (.eqc 8265, 13), (.rng 127744 127994, 13), (.rng 128000 128591, 13), (.ext 1, 11), (.ext 2, 12)]
def clusterD : Int := 0
def scriptL : List (Cnd × Int) := [(.rng 768 879, 1), (.rng 1157 1158, 1), (.rng 1611 1621, 1), (.eqc 1648, 1), (.rng 8204 8205, 1), (.rng 8400 8432, 1), (.rng 65024 65039, 1), (.rng 65056 65071, 1), (.rng 917760 917999, 1), (.rng 65 90, 2), (.rng 97 122, 2), (.eqc 170, 2), (.eqc 186, 2), (.rng 192 214, 2), (.rng 216 246, 2), (.rng 248 696, 2), (.rng 7680 7935, 2), (.rng 880 883, 5), (.rng 885 887, 5), (.rng 890 893, 5), (.eqc 902, 5), (.rng 904 993, 5), (.rng 1008 1023, 5), (.rng 1425 1524, 3), (.rng 64285 64335, 3), (.rng 1536 1540, 4), (.rng 1542 1547, 4), (.rng 1549 1562, 4), (.rng 1564 1566, 4), (.rng 1568 1599, 4), (.rng 1601 1610, 4), (.rng 1622 1647, 4), (.rng 1649 1756, 4), (.rng 1758 1791, 4), (.rng 64336 64829, 4), (.rng 65136 65276, 4), (.rng 4352 4607, 6), (.rng 44032 55203, 6), (.rng 11904 12245, 7), (.eqc 12293, 7), (.eqc 12295, 7), (.rng 13312 19903, 7), (.rng 19968 40959, 7)]
def scriptD : Int := 0
def lowClassL : List (Cnd × Int) := [(.rng 48 57, 4), (.rng 178 179, 4), (.eqc 185, 4), (.eqc 43, 5), (.eqc 45, 5), (.rng 35 37, 6), (.rng 162 165, 6), (.rng 176 177, 6), (.eqc 44, 8), (.rng 46 47, 8), (.eqc 58, 8), (.eqc 160, 8), (.rng 0 8, 10), (.rng 14 27, 10), (.rng 127 132, 10), (.rng 134 159, 10), (.eqc 173, 10), (.eqc 10, 11), (.eqc 13, 11), (.rng 28 30, 11), (.eqc 133, 11), (.eqc 9, 12), (.eqc 11, 12), (.eqc 31, 12), (.eqc 12, 13), (.eqc 32, 13), (.rng 33 34, 14), (.rng 38 42, 14), (.rng 59 64, 14), (.rng 91 96, 14), (.rng 123 126, 14), (.eqc 161, 14), (.rng 166 169, 14), (.rng 171 172, 14), (.rng 174 175, 14), (.eqc 180, 14), (.rng 182 184, 14), (.rng 187 191, 14), (.eqc 215, 14), (.eqc 247, 14)]
def lowClassD : Int := 1
def rightClassL : List (Cnd × Int) := [(.eqc 1424, 2), (.eqc 1470, 2), (.eqc 1472, 2), (.eqc 1475, 2), (.eqc 1478, 2), (.rng 1480 1535, 2), (.eqc 1544, 3), (.eqc 1547, 3), (.eqc 1549, 3), (.rng 1563 1610, 3), (.rng 1645 1647, 3), (.rng 1649 1749, 3), (.rng 1765 1766, 3), (.rng 1774 1775, 3), (.rng 1786 1808, 3), (.rng 1810 1839, 3), (.rng 1867 1957, 3), (.rng 1969 1983, 3), (.rng 1776 1785, 4), (.rng 1545 1546, 6), (.eqc 1642, 6), (.rng 1536 1541, 7), (.rng 1632 1641, 7), (.rng 1643 1644, 7), (.eqc 1757, 7), (.eqc 1548, 8), (.ext 0, 9), (.rng 768 879, 9), (.rng 1542 1543, 14), (.rng 1550 1551, 14), (.eqc 1758, 14), (.eqc 1769, 14)]
def rightClassD : Int := 1
def signClassL : List (Cnd × Int) := [(.eqc 8207, 2), (.eqc 8304, 4), (.rng 8308 8313, 4), (.rng 8320 8329, 4), (.rng 8314 8315, 5), (.rng 8330 8331, 5), (.eqc 8722, 5), (.rng 8240 8244, 6), (.rng 8352 8399, 6), (.eqc 8723, 6), (.eqc 8239, 8), (.eqc 8260, 8), (.ext 0, 9), (.rng 8203 8205, 10), (.rng 8288 8293, 10), (.rng 8298 8303, 10), (.eqc 8233, 11), (.rng 8192 8202, 13), (.eqc 8232, 13), (.eqc 8287, 13), (.eqc 12288, 13), (.rng 8208 8231, 14), (.rng 8245 8259, 14), (.rng 8261 8286, 14), (.rng 8316 8318, 14), (.rng 8332 8334, 14), (.rng 8592 8721, 14), (.rng 8724 9013, 14), (.rng 9472 9783, 14), (.rng 10214 10223, 14), (.rng 12289 12292, 14), (.rng 12296 12320, 14)]
def highClassL : List (Cnd × Int) := [(.eqc 64285, 2), (.rng 64287 64296, 2), (.rng 64298 64335, 2), (.rng 125184 125251, 2), (.rng 125259 125279, 2), (.rng 64336 64829, 3), (.rng 65136 65276, 3), (.rng 126464 126703, 3), (.eqc 64297, 5), (.ext 0, 9), (.eqc 65279, 10), (.rng 64830 64831, 14), (.eqc 65533, 14), (.rng 127744 128591, 14)]
def highClassD : Int := 1
def explicitClassL : List (Cnd × Int) := [(.eqc 8234, 15), (.eqc 8235, 16), (.eqc 8237, 17), (.eqc 8238, 18), (.eqc 8236, 19), (.eqc 8294, 20), (.eqc 8295, 21), (.eqc 8296, 22), (.eqc 8297, 23)]
def explicitClassD : Int := 1
def lowBreakL : List (Cnd × Int) := [(.eqc 10, 3), (.eqc 13, 2), (.eqc 133, 4), (.rng 11 12, 1), (.eqc 32, 5), (.eqc 160, 8), (.rng 0 8, 9), (.rng 14 31, 9), (.rng 127 132, 9), (.rng 134 159, 9), (.eqc 9, 11), (.eqc 124, 11), (.eqc 173, 11), (.eqc 180, 12), (.eqc 45, 14), (.eqc 33, 16), (.eqc 63, 16), (.eqc 40, 19), (.eqc 91, 19), (.eqc 123, 19), (.eqc 161, 19), (.eqc 191, 19), (.eqc 41, 20), (.eqc 93, 20), (.eqc 125, 21), (.eqc 34, 22), (.eqc 39, 22), (.eqc 171, 22), (.eqc 187, 22), (.eqc 44, 23), (.eqc 46, 23), (.rng 58 59, 23), (.eqc 47, 24), (.eqc 37, 25), (.eqc 162, 25), (.eqc 176, 25), (.eqc 36, 26), (.eqc 43, 26), (.eqc 92, 26), (.rng 163 165, 26), (.eqc 177, 26), (.rng 48 57, 27)]
def lowBreakD : Int := 0
def rightBreakL : List (Cnd × Int) := [(.eqc 847, 8), (.rng 860 866, 8), (.ext 0, 9), (.rng 768 846, 9), (.rng 848 859, 9), (.rng 867 879, 9), (.eqc 1470, 11), (.eqc 1478, 16), (.eqc 1563, 16), (.rng 1565 1567, 16), (.eqc 1748, 16), (.eqc 1417, 23), (.rng 1548 1549, 23), (.rng 1545 1547, 25), (.eqc 1642, 25), (.rng 1632 1641, 27), (.rng 1643 1644, 27), (.rng 1776 1785, 27), (.rng 1488 1514, 28), (.rng 1519 1522, 28)]
def rightBreakD : Int := 0
def signBreakL : List (Cnd × Int) := [(.rng 8232 8233, 1), (.eqc 8203, 6), (.eqc 8288, 7), (.eqc 8199, 8), (.eqc 8209, 8), (.eqc 8239, 8), (.eqc 8205, 10), (.ext 0, 9), (.eqc 8204, 9), (.rng 8206 8207, 9), (.rng 8234 8238, 9), (.rng 8294 8303, 9), (.rng 8192 8198, 11), (.rng 8200 8202, 11), (.eqc 8208, 11), (.rng 8210 8211, 11), (.eqc 8231, 11), (.eqc 8278, 11), (.rng 8280 8283, 11), (.rng 8285 8287, 11), (.eqc 12288, 11), (.eqc 8212, 13), (.rng 8228 8230, 17), (.rng 8252 8253, 18), (.rng 8263 8265, 18), (.eqc 12293, 18), (.eqc 12316, 18), (.eqc 8218, 19), (.eqc 8222, 19), (.eqc 8261, 19), (.eqc 8317, 19), (.eqc 8333, 19), (.eqc 8968, 19), (.eqc 8970, 19), (.eqc 9001, 19), (.eqc 10214, 19), (.eqc 10216, 19), (.eqc 10218, 19), (.eqc 10220, 19), (.eqc 10222, 19), (.eqc 12296, 19), (.eqc 12298, 19), (.eqc 12300, 19), (.eqc 12302, 19), (.eqc 12304, 19), (.eqc 12308, 19), (.eqc 12310, 19), (.eqc 12312, 19), (.eqc 12314, 19), (.eqc 8262, 21), (.eqc 8318, 21), (.eqc 8334, 21), (.eqc 8969, 21), (.eqc 8971, 21), (.eqc 9002, 21), (.eqc 10215, 21), (.eqc 10217, 21), (.eqc 10219, 21), (.eqc 10221, 21), (.eqc 10223, 21), (.rng 12289 12290, 21), (.eqc 12297, 21), (.eqc 12299, 21), (.eqc 12301, 21), (.eqc 12303, 21), (.eqc 12305, 21), (.eqc 12309, 21), (.eqc 12311, 21), (.eqc 12313, 21), (.eqc 12315, 21), (.rng 8216 8217, 22), (.rng 8219 8221, 22), (.eqc 8223, 22), (.rng 8249 8250, 22), (.eqc 8260, 23), (.rng 8240 8247, 25), (.eqc 8451, 25), (.eqc 8470, 26), (.rng 8722 8723, 26), (.rng 8352 8358, 26), (.rng 8360 8373, 26), (.rng 4352 4447, 33), (.rng 4448 4519, 34), (.rng 4520 4607, 35), (.rng 11904 12245, 29), (.rng 12291 12292, 29), (.rng 12294 12295, 29), (.rng 12353 12438, 29), (.rng 12449 12538, 29)]
def signBreakD : Int := 0
def highBreakL : List (Cnd × Int) := [(.eqc 65279, 7), (.ext 0, 9), (.eqc 65532, 15), (.eqc 65281, 16), (.eqc 65311, 16), (.eqc 64285, 28), (.rng 64287 64296, 28), (.rng 64298 64335, 28), (.rng 127462 127487, 32), (.rng 127995 127999, 31), (.rng 128074 128080, 30), (.rng 128102 128105, 30), (.rng 128581 128583, 30), (.rng 13312 19903, 29), (.rng 19968 40959, 29), (.rng 127744 127994, 29), (.rng 128000 128073, 29), (.rng 128081 128101, 29), (.rng 128106 128580, 29), (.rng 128584 128591, 29), (.ext 1, 36), (.ext 2, 37)]
def highBreakD : Int := 0
/-! ### what is called -/

theorem within_any (r a b : Int) (w : World) : Calls Tryd.prog 27 #[.int .i32 r, .int .i32 a, .int .i32 b] w fun e w' => e = .returned (.bool (decide (a ≤ r) && decide (r ≤ b))) ∧ w = w' := by
  rcases (show ¬ a ≤ r ∨ (a ≤ r ∧ r ≤ b) ∨ (a ≤ r ∧ ¬ r ≤ b) by omega) with h | h | h
  · have HE : Hid ((decide (a ≤ r) && decide (r ≤ b)) = false) := Lib.hid (by simp; omega)
    have b1 : (a ≤ r) = False := by simp; omega
    clear h
    generalize (decide (a ≤ r) && decide (r ≤ b)) = x at HE ⊢
    go_enter Tryd.func27, Tryd.ntmps27
    go_wp2_with fail
    go_ret
    exact ⟨by rw [HE.out]; rfl, rfl⟩
  · have HE : Hid ((decide (a ≤ r) && decide (r ≤ b)) = true) := Lib.hid (by simp; omega)
    have b1 : (a ≤ r) = True := by simp; omega
    have b2 : (r ≤ b) = True := by simp; omega
    clear h
    generalize (decide (a ≤ r) && decide (r ≤ b)) = x at HE ⊢
    go_enter Tryd.func27, Tryd.ntmps27
    go_wp2_with fail
    go_ret
    exact ⟨by rw [HE.out]; rfl, rfl⟩
  · have HE : Hid ((decide (a ≤ r) && decide (r ≤ b)) = false) := Lib.hid (by simp; omega)
    have b1 : (a ≤ r) = True := by simp; omega
    have b2 : (r ≤ b) = False := by simp; omega
    clear h
    generalize (decide (a ≤ r) && decide (r ≤ b)) = x at HE ⊢
    go_enter Tryd.func27, Tryd.ntmps27
    go_wp2_with fail
    go_ret
    exact ⟨by rw [HE.out]; rfl, rfl⟩

theorem enters (f : FuncId) (fn : Func) (hf : Tryd.prog.funcs[f]? = some fn) (hn : (fn.name == "runtime.NumGoroutine") = false) (hb : fn.body.isNone = false) (args : Array Value) (w : World) : (callFunc f args).run Tryd.prog w = .ok (.enter f args) w := by
  have hn' : ¬ fn.name = "runtime.NumGoroutine" := by simpa using hn
  have hb' : ¬ fn.body = none := by intro h; rw [h] at hb; cases hb
  simp [callFunc, hf, hn', hb']

theorem CKs.nil (P : Program) (E : Nat → Int → Bool) (G : Nat → Int → Value) (r : Int) : CKs P E G r [] := by
  intro f k h; cases h

theorem CKs.rng {E : Nat → Int → Bool} {G : Nat → Int → Value} {r : Int} {cs : List (Nat × CK)} (h : CKs Tryd.prog E G r cs) : CKs Tryd.prog E G r ((27, .rng) :: cs) := by
  intro f k hk
  rw [lookCK] at hk
  by_cases hf : (27 : Nat) = f
  · simp only [if_pos hf, Option.some.injEq] at hk
    subst hk
    subst hf
    exact ⟨enters _ _ Tryd.func27 (by kernel_rfl) (by kernel_rfl), fun a b w => within_any r a b w⟩
  · simp only [if_neg hf] at hk
    exact h f k hk

theorem CKs.ext {E : Nat → Int → Bool} {G : Nat → Int → Value} {r : Int} {cs : List (Nat × CK)} (h : CKs Tryd.prog E G r cs) (g : Nat) (fn : Func) (j : Nat) (hf : Tryd.prog.funcs[g]? = some fn) (hn : (fn.name == "runtime.NumGoroutine") = false) (hb : fn.body.isNone = false)
    (hc : ∀ w, Calls Tryd.prog g #[.int .i32 r] w fun e w' => e = .returned (.bool (E j r)) ∧ w = w') : CKs Tryd.prog E G r ((g, .ext j) :: cs) := by
  intro f k hk
  rw [lookCK] at hk
  by_cases hgf : g = f
  · simp only [if_pos hgf, Option.some.injEq] at hk
    subst hk
    subst hgf
    exact ⟨enters _ _ hf hn hb, hc⟩
  · simp only [if_neg hgf] at hk
    exact h f k hk

theorem CKs.val {E : Nat → Int → Bool} {G : Nat → Int → Value} {r : Int} {cs : List (Nat × CK)} (h : CKs Tryd.prog E G r cs) (g : Nat) (fn : Func) (j : Nat) (hf : Tryd.prog.funcs[g]? = some fn) (hn : (fn.name == "runtime.NumGoroutine") = false) (hb : fn.body.isNone = false)
    (hc : ∀ w, Calls Tryd.prog g #[.int .i32 r] w fun e w' => e = .returned (G j r) ∧ w = w') : CKs Tryd.prog E G r ((g, .val j) :: cs) := by
  intro f k hk
  rw [lookCK] at hk
  by_cases hgf : g = f
  · simp only [if_pos hgf, Option.some.injEq] at hk
    subst hk
    subst hgf
    exact ⟨enters _ _ hf hn hb, hc⟩
  · simp only [if_neg hgf] at hk
    exact h f k hk

def E0 : Nat → Int → Bool := fun _ _ => false
def G0 : Nat → Int → Value := fun _ _ => undef

theorem rngOnly (r : Int) : CKs Tryd.prog E0 G0 r [(27, .rng)] := (CKs.nil _ _ _ _).rng

theorem mark_any (r : Int) (w : World) : Calls Tryd.prog 28 #[.int .i32 r] w fun e w' => e = .returned (.bool (anyL E0 markL r)) ∧ w = w' := by
  have h := calls_decOf (rngOnly r) Tryd.func28 (fuel := 3000) (d := decO markL) (by kernel_rfl) w
  rw [decO_sem] at h
  exact h


/-- the tests that other functions make: mark, openSyllable, syllable -/
def E1 : Nat → Int → Bool
  | 0, r => anyL E0 markL r
  | 1, r => sylB r && openB r
  | 2, r => sylB r
  | _, _ => false

theorem markTestM (r : Int) : CKs Tryd.prog E1 G0 r [(27, .rng), (28, .ext 0)] :=
  ((CKs.nil _ _ _ _).ext _ _ 0 Tryd.func28 (by kernel_rfl) (by kernel_rfl) (fun w => mark_any r w)).rng

theorem joining_any (r : Int) (w : World) : Calls Tryd.prog 21 #[.int .i32 r] w fun e w' => e = .returned (.int .u8 (semL E1 joiningL joiningD r)) ∧ w = w' := by
  have h := calls_decOf (markTestM r) Tryd.func21 (fuel := 3000) (d := decL .u8 joiningL joiningD) (by kernel_rfl) w
  rw [decL_sem] at h
  exact h

/-- a chain that ends in another function's answer -/
def decV (k : IntKind) : List (Cnd × Int) → Nat → Dec
  | [], j => .leaf (.val j)
  | x :: l, j => .node x.1 (.leaf (.con (.int k x.2))) (decV k l j)

theorem decV_sem (E : Nat → Int → Bool) (G : Nat → Int → Value) (r : Int) (k : IntKind) (l : List (Cnd × Int)) (j : Nat) (d : Int) (hG : G j r = .int k d) : (decV k l j).sem E G r = .int k (semL E l d r) := by
  induction l with
  | nil => exact hG
  | cons x l ih =>
    rw [decV, Dec.sem, semL, ih]
    by_cases h : x.1.holds E r = true
    · rw [if_pos h, if_pos h]; rfl
    · rw [if_neg h, if_neg h]

def G1 : Nat → Int → Value := fun _ r => .int .u8 (semL E1 explicitClassL explicitClassD r)

/-- four parts -/
def fourS (a b c d : Int → Int) (r : Int) : Int := if r < 768 then a r else if r < 2048 then b r else if r < 12544 then c r else d r
def decF : Dec := .node (.ltc 768) (.leaf (.val 0)) (.node (.ltc 2048) (.leaf (.val 1)) (.node (.ltc 12544) (.leaf (.val 2)) (.leaf (.val 3))))

def G2 (a b c d : Int → Int) : Nat → Int → Value
  | 0, r => .int .u8 (a r)
  | 1, r => .int .u8 (b r)
  | 2, r => .int .u8 (c r)
  | _, r => .int .u8 (d r)

theorem decF_sem (E : Nat → Int → Bool) (a b c d : Int → Int) (r : Int) : decF.sem E (G2 a b c d) r = .int .u8 (fourS a b c d r) := by
  unfold fourS
  by_cases h1 : r < 768
  · simp [decF, Dec.sem, Cnd.holds, SV.at, G2, h1]
  · by_cases h2 : r < 2048
    · simp [decF, Dec.sem, Cnd.holds, SV.at, G2, h1, h2]
    · by_cases h3 : r < 12544
      · simp [decF, Dec.sem, Cnd.holds, SV.at, G2, h1, h2, h3]
      · simp [decF, Dec.sem, Cnd.holds, SV.at, G2, h1, h2, h3]

def classC (r : Int) : Int := fourS (semL E1 lowClassL lowClassD) (semL E1 rightClassL rightClassD) (fun r => semL E1 signClassL (semL E1 explicitClassL explicitClassD r) r) (semL E1 highClassL highClassD) r
def breakC (r : Int) : Int := fourS (semL E1 lowBreakL lowBreakD) (semL E1 rightBreakL rightBreakD) (semL E1 signBreakL signBreakD) (semL E1 highBreakL highBreakD) r

end Go.Proofs.YtbdhgjaoojimmaaDoor
