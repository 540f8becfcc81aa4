/-
  What ucd's functions of a character answer: as lists of tests, held against their own text by the kernel.
-/
import Derived.Test.YtdbimchiecdkoaaGreatDec
import Derived.Test.YtdbimchiecdkoaaGreatSim
import Derived.Test.YtdbimchiecdkoaaGreatRefU
namespace Go.Proofs.YtdbimchiecdkoaaGreat
open Go Go.RowKit
def semL (E : Nat → Int → Bool) : List (Cnd × Int) → Int → Int → Int
  | [], d, _ => d
  | x :: l, d, r => if x.1.holds E r then x.2 else semL E l d r
def anyL (E : Nat → Int → Bool) : List Cnd → Int → Bool
  | [], _ => false
  | c :: l, r => c.holds E r || anyL E l r
def decL (k : IntKind) : List (Cnd × Int) → Int → Dec
  | [], d => .leaf (.con (.int k d))
  | x :: l, d => .node x.1 (.leaf (.con (.int k x.2))) (decL k l d)
theorem decL_sem (E : Nat → Int → Bool) (G : Nat → Int → Value) (r : Int) (k : IntKind) (l : List (Cnd × Int)) (d : Int) : (decL k l d).sem E G r = .int k (semL E l d r) := by
  induction l with
  | nil => rfl
  | cons x l ih =>
    rw [decL, Dec.sem, semL, ih]
    by_cases h : x.1.holds E r = true
    · rw [if_pos h, if_pos h]; rfl
    · rw [if_neg h, if_neg h]
def decO : List Cnd → Dec
  | [] => .leaf (.con (.bool false))
  | [c] => .leaf (.cnd c)
  | c :: l => .node c (.leaf (.con (.bool true))) (decO l)
theorem decO_sem (E : Nat → Int → Bool) (G : Nat → Int → Value) (r : Int) (l : List Cnd) : (decO l).sem E G r = .bool (anyL E l r) := by
  induction l with
  | nil => rfl
  | cons c l ih =>
    cases l with
    | nil => simp [decO, Dec.sem, SV.at, anyL]
    | cons d l =>
      rw [decO, Dec.sem, anyL, ih]
      · cases c.holds E r <;> simp [Dec.sem, SV.at]
      · simp
def Cnd.cuts (X : Nat → List Int) : Cnd → List Int
  | .rng a b => [a, b + 1]
  | .eqc c => [c, c + 1]
  | .ltc c => [c]
  | .ext k => X k
def TurnsB (f : Int → Bool) (l : List Int) : Prop := ∀ r p, (∀ c ∈ l, c ≤ r ↔ c ≤ p) → f r = f p
theorem Cnd.turns (E : Nat → Int → Bool) (X : Nat → List Int) (hE : ∀ k, TurnsB (E k) (X k)) (c : Cnd) : TurnsB (c.holds E) (c.cuts X) := by
  intro r p h
  cases c with
  | rng a b =>
    have h1 := h a (by simp [Cnd.cuts])
    have h2 := h (b + 1) (by simp [Cnd.cuts])
    show (decide (a ≤ r) && decide (r ≤ b)) = (decide (a ≤ p) && decide (p ≤ b))
    have e1 : decide (a ≤ r) = decide (a ≤ p) := by simp [h1]
    have e2 : decide (r ≤ b) = decide (p ≤ b) := by simp only [decide_eq_decide]; omega
    rw [e1, e2]
  | eqc c =>
    have h1 := h c (by simp [Cnd.cuts])
    have h2 := h (c + 1) (by simp [Cnd.cuts])
    show decide (r = c) = decide (p = c)
    simp only [decide_eq_decide]; omega
  | ltc c =>
    have h1 := h c (by simp [Cnd.cuts])
    show decide (r < c) = decide (p < c)
    simp only [decide_eq_decide]; omega
  | ext k => exact hE k r p h
def cutsL (X : Nat → List Int) (l : List (Cnd × Int)) : List Int := l.flatMap fun x => x.1.cuts X
def cutsO (X : Nat → List Int) (l : List Cnd) : List Int := l.flatMap fun c => c.cuts X
theorem semL_turns (E : Nat → Int → Bool) (X : Nat → List Int) (hE : ∀ k, TurnsB (E k) (X k)) (l : List (Cnd × Int)) (d : Int) : TurnsAt (semL E l d) (cutsL X l) := by
  intro r p h
  induction l with
  | nil => rfl
  | cons x l ih =>
    have e : cutsL X (x :: l) = x.1.cuts X ++ cutsL X l := rfl
    rw [e] at h
    have h1 : x.1.holds E r = x.1.holds E p := Cnd.turns E X hE x.1 r p (fun c hc => h c (List.mem_append_left _ hc))
    have h2 := ih (fun c hc => h c (List.mem_append_right _ hc))
    rw [semL, semL, h1, h2]
theorem anyL_turns (E : Nat → Int → Bool) (X : Nat → List Int) (hE : ∀ k, TurnsB (E k) (X k)) (l : List Cnd) : TurnsB (anyL E l) (cutsO X l) := by
  intro r p h
  induction l with
  | nil => rfl
  | cons x l ih =>
    have e : cutsO X (x :: l) = x.cuts X ++ cutsO X l := rfl
    rw [e] at h
    have h1 : x.holds E r = x.holds E p := Cnd.turns E X hE x r p (fun c hc => h c (List.mem_append_left _ hc))
    have h2 := ih (fun c hc => h c (List.mem_append_right _ hc))
    rw [anyL, anyL, h1, h2]
def markL : List Cnd := [.rng 1155 1161, .rng 1425 1469, .eqc 1471, .rng 1473 1474, .rng 1476 1477, .eqc 1479, .rng 1552 1562, .rng 1611 1631, .eqc 1648, .rng 1750 1756, .rng 1759 1764, .rng 1767 1768, .rng 1770 1773, .eqc 1809, .rng 1840 1866, .rng 1958 1968, .rng 8400 8432, .eqc 64286, .rng 65024 65039, .rng 65056 65071, .rng 125252 125258, .rng 917760 917999]
def wideL : List Cnd := [.rng 4352 4447, .rng 11904 12350, .rng 12353 13311, .rng 13312 19903, .rng 19968 40959, .rng 44032 55203, .rng 65281 65376, .rng 127744 128591]
def lowBreakL : List (Cnd × Int) := [(.eqc 10, 3), (.eqc 13, 2), (.eqc 133, 4), (.rng 11 12, 1), (.eqc 32, 5), (.eqc 160, 8), (.rng 0 8, 9), (.rng 14 31, 9), (.rng 127 132, 9), (.rng 134 159, 9), (.eqc 9, 11), (.eqc 124, 11), (.eqc 173, 11), (.eqc 180, 12), (.eqc 45, 14), (.eqc 33, 16), (.eqc 63, 16), (.eqc 40, 19), (.eqc 91, 19), (.eqc 123, 19), (.eqc 161, 19), (.eqc 191, 19), (.eqc 41, 20), (.eqc 93, 20), (.eqc 125, 21), (.eqc 34, 22), (.eqc 39, 22), (.eqc 171, 22), (.eqc 187, 22), (.eqc 44, 23), (.eqc 46, 23), (.rng 58 59, 23), (.eqc 47, 24), (.eqc 37, 25), (.eqc 162, 25), (.eqc 176, 25), (.eqc 36, 26), (.eqc 43, 26), (.eqc 92, 26), (.rng 163 165, 26), (.eqc 177, 26), (.rng 48 57, 27)]
def lowBreakD : Int := 0
def rightBreakL : List (Cnd × Int) := [(.eqc 847, 8), (.rng 860 866, 8), (.ext 0, 9), (.rng 768 846, 9), (.rng 848 859, 9), (.rng 867 879, 9), (.eqc 1470, 11), (.eqc 1478, 16), (.eqc 1563, 16), (.rng 1565 1567, 16), (.eqc 1748, 16), (.eqc 1417, 23), (.rng 1548 1549, 23), (.rng 1545 1547, 25), (.eqc 1642, 25), (.rng 1632 1641, 27), (.rng 1643 1644, 27), (.rng 1776 1785, 27), (.rng 1488 1514, 28), (.rng 1519 1522, 28)]
def rightBreakD : Int := 0
def signBreakL : List (Cnd × Int) := [(.rng 8232 8233, 1), (.eqc 8203, 6), (.eqc 8288, 7), (.eqc 8199, 8), (.eqc 8209, 8), (.eqc 8239, 8), (.eqc 8205, 10), (.ext 0, 9), (.eqc 8204, 9), (.rng 8206 8207, 9), (.rng 8234 8238, 9), (.rng 8294 8303, 9), (.rng 8192 8198, 11), (.rng 8200 8202, 11), (.eqc 8208, 11), (.rng 8210 8211, 11), (.eqc 8231, 11), (.eqc 8278, 11), (.rng 8280 8283, 11), (.rng 8285 8287, 11), (.eqc 12288, 11), (.eqc 8212, 13), (.rng 8228 8230, 17), (.rng 8252 8253, 18), (.rng 8263 8265, 18), (.eqc 12293, 18), (.eqc 12316, 18), (.eqc 8218, 19), (.eqc 8222, 19), (.eqc 8261, 19), (.eqc 8317, 19), (.eqc 8333, 19), (.eqc 8968, 19), (.eqc 8970, 19), (.eqc 9001, 19), (.eqc 10214, 19), (.eqc 10216, 19), (.eqc 10218, 19), (.eqc 10220, 19), (.eqc 10222, 19), (.eqc 12296, 19), (.eqc 12298, 19), (.eqc 12300, 19), (.eqc 12302, 19), (.eqc 12304, 19), (.eqc 12308, 19), (.eqc 12310, 19), (.eqc 12312, 19), (.eqc 12314, 19), (.eqc 8262, 21), (.eqc 8318, 21), (.eqc 8334, 21), (.eqc 8969, 21), (.eqc 8971, 21), (.eqc 9002, 21), (.eqc 10215, 21), (.eqc 10217, 21), (.eqc 10219, 21), (.eqc 10221, 21), (.eqc 10223, 21), (.rng 12289 12290, 21), (.eqc 12297, 21), (.eqc 12299, 21), (.eqc 12301, 21), (.eqc 12303, 21), (.eqc 12305, 21), (.eqc 12309, 21), (.eqc 12311, 21), (.eqc 12313, 21), (.eqc 12315, 21), (.rng 8216 8217, 22), (.rng 8219 8221, 22), (.eqc 8223, 22), (.rng 8249 8250, 22), (.eqc 8260, 23), (.rng 8240 8247, 25), (.eqc 8451, 25), (.eqc 8470, 26), (.rng 8722 8723, 26), (.rng 8352 8358, 26), (.rng 8360 8373, 26), (.rng 4352 4447, 33), (.rng 4448 4519, 34), (.rng 4520 4607, 35), (.rng 11904 12245, 29), (.rng 12291 12292, 29), (.rng 12294 12295, 29), (.rng 12353 12438, 29), (.rng 12449 12538, 29)]
def signBreakD : Int := 0
def highBreakL : List (Cnd × Int) := [(.eqc 65279, 7), (.ext 0, 9), (.eqc 65532, 15), (.eqc 65281, 16), (.eqc 65311, 16), (.eqc 64285, 28), (.rng 64287 64296, 28), (.rng 64298 64335, 28), (.rng 127462 127487, 32), (.rng 127995 127999, 31), (.rng 128074 128080, 30), (.rng 128102 128105, 30), (.rng 128581 128583, 30), (.rng 13312 19903, 29), (.rng 19968 40959, 29), (.rng 127744 127994, 29), (.rng 128000 128073, 29), (.rng 128081 128101, 29), (.rng 128106 128580, 29), (.rng 128584 128591, 29), (.ext 1, 36), (.ext 2, 37)]
def highBreakD : Int := 0
theorem within_any (r a b : Int) (w : World) : Calls Tryz.prog 102 #[.int .i32 r, .int .i32 a, .int .i32 b] w fun e w' => e = .returned (.bool (decide (a ≤ r) && decide (r ≤ b))) ∧ w = w' := by
  rcases (show ¬ a ≤ r ∨ (a ≤ r ∧ r ≤ b) ∨ (a ≤ r ∧ ¬ r ≤ b) by omega) with h | h | h
  · have HE : Hid ((decide (a ≤ r) && decide (r ≤ b)) = false) := Lib.hid (by simp; omega)
    have b1 : (a ≤ r) = False := by simp; omega
    clear h
    generalize (decide (a ≤ r) && decide (r ≤ b)) = x at HE ⊢
    go_enter Tryz.func102, Tryz.ntmps102
    go_wp2_with fail
    go_ret
    exact ⟨by rw [HE.out]; rfl, rfl⟩
  · have HE : Hid ((decide (a ≤ r) && decide (r ≤ b)) = true) := Lib.hid (by simp; omega)
    have b1 : (a ≤ r) = True := by simp; omega
    have b2 : (r ≤ b) = True := by simp; omega
    clear h
    generalize (decide (a ≤ r) && decide (r ≤ b)) = x at HE ⊢
    go_enter Tryz.func102, Tryz.ntmps102
    go_wp2_with fail
    go_ret
    exact ⟨by rw [HE.out]; rfl, rfl⟩
  · have HE : Hid ((decide (a ≤ r) && decide (r ≤ b)) = false) := Lib.hid (by simp; omega)
    have b1 : (a ≤ r) = True := by simp; omega
    have b2 : (r ≤ b) = False := by simp; omega
    clear h
    generalize (decide (a ≤ r) && decide (r ≤ b)) = x at HE ⊢
    go_enter Tryz.func102, Tryz.ntmps102
    go_wp2_with fail
    go_ret
    exact ⟨by rw [HE.out]; rfl, rfl⟩
theorem enters (f : FuncId) (fn : Func) (hf : Tryz.prog.funcs[f]? = some fn) (hn : (fn.name == "runtime.NumGoroutine") = false) (hb : fn.body.isNone = false) (args : Array Value) (w : World) : (callFunc f args).run Tryz.prog w = .ok (.enter f args) w := by
  have hn' : ¬ fn.name = "runtime.NumGoroutine" := by simpa using hn
  have hb' : ¬ fn.body = none := by intro h; rw [h] at hb; cases hb
  simp [callFunc, hf, hn', hb']
theorem CKs.nil (P : Program) (E : Nat → Int → Bool) (G : Nat → Int → Value) (r : Int) : CKs P E G r [] := by
  intro f k h; cases h
theorem CKs.rng {E : Nat → Int → Bool} {G : Nat → Int → Value} {r : Int} {cs : List (Nat × CK)} (h : CKs Tryz.prog E G r cs) : CKs Tryz.prog E G r ((102, .rng) :: cs) := by
  intro f k hk
  rw [lookCK] at hk
  by_cases hf : (102 : Nat) = f
  · simp only [if_pos hf, Option.some.injEq] at hk
    subst hk
    subst hf
    exact ⟨enters _ _ Tryz.func102 (by kernel_rfl) (by kernel_rfl), fun a b w => within_any r a b w⟩
  · simp only [if_neg hf] at hk
    exact h f k hk
theorem CKs.ext {E : Nat → Int → Bool} {G : Nat → Int → Value} {r : Int} {cs : List (Nat × CK)} (h : CKs Tryz.prog E G r cs) (g : Nat) (fn : Func) (j : Nat) (hf : Tryz.prog.funcs[g]? = some fn) (hn : (fn.name == "runtime.NumGoroutine") = false) (hb : fn.body.isNone = false)
    (hc : ∀ w, Calls Tryz.prog g #[.int .i32 r] w fun e w' => e = .returned (.bool (E j r)) ∧ w = w') : CKs Tryz.prog E G r ((g, .ext j) :: cs) := by
  intro f k hk
  rw [lookCK] at hk
  by_cases hgf : g = f
  · simp only [if_pos hgf, Option.some.injEq] at hk
    subst hk
    subst hgf
    exact ⟨enters _ _ hf hn hb, hc⟩
  · simp only [if_neg hgf] at hk
    exact h f k hk
theorem CKs.val {E : Nat → Int → Bool} {G : Nat → Int → Value} {r : Int} {cs : List (Nat × CK)} (h : CKs Tryz.prog E G r cs) (g : Nat) (fn : Func) (j : Nat) (hf : Tryz.prog.funcs[g]? = some fn) (hn : (fn.name == "runtime.NumGoroutine") = false) (hb : fn.body.isNone = false)
    (hc : ∀ w, Calls Tryz.prog g #[.int .i32 r] w fun e w' => e = .returned (G j r) ∧ w = w') : CKs Tryz.prog E G r ((g, .val j) :: cs) := by
  intro f k hk
  rw [lookCK] at hk
  by_cases hgf : g = f
  · simp only [if_pos hgf, Option.some.injEq] at hk
    subst hk
    subst hgf
    exact ⟨enters _ _ hf hn hb, hc⟩
  · simp only [if_neg hgf] at hk
    exact h f k hk
def E0 : Nat → Int → Bool := fun _ _ => false
def G0 : Nat → Int → Value := fun _ _ => undef
theorem rngOnly (r : Int) : CKs Tryz.prog E0 G0 r [(102, .rng)] := (CKs.nil _ _ _ _).rng
theorem mark_any (r : Int) (w : World) : Calls Tryz.prog 103 #[.int .i32 r] w fun e w' => e = .returned (.bool (anyL E0 markL r)) ∧ w = w' := by
  have h := calls_decOf (rngOnly r) Tryz.func103 (fuel := 3000) (d := decO markL) (by kernel_rfl) w
  rw [decO_sem] at h
  exact h
theorem wide_any (r : Int) (w : World) : Calls Tryz.prog 97 #[.int .i32 r] w fun e w' => e = .returned (.bool (anyL E0 wideL r)) ∧ w = w' := by
  have h := calls_decOf (rngOnly r) Tryz.func97 (fuel := 3000) (d := decO wideL) (by kernel_rfl) w
  rw [decO_sem] at h
  exact h
def E1 : Nat → Int → Bool
  | 0, r => anyL E0 markL r
  | 1, r => sylB r && openB r
  | 2, r => sylB r
  | _, _ => false
set_option maxRecDepth 20000 in
theorem ucdSyllable_any (r : Int) (w : World) : Calls Tryz.prog 105 #[.int .i32 r] w fun e w' => e = .returned (.bool (sylB r)) ∧ w = w' := by
  have h := calls_decOf (rngOnly r) Tryz.func105 (fuel := 3000) (d := decO [.rng 44032 55203]) (by kernel_rfl) w
  rw [decO_sem] at h
  have e : anyL E0 [.rng 44032 55203] r = sylB r := by simp [anyL, sylB, Cnd.holds]
  rw [e] at h
  exact h
set_option maxRecDepth 20000 in
theorem openSyllable_any (r : Int) (w : World) : Calls Tryz.prog 104 #[.int .i32 r] w fun e w' => e = .returned (.bool (sylB r && openB r)) ∧ w = w' := by
  cases hs : sylB r with
  | false =>
    have hc := ucdSyllable_any r w
    rw [hs] at hc
    clear hs
    go_enter Tryz.func104, Tryz.ntmps104
    go_wp2_with fail
    refine hc.mono ?_
    rintro e w1 ⟨rfl, rfl⟩
    go_wp2_with fail
    go_ret
    exact ⟨rfl, rfl⟩
  | true =>
    have hc := ucdSyllable_any r w
    rw [hs] at hc
    have hb : 44032 ≤ r ∧ r ≤ 55203 := by
      unfold sylB at hs
      simpa [Bool.and_eq_true, decide_eq_true_eq] using hs
    obtain ⟨y, hy⟩ : ∃ y, y = r - 44032 := ⟨_, rfl⟩
    have q1 : IntKind.i32.wrap (r - 44032) = y := by rw [IntKind.wrap_i32]; omega
    have hy0 : 0 ≤ y := by omega
    have q3 : IntKind.i32.wrap y = y := by rw [IntKind.wrap_i32]; omega
    obtain ⟨z, hz⟩ : ∃ z, z = y % 28 := ⟨_, rfl⟩
    have q2 : y % 28 = z := hz.symm
    have HO : Hid ((true && openB r) = decide (z = 0)) := Lib.hid (by rw [hz, hy]; simp [openB])
    clear hs hb hy hz
    go_enter Tryz.func104, Tryz.ntmps104
    go_wp2_with fail
    refine hc.mono ?_
    rintro e w1 ⟨rfl, rfl⟩
    go_wp2_with fail
    go_ret
    exact ⟨by rw [HO.out]; rfl, rfl⟩
theorem markTest (r : Int) : CKs Tryz.prog E1 G0 r [(102, .rng), (103, .ext 0), (104, .ext 1), (105, .ext 2)] :=
  ((((CKs.nil _ _ _ _).ext _ _ 2 Tryz.func105 (by kernel_rfl) (by kernel_rfl) (fun w => ucdSyllable_any r w)).ext _ _ 1 Tryz.func104 (by kernel_rfl) (by kernel_rfl) (fun w => openSyllable_any r w)).ext _ _ 0 Tryz.func103 (by kernel_rfl) (by kernel_rfl) (fun w => mark_any r w)).rng
theorem lowBreak_any (r : Int) (w : World) : Calls Tryz.prog 98 #[.int .i32 r] w fun e w' => e = .returned (.int .u8 (semL E1 lowBreakL lowBreakD r)) ∧ w = w' := by
  have h := calls_decOf (markTest r) Tryz.func98 (fuel := 3000) (d := decL .u8 lowBreakL lowBreakD) (by kernel_rfl) w
  rw [decL_sem] at h
  exact h
theorem rightBreak_any (r : Int) (w : World) : Calls Tryz.prog 99 #[.int .i32 r] w fun e w' => e = .returned (.int .u8 (semL E1 rightBreakL rightBreakD r)) ∧ w = w' := by
  have h := calls_decOf (markTest r) Tryz.func99 (fuel := 3000) (d := decL .u8 rightBreakL rightBreakD) (by kernel_rfl) w
  rw [decL_sem] at h
  exact h
theorem signBreak_any (r : Int) (w : World) : Calls Tryz.prog 100 #[.int .i32 r] w fun e w' => e = .returned (.int .u8 (semL E1 signBreakL signBreakD r)) ∧ w = w' := by
  have h := calls_decOf (markTest r) Tryz.func100 (fuel := 3000) (d := decL .u8 signBreakL signBreakD) (by kernel_rfl) w
  rw [decL_sem] at h
  exact h
theorem highBreak_any (r : Int) (w : World) : Calls Tryz.prog 101 #[.int .i32 r] w fun e w' => e = .returned (.int .u8 (semL E1 highBreakL highBreakD r)) ∧ w = w' := by
  have h := calls_decOf (markTest r) Tryz.func101 (fuel := 3000) (d := decL .u8 highBreakL highBreakD) (by kernel_rfl) w
  rw [decL_sem] at h
  exact h
def fourS (a b c d : Int → Int) (r : Int) : Int := if r < 768 then a r else if r < 2048 then b r else if r < 12544 then c r else d r
def decF : Dec := .node (.ltc 768) (.leaf (.val 0)) (.node (.ltc 2048) (.leaf (.val 1)) (.node (.ltc 12544) (.leaf (.val 2)) (.leaf (.val 3))))
def G2 (a b c d : Int → Int) : Nat → Int → Value
  | 0, r => .int .u8 (a r)
  | 1, r => .int .u8 (b r)
  | 2, r => .int .u8 (c r)
  | _, r => .int .u8 (d r)
theorem decF_sem (E : Nat → Int → Bool) (a b c d : Int → Int) (r : Int) : decF.sem E (G2 a b c d) r = .int .u8 (fourS a b c d r) := by
  unfold fourS
  by_cases h1 : r < 768
  · simp [decF, Dec.sem, Cnd.holds, SV.at, G2, h1]
  · by_cases h2 : r < 2048
    · simp [decF, Dec.sem, Cnd.holds, SV.at, G2, h1, h2]
    · by_cases h3 : r < 12544
      · simp [decF, Dec.sem, Cnd.holds, SV.at, G2, h1, h2, h3]
      · simp [decF, Dec.sem, Cnd.holds, SV.at, G2, h1, h2, h3]
def breakC (r : Int) : Int := fourS (semL E1 lowBreakL lowBreakD) (semL E1 rightBreakL rightBreakD) (semL E1 signBreakL signBreakD) (semL E1 highBreakL highBreakD) r
theorem break_any (r : Int) (w : World) : Calls Tryz.prog 88 #[.int .i32 r] w fun e w' => e = .returned (.int .u8 (breakC r)) ∧ w = w' := by
  have h := calls_decOf (E := E0) (G := G2 (semL E1 lowBreakL lowBreakD) (semL E1 rightBreakL rightBreakD) (semL E1 signBreakL signBreakD) (semL E1 highBreakL highBreakD)) (r := r)
    (((((CKs.nil Tryz.prog _ _ _).val _ _ 3 Tryz.func101 (by kernel_rfl) (by kernel_rfl) (fun w => highBreak_any r w)).val _ _ 2 Tryz.func100 (by kernel_rfl) (by kernel_rfl) (fun w => signBreak_any r w)).val _ _ 1 Tryz.func99 (by kernel_rfl) (by kernel_rfl) (fun w => rightBreak_any r w)).val _ _ 0 Tryz.func98 (by kernel_rfl) (by kernel_rfl) (fun w => lowBreak_any r w))
    Tryz.func88 (fuel := 3000) (d := decF) (by kernel_rfl) w
  rw [decF_sem] at h
  exact h
end Go.Proofs.YtdbimchiecdkoaaGreat
