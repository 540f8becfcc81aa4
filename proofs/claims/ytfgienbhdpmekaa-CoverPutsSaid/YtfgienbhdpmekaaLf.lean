/-
  Lists: coverages and classes put, and read again.
-/
import Derived.Test.YtfgienbhdpmekaaLe
import Derived.Test.YtfgienbhdpmekaaT8
namespace Go.Proofs.Ytfgienbhdpmekaa
open Go Go.RowKit

/-! ### numbers put as words -/
theorem strL_rep (n : Nat) : strL ⟨(Lib.repeatL (⟨#[72]⟩ : ByteArray).data.toList n).toArray⟩ = List.replicate n 72 := by
  unfold strL
  show (Lib.repeatL [72] n).map (fun b => ((b.toNat : Nat) : Int)) = _
  induction n with
  | zero => rfl
  | succ n ih => rw [Lib.repeatL, List.map_append, ih, List.replicate_succ]; rfl

theorem kput_eq (N : Nat) (hN : 2 < N) (l : List Int) (v : Int) (hv : 0 ≤ v ∧ v ≤ 65535) (hl : l.length + 2 ≤ 1000000000) : bKput N 0 65535 2 l v = some (l ++ [v / 256, v % 256], true) := by
  obtain ⟨N, rfl⟩ : ∃ m, N = m + 3 := ⟨N - 3, by omega⟩
  unfold bKput
  rw [if_neg (by omega), if_neg (by omega)]
  simp only [Option.bind_some]
  rw [w64 (by omega) (by omega), bKput_L1, if_pos (by omega), w64 (x := 8 * (2 - 1)) (by omega) (by omega), if_neg (by omega)]
  have e1 : IntKind.u8.wrap (ishr .i64 v (8 * (2 - 1))) = v / 256 := by
    unfold ishr
    rw [show (2 : Int) ^ min (8 * (2 - 1) : Int).toNat IntKind.i64.bits = 256 by decide]
    exact b2_hi hv
  rw [e1, apx_eq (by simp; omega)]
  simp only [Option.bind_some]
  rw [w64 (by omega) (by omega), bKput_L1, if_pos (by omega), w64 (x := 8 * (2 - 1 - 1)) (by omega) (by omega), if_neg (by omega)]
  have e2 : IntKind.u8.wrap (ishr .i64 v (8 * (2 - 1 - 1))) = v % 256 := by
    unfold ishr
    rw [show (2 : Int) ^ min (8 * (2 - 1 - 1) : Int).toNat IntKind.i64.bits = 1 by decide, Int.fdiv_one]
    exact b2_lo v
  rw [e2, apx_eq (by simp; omega)]
  simp only [Option.bind_some]
  rw [w64 (by omega) (by omega), bKput_L1, if_neg (by omega)]
  simp

theorem put_loop (N : Nat) (hN : 2 < N) (ws : List Int) (hU : U16 ws) (s : ByteArray) (hs : strL s = List.replicate ws.length 72) (hw : ws.length ≤ 1000000) : ∀ (k x : Nat) (b : List Int), x ≤ ws.length → ws.length - x < k → b.length = 2 * x → bPut_L1 N ws s k b (x : Int) = some (Ctl.go (b ++ flatW (ws.drop x))) := by
  intro k
  induction k with
  | zero => intro x b _ h; omega
  | succ k ih =>
    intro x b hx hk hb
    rw [bPut_L1]
    by_cases h : x < ws.length
    · rw [if_pos (by omega), ix_nat h, hs, ix_nat (by rw [List.length_replicate]; exact h)]
      simp only [Option.bind_some]
      rw [show (List.replicate ws.length (72 : Int)).getD x 0 = 72 by simp [List.getD_eq_getElem?_getD, h], show bKind N 72 = some (0, 65535, 2) by unfold bKind; rfl]
      simp only [Option.bind_some]
      rw [kput_eq N hN b _ (hU.at x) (by omega)]
      simp only [Option.bind_some]
      rw [w64 (by omega) (by omega), show (x : Int) + 1 = ((x + 1 : Nat) : Int) by omega, ih (x + 1) _ (by omega) (by omega) (by simp; omega), drop_cons (l := ws) (x := x) h, flatW_cons]
      simp
    · rw [if_neg (by omega), List.drop_of_length_le (by omega)]
      simp [flatW]

theorem cput_eq (N : Nat) (hN : 2 < N) (ws : List Int) (hU : U16 ws) (hw : ws.length ≤ 1000000) (hN2 : ws.length < N) : cPut N ws = some (flatW ws) := by
  unfold cPut sRepeat
  have hsz : ((⟨#[72]⟩ : ByteArray).size : Int) = 1 := rfl
  rw [if_pos ⟨by omega, by rw [hsz]; omega, by omega⟩]
  simp only [Option.bind_some, Int.toNat_natCast]
  have hs := strL_rep ws.length
  have hsize : (⟨(Lib.repeatL (⟨#[72]⟩ : ByteArray).data.toList ws.length).toArray⟩ : ByteArray).size = ws.length := by
    rw [← strL_len, hs, List.length_replicate]
  unfold bPut
  rw [if_neg (by omega), if_neg (by rw [hsize]; simp)]
  have := put_loop N hN ws hU _ hs hw N 0 [] (by omega) (by omega) rfl
  rw [show ((0 : Nat) : Int) = 0 from rfl] at this
  rw [this]
  rfl

theorem two_eq (N : Nat) (v : Int) (h : 0 ≤ v ∧ v ≤ 65535) : rTwo N v = some [v / 256, v % 256] := by
  unfold rTwo
  rw [b2_hi h, b2_lo]

/-! ### coverages -/
def riseB : Int → List Int → Bool
  | _, [] => true
  | e, x :: r => decide (e < x) && riseB x r

theorem rise_of : ∀ {e : Int} {l : List Int}, riseB e l = true → Rise l
  | e, [], _ => fun i hi => by simp at hi
  | e, [x], _ => fun i hi => by simp at hi
  | e, x :: y :: r, h => by
    unfold riseB at h
    rw [Bool.and_eq_true] at h
    have ih := rise_of h.2
    have h2 := h.2
    unfold riseB at h2
    rw [Bool.and_eq_true] at h2
    intro i hi
    cases i with
    | zero => simpa using of_decide_eq_true h2.1
    | succ i =>
      have := ih i (by simp only [List.length_cons] at hi ⊢; omega)
      simpa using this

theorem putcov_rounds (N : Nat) : ∀ (l : List Int) (s : Nat) (w : List Int) (e : Int), w.length + l.length ≤ 1000000000 →
    ∃ c, cPutCov_X1 N (listedI l s) w e = some c ∧ (match c with | Ctl.go (w', _) => riseB e l = true ∧ w' = w ++ l | Ctl.ret _ => riseB e l = false)
  | [], s, w, e, _ => ⟨_, rfl, rfl, by simp⟩
  | x :: r, s, w, e, hw => by
    simp only [List.length_cons] at hw
    rw [listedI, cPutCov_X1, riseB]
    by_cases h : x ≤ e
    · rw [if_pos h, decide_eq_false (by omega)]
      exact ⟨_, rfl, rfl⟩
    · rw [if_neg h, decide_eq_true (by omega), apx_eq (by simp; omega)]
      simp only [Option.bind_some, Bool.true_and]
      obtain ⟨c, e1, e2⟩ := putcov_rounds N r (s + 1) (w ++ [x]) x (by simp; omega)
      refine ⟨c, e1, ?_⟩
      cases c with
      | go s => exact ⟨e2.1, by rw [e2.2]; simp⟩
      | ret s => exact e2

/-- a coverage of the format 1, or refused -/
def putCov (l : List Int) : List Int × Int := if 1 ≤ l.length ∧ l.length ≤ 65535 ∧ riseB (-1) l = true then (flatW (1 :: (l.length : Int) :: l), 0) else ([], 2)

theorem cons2_u16 (a : Int) (n : Nat) {l : List Int} (ha : 0 ≤ a ∧ a ≤ 65535) (hn : n ≤ 65535) (hl : U16 l) : U16 (a :: (n : Int) :: l) := by
  intro x hx
  rcases List.mem_cons.1 hx with rfl | hx
  · exact ha
  · rcases List.mem_cons.1 hx with rfl | hx
    · omega
    · exact hl x hx

theorem putcov_eq (N : Nat) (hN : 200000 ≤ N) (l : List Int) (hU : U16 l) : cPutCov N l = some (putCov l) := by
  unfold cPutCov cCount putCov
  by_cases h1 : 1 ≤ l.length
  · rw [if_pos (by omega)]
    simp only [Option.bind_some]
    by_cases h2 : l.length ≤ 65535
    · rw [decide_eq_true (by omega)]
      simp only []
      rw [listed_eq N l hU (by omega) (by omega)]
      simp only [Option.bind_some]
      obtain ⟨c, e1, e2⟩ := putcov_rounds N l 0 [1, (l.length : Int)] (-1) (by rw [List.length_cons, List.length_cons, List.length_nil]; omega)
      rw [e1]
      cases c with
      | go s =>
        obtain ⟨w, e⟩ := s
        obtain ⟨e3, rfl⟩ := e2
        rw [if_pos ⟨h1, h2, e3⟩]
        rw [Option.bind_some]
        show ((cPut N (1 :: (l.length : Int) :: l)).bind fun l96 => some (l96, (0 : Int))) = _
        rw [cput_eq N (by omega) _ (cons2_u16 1 l.length ⟨by omega, by omega⟩ h2 hU) (by rw [List.length_cons, List.length_cons]; omega) (by rw [List.length_cons, List.length_cons]; omega)]
        rfl
      | ret s =>
        rw [if_neg (fun h => by rw [e2] at h; exact absurd h.2.2 (by decide))]
        rfl
    · rw [decide_eq_false (by omega), if_neg (fun h => h2 h.2.1)]
  · rw [if_neg (by omega), if_neg (fun h => h1 h.1)]
    rfl

theorem rputcov_loop (l : List Int) (hU : U16 l) (hl : l.length ≤ 65535) : ∀ (k i : Nat) (b : List Int), i ≤ l.length → l.length - i < k → b.length ≤ 4 + 2 * i →
    rPutCov_L1 200000 l k b (i : Int) = some (if riseB (if i = 0 then -1 else l.getD (i - 1) 0) (l.drop i) = true then Ctl.go (b ++ flatW (l.drop i)) else Ctl.ret ([], 2)) := by
  intro k
  induction k with
  | zero => intro i b _ h; omega
  | succ k ih =>
    intro i b hi hk hb
    rw [rPutCov_L1]
    by_cases h : i < l.length
    · have hx := hU.at i
      have main : ((ix l (i : Int)).bind fun x84 => ((rTwo 200000 (IntKind.i64.wrap x84)).bind fun l90 => ((apx b l90).bind fun l94 => rPutCov_L1 200000 l k l94 (IntKind.i64.wrap ((i : Int) + 1))))) = some (if riseB (l.getD i 0) (l.drop (i + 1)) = true then Ctl.go (b ++ flatW (l.drop i)) else Ctl.ret ([], 2)) := by
        rw [ix_nat h]
        simp only [Option.bind_some]
        rw [w64 (by omega) (by omega), two_eq _ _ hx]
        simp only [Option.bind_some]
        rw [apx_eq (by simp; omega), w64 (by omega) (by omega), show (i : Int) + 1 = ((i + 1 : Nat) : Int) by omega]
        simp only [Option.bind_some]
        rw [ih (i + 1) _ (by omega) (by omega) (by simp; omega), if_neg (by omega : ¬ i + 1 = 0), show i + 1 - 1 = i by omega, drop_cons (l := l) (x := i) h, flatW_cons]
        simp
      rw [if_pos (by omega)]
      by_cases h0 : (i : Int) > 0
      · rw [if_pos h0, if_neg (by omega : ¬ i = 0), w64 (by omega) (by omega), show (i : Int) - 1 = ((i - 1 : Nat) : Int) by omega]
        have e0 : ((ix l (i : Int)).bind fun x76 => (ix l ((i - 1 : Nat) : Int)).bind fun x78 => if x76 ≤ x78 then (some (Ctl.ret ([], 2)) : Option (Ctl Unit (List Int × Int))) else some (Ctl.go ())) = if l.getD i 0 ≤ l.getD (i - 1) 0 then some (Ctl.ret ([], 2)) else some (Ctl.go ()) := by
          rw [ix_nat h, ix_nat (by omega)]; rfl
        rw [e0]
        have hd : riseB (l.getD (i - 1) 0) (l.drop i) = (decide (l.getD (i - 1) 0 < l.getD i 0) && riseB (l.getD i 0) (l.drop (i + 1))) := by rw [drop_cons (l := l) (x := i) h, riseB]
        rw [hd]
        by_cases h1 : l.getD i 0 ≤ l.getD (i - 1) 0
        · rw [if_pos h1, decide_eq_false (by omega)]
          rfl
        · rw [if_neg h1, decide_eq_true (by omega), Bool.true_and]
          exact main
      · rw [if_neg h0, if_pos (by omega : i = 0)]
        have hd : riseB (-1) (l.drop i) = riseB (l.getD i 0) (l.drop (i + 1)) := by rw [drop_cons (l := l) (x := i) h, riseB, decide_eq_true (by omega), Bool.true_and]
        rw [hd]
        exact main
    · rw [if_neg (by omega), List.drop_of_length_le (by omega)]
      simp [riseB, flatW]

theorem rputcov_eq (l : List Int) (hU : U16 l) : rPutCov 200000 l = some (putCov l) := by
  unfold rPutCov putCov
  by_cases h1 : 1 ≤ l.length
  · rw [if_neg (by omega)]
    by_cases h2 : l.length ≤ 65535
    · rw [if_neg (by omega)]
      simp only [Option.bind_some]
      rw [two_eq _ _ (by omega)]
      simp only [Option.bind_some]
      rw [apx_eq (by simp)]
      simp only [Option.bind_some]
      have := rputcov_loop l hU h2 200000 0 ([0, 1] ++ [(l.length : Int) / 256, (l.length : Int) % 256]) (by omega) (by omega) (by simp)
      rw [show ((0 : Nat) : Int) = 0 from rfl, if_pos rfl, List.drop_zero] at this
      rw [this]
      cases hr : riseB (-1) l with
      | true => rw [if_pos rfl, if_pos ⟨h1, h2, rfl⟩]; rfl
      | false => rw [if_neg (by decide), if_neg (fun h => by cases h.2.2)]; rfl
    · rw [if_pos (by omega), if_neg (fun h => h2 h.2.1)]; rfl
  · rw [if_pos (by omega), if_neg (fun h => h1 h.1)]; rfl

/-! ### classes -/
theorem run_end (N : Nat) (c : List Int) (hl : c.length ≤ 65535) (v : Int) : ∀ (k x : Nat), x ≤ c.length → c.length - x < k → ∃ e : Nat, cRows1_L2 N c v k (x : Int) = some (e : Int) ∧ x ≤ e ∧ e ≤ c.length ∧ (∀ j, x ≤ j → j < e → c.getD j 0 = v) ∧ (e = x → x < c.length → c.getD x 0 ≠ v) := by
  intro k
  induction k with
  | zero => intro x _ h; omega
  | succ k ih =>
    intro x hx hk
    rw [cRows1_L2]
    by_cases h : x < c.length
    · rw [if_pos (by omega), ix_nat h]
      simp only [Option.bind_some]
      by_cases hv : c.getD x 0 = v
      · rw [if_pos hv, w64 (by omega) (by omega), show (x : Int) + 1 = ((x + 1 : Nat) : Int) by omega]
        obtain ⟨e, e1, e2, e3, e4, e5⟩ := ih (x + 1) (by omega) (by omega)
        refine ⟨e, e1, by omega, e3, fun j h1 h2 => ?_, fun h1 => by omega⟩
        by_cases h3 : j = x
        · subst h3; exact hv
        · exact e4 j (by omega) h2
      · rw [if_neg hv]
        exact ⟨x, rfl, Nat.le_refl _, hx, fun j h1 h2 => by omega, fun _ _ => hv⟩
    · rw [if_neg (by omega)]
      exact ⟨x, rfl, Nat.le_refl _, hx, fun j h1 h2 => by omega, fun _ h1 => absurd h1 h⟩

theorem rrun_end (N : Nat) (c : List Int) (i : Nat) (hi : i < c.length) : ∀ (k : Nat) (x : Int), rPutCls_L2 N c (i : Int) k x = cRows1_L2 N c (c.getD i 0) k x := by
  intro k
  induction k with
  | zero => intro x; rfl
  | succ k ih =>
    intro x
    rw [rPutCls_L2, cRows1_L2]
    split
    · cases hx : ix c x with
      | none => rfl
      | some y =>
        simp only [Option.bind_some]
        rw [ix_nat hi]
        simp only [Option.bind_some]
        rw [ih]
    · rfl

/-- the first classes, and noughts behind -/
def upTo (c : List Int) (i : Nat) : List Int := c.take i ++ List.replicate (c.length - i) 0

theorem upTo_len (c : List Int) (i : Nat) (hi : i ≤ c.length) : (upTo c i).length = c.length := by unfold upTo; simp; omega
theorem upTo_at (c : List Int) (i j : Nat) (hi : i ≤ c.length) : (upTo c i).getD j 0 = if j < i then c.getD j 0 else 0 := by
  unfold upTo
  rw [List.getD_eq_getElem?_getD, List.getElem?_append]
  by_cases h : j < i
  · rw [if_pos (by simp; omega), if_pos h, List.getElem?_take_of_lt h, List.getD_eq_getElem?_getD]
  · rw [if_neg (by simp; omega), if_neg h, List.getElem?_replicate]
    split <;> rfl

theorem ext_getD {a b : List Int} (h : a.length = b.length) (hg : ∀ j, j < a.length → a.getD j 0 = b.getD j 0) : a = b := by
  apply List.ext_getElem h
  intro i h1 h2
  have := hg i h1
  simpa [List.getD_eq_getElem?_getD, List.getElem?_eq_getElem h1, List.getElem?_eq_getElem h2] using this

theorem setI_at (l : List Int) (a z v : Int) (j : Nat) (hj : j < l.length) : (setI l a z v).getD j 0 = if a ≤ (j : Int) ∧ (j : Int) ≤ z then v else l.getD j 0 := by
  unfold setI
  simp [List.getD_eq_getElem?_getD, hj]

/-- the rows of one class each: what they are, what is put of them, what is read of them -/
theorem rows_all (c : List Int) (hU : U8 c) (hl : c.length ≤ 65535) : ∀ (k i : Nat), i ≤ c.length → c.length - i < k →
    ∃ its, cRows1_L1 200000 c k (i : Int) = some its ∧ its.length ≤ c.length - i ∧
      (∀ x ∈ its, (0 ≤ x.1 ∧ x.1 ≤ 65535) ∧ (0 ≤ x.2.1 ∧ x.2.1 ≤ 65535) ∧ 0 ≤ x.2.2 ∧ x.2.2 ≤ 255) ∧
      ((∀ x ∈ its, x.2.2 ≤ 4) → ∀ e : Int, e < i → -1 ≤ e → clsI c.length its (upTo c i) e = some c) ∧
      (∀ (k' : Nat) (acc : List Int) (n : Nat), c.length - i < k' → acc.length ≤ 6 * i → n ≤ i → rPutCls_L1 200000 c k' acc (n : Int) (i : Int) = some (if (its.all fun x => decide (x.2.2 ≤ 4)) = true then Ctl.go (acc ++ flatW (flat3 its), ((n + its.length : Nat) : Int)) else Ctl.ret ([], 2))) := by
  intro k
  induction k with
  | zero => intro i _ h; omega
  | succ k ih =>
    intro i hi hk
    rw [cRows1_L1]
    by_cases h : i < c.length
    · have hx := hU.at i
      obtain ⟨e, r1, r2, r3, r4, r5⟩ := run_end 200000 c hl (c.getD i 0) 200000 i hi (by omega)
      have r6 : i < e := by
        rcases Nat.lt_or_ge i e with h' | h'
        · exact h'
        · exact absurd rfl (r5 (by omega) h)
      obtain ⟨its, s1, s2, s3, s4, s5⟩ := ih e r3 (by omega)
      rw [if_pos (by omega), ix_nat h]
      simp only [Option.bind_some]
      rw [r1]
      simp only [Option.bind_some]
      rw [s1]
      -- the document's own step
      have step : ∀ (k' : Nat) (acc : List Int) (n : Nat), c.length - i < k' + 1 → acc.length ≤ 6 * i → n ≤ i → rPutCls_L1 200000 c (k' + 1) acc (n : Int) (i : Int) =
          if c.getD i 0 > 4 then some (Ctl.ret ([], 2)) else if c.getD i 0 ≠ 0 then rPutCls_L1 200000 c k' (acc ++ flatW [(i : Int), (e : Int) - 1, c.getD i 0]) ((n + 1 : Nat) : Int) (e : Int) else rPutCls_L1 200000 c k' acc (n : Int) (e : Int) := by
        intro k' acc n h1 h2 h3
        rw [rPutCls_L1, if_pos (by omega), ix_nat h]
        simp only [Option.bind_some]
        split
        · rfl
        · rw [rrun_end _ _ _ h, r1]
          simp only [Option.bind_some]
          split
          · rw [two_eq _ _ (by omega)]
            simp only [Option.bind_some]
            rw [apx_eq (by simp; omega), w64 (by omega) (by omega), two_eq _ _ (by omega)]
            simp only [Option.bind_some]
            rw [apx_eq (by simp; omega), w64 (by omega) (by omega), two_eq _ _ (by omega)]
            simp only [Option.bind_some]
            rw [apx_eq (by simp; omega), w64 (by omega) (by omega)]
            simp [flatW]
          · rfl
      by_cases hv : c.getD i 0 = 0
      · rw [if_neg (by simpa using hv)]
        refine ⟨its, rfl, by omega, s3, fun ha e0 h1 h2 => ?_, fun k' acc n h1 h2 h3 => ?_⟩
        · have : upTo c i = upTo c e := by
            refine ext_getD (by rw [upTo_len c i hi, upTo_len c e r3]) fun j hj => ?_
            rw [upTo_at c i j hi, upTo_at c e j r3]
            by_cases h5 : j < i
            · rw [if_pos h5, if_pos (by omega)]
            · rw [if_neg h5]
              by_cases h6 : j < e
              · rw [if_pos h6, r4 j (by omega) h6, hv]
              · rw [if_neg h6]
          rw [this]
          exact s4 ha e0 (by omega) h2
        · cases k' with
          | zero => omega
          | succ k' =>
            rw [step k' acc n h1 h2 h3, if_neg (by omega), if_neg (by simpa using hv)]
            exact s5 k' acc n (by omega) (by omega) (by omega)
      · rw [if_pos hv, w64 (by omega) (by omega), w64 (by omega) (by omega)]
        refine ⟨((i : Int), (e : Int) - 1, c.getD i 0) :: its, rfl, by simp; omega, fun x hx => ?_, fun ha e0 h1 h2 => ?_, fun k' acc n h1 h2 h3 => ?_⟩
        · rcases List.mem_cons.1 hx with rfl | hx
          · exact ⟨⟨by show (0 : Int) ≤ (i : Int); omega, by show (i : Int) ≤ 65535; omega⟩, ⟨by show (0 : Int) ≤ (e : Int) - 1; omega, by show (e : Int) - 1 ≤ 65535; omega⟩, hU.at i⟩
          · exact s3 x hx
        · have h5 : c.getD i 0 ≤ 4 := ha ((i : Int), (e : Int) - 1, c.getD i 0) (by simp)
          rw [clsI, if_pos ⟨h1, by omega, by omega, h5⟩]
          have : setI (upTo c i) (i : Int) ((e : Int) - 1) (c.getD i 0) = upTo c e := by
            refine ext_getD (by rw [setI_len, upTo_len c i hi, upTo_len c e r3]) fun j hj => ?_
            rw [setI_len] at hj
            rw [setI_at _ _ _ _ j hj, upTo_at c i j hi, upTo_at c e j r3]
            by_cases h6 : (i : Int) ≤ (j : Int) ∧ (j : Int) ≤ (e : Int) - 1
            · rw [if_pos h6, if_pos (by omega), r4 j (by omega) (by omega)]
            · rw [if_neg h6]
              by_cases h7 : j < i
              · rw [if_pos h7, if_pos (by omega)]
              · rw [if_neg h7, if_neg (by omega)]
          rw [this]
          exact s4 (fun x hx => ha x (List.mem_cons_of_mem _ hx)) ((e : Int) - 1) (by omega) (by omega)
        · cases k' with
          | zero => omega
          | succ k' =>
            rw [step k' acc n h1 h2 h3]
            by_cases h5 : c.getD i 0 > 4
            · rw [if_pos h5, List.all_cons, decide_eq_false (by show ¬ c.getD i 0 ≤ 4; omega)]
              rfl
            · rw [if_neg h5, if_pos hv, s5 k' _ (n + 1) (by omega) (by rw [List.length_append, flatW_len]; simp; omega) (by omega), List.all_cons, decide_eq_true (by show c.getD i 0 ≤ 4; omega), Bool.true_and]
              simp [flat3, flatW, Nat.add_assoc, Nat.add_comm 1]
    · obtain rfl : i = c.length := by omega
      rw [if_neg (by omega)]
      refine ⟨[], rfl, by simp, fun _ h => (by cases h), fun _ e0 _ _ => ?_, fun k' acc n h1 h2 h3 => ?_⟩
      · rw [clsI]; unfold upTo; simp
      · cases k' with
        | zero => omega
        | succ k' =>
          rw [rPutCls_L1, if_neg (by omega)]
          simp [flat3, flatW]

theorem putcls_rounds (N : Nat) : ∀ (its : List (Int × Int × Int)) (n : Nat) (w : List Int), n + its.length ≤ 65535 → w.length + 3 * its.length ≤ 1000000 →
    ∃ c, cPutCls_X1 N its (2 :: (n : Int) :: w) = some c ∧ (match c with | Ctl.go w' => (its.all fun x => decide (x.2.2 ≤ 4)) = true ∧ w' = 2 :: ((n + its.length : Nat) : Int) :: (w ++ flat3 its) | Ctl.ret _ => (its.all fun x => decide (x.2.2 ≤ 4)) = false)
  | [], n, w, _, _ => ⟨_, rfl, rfl, by simp [flat3]⟩
  | (a, z, v) :: r, n, w, hn, hw => by
    simp only [List.length_cons] at hn hw
    rw [cPutCls_X1, List.all_cons]
    by_cases h : v > 4
    · rw [if_pos h, decide_eq_false (by show ¬ v ≤ 4; omega)]
      exact ⟨_, rfl, rfl⟩
    · rw [if_neg h, decide_eq_true (by show v ≤ 4; omega), Bool.true_and, apx_eq (by simp; omega)]
      simp only [Option.bind_some]
      rw [ix_eq (by decide) (by simp; omega)]
      simp only [Option.bind_some]
      rw [setx_eq (by decide) (by simp; omega)]
      simp only [Option.bind_some]
      have e : ((2 :: (n : Int) :: w ++ [a, z, v]).getD (1 : Int).toNat 0) = (n : Int) := rfl
      rw [e, w64 (by omega) (by omega)]
      show ∃ c, cPutCls_X1 N r (2 :: ((n : Int) + 1) :: (w ++ [a, z, v])) = some c ∧ _
      rw [show (n : Int) + 1 = ((n + 1 : Nat) : Int) by omega]
      obtain ⟨c, e1, e2⟩ := putcls_rounds N r (n + 1) (w ++ [a, z, v]) (by omega) (by simp; omega)
      refine ⟨c, e1, ?_⟩
      cases c with
      | go s =>
        refine ⟨e2.1, ?_⟩
        rw [e2.2]
        simp [flat3, Nat.add_assoc, Nat.add_comm 1]
      | ret s => exact e2

/-- classes of the format 2, or refused; what is read of them -/
theorem putcls_eq (c : List Int) (hU : U8 c) (hl : c.length ≤ 65535) : ∃ r, cPutCls 200000 c = some r ∧ rPutCls 200000 c = some r ∧ r.1.length ≤ 1000000 ∧ (r.2 = 0 → U8 r.1 ∧ clsR c.length (clsIts r.1 0 c.length).1 (clsIts r.1 0 c.length).2 = (c, 0)) := by
  obtain ⟨its, s1, s2, s3, s4, s5⟩ := rows_all c hU hl 200000 0 (by omega) (by omega)
  have s5 := s5 200000 [] 0 (by omega) (by simp) (by omega)
  unfold cPutCls rPutCls
  rw [if_neg (by omega), if_neg (by omega)]
  unfold cRows1
  have s1 : cRows1_L1 200000 c 200000 0 = some its := s1
  have s5 : rPutCls_L1 200000 c 200000 [] 0 0 = _ := s5
  rw [s1, s5]
  obtain ⟨d, e1, e2⟩ := putcls_rounds 200000 its 0 [] (by omega) (by simp; omega)
  have e1 : cPutCls_X1 200000 its [2, 0] = some d := e1
  simp only [Option.bind_some]
  rw [e1]
  have hU3 : U16 (2 :: (its.length : Int) :: flat3 its) := cons2_u16 2 its.length ⟨by omega, by omega⟩ (by omega) (flat3_u16 fun x hx => by have := s3 x hx; omega)
  have hL : (2 :: (its.length : Int) :: flat3 its).length = 3 * its.length + 2 := by rw [List.length_cons, List.length_cons, flat3_len]
  cases d with
  | ret w =>
    rw [e2]
    exact ⟨([], 2), rfl, rfl, by simp, fun h => by cases h⟩
  | go w =>
    obtain ⟨e3, rfl⟩ := e2
    rw [e3]
    refine ⟨(flatW (2 :: (its.length : Int) :: flat3 its), 0), ?_, ?_, by rw [flatW_len, hL]; omega, fun _ => ⟨flatW_u8 hU3, ?_⟩⟩
    · rw [Option.bind_some]
      show ((cPut 200000 (2 :: ((0 + its.length : Nat) : Int) :: ([] ++ flat3 its))).bind fun l97 => some (l97, (0 : Int))) = _
      rw [Nat.zero_add, List.nil_append, cput_eq 200000 (by omega) _ hU3 (by rw [hL]; omega) (by rw [hL]; omega)]
      rfl
    · simp only [if_true, Nat.zero_add, List.nil_append]
      rw [show rTwo 200000 ((its.length : Nat) : Int) = some [(its.length : Int) / 256, (its.length : Int) % 256] from two_eq 200000 (its.length : Int) ⟨by omega, by omega⟩]
      simp only [Option.bind_some]
      rw [apx_eq (by simp)]
      simp only [Option.bind_some]
      rw [apx_eq (by simp [flatW_len, flat3_len]; omega)]
      rfl
    · have e0 : rdv (flatW (2 :: (its.length : Int) :: flat3 its)) 0 = 2 := rdv_flat _ 0 (by simp)
      have e1 : rdv (flatW (2 :: (its.length : Int) :: flat3 its)) (0 + 2) = (its.length : Int) := rdv_flat (2 :: (its.length : Int) :: flat3 its) 1 (by simp)
      have h0 : hasB (flatW (2 :: (its.length : Int) :: flat3 its)) 0 1 2 = true := has_flat _ 0 1 (by decide) (by rw [hL]; omega)
      have h1 : hasB (flatW (2 :: (its.length : Int) :: flat3 its)) (0 + 2) 1 2 = true := has_flat (2 :: (its.length : Int) :: flat3 its) 1 1 (by decide) (by rw [hL]; omega)
      have h2 : hasB (flatW (2 :: (its.length : Int) :: flat3 its)) (0 + 4) (3 * (its.length : Int)) 2 = true := has_flat (2 :: (its.length : Int) :: flat3 its) 2 _ (by omega) (by rw [hL]; omega)
      have h3 : wds (flatW (2 :: (its.length : Int) :: flat3 its)) (0 + 4) (3 * (its.length : Int)).toNat = flat3 its := by
        have := wds_flat (2 :: (its.length : Int) :: flat3 its) 2 (3 * (its.length : Int)).toNat (by rw [hL]; omega)
        rw [show (0 : Int) + 4 = 2 * ((2 : Nat) : Int) by decide, this]
        simp only [List.drop_succ_cons, List.drop_zero]
        exact List.take_of_length_le (by rw [flat3_len]; omega)
      have h4 : clsIts (flatW (2 :: (its.length : Int) :: flat3 its)) 0 c.length = (some its, true) := by
        unfold clsIts
        rw [e1, if_neg (by rw [e0]; decide), if_pos e0, h0, h1, h2]
        simp only [if_true, h3, ranged_flat3]
        rfl
      show clsR _ (clsIts (flatW (2 :: (its.length : Int) :: flat3 its)) 0 c.length).1 (clsIts (flatW (2 :: (its.length : Int) :: flat3 its)) 0 c.length).2 = _
      rw [h4]
      unfold clsR
      rw [if_pos ⟨rfl, by omega, by omega⟩]
      have h5 := s4 (fun x hx => of_decide_eq_true (List.all_eq_true.1 e3 x hx)) (-1) (by omega) (by omega)
      have h6 : List.replicate (c.length : Int).toNat (0 : Int) = upTo c 0 := by unfold upTo; simp
      simp only []
      rw [h6, h5]

theorem flip_loop (N : Nat) (l : List Int) (hl : l.length ≤ 1000000) : ∀ (k x : Nat) (m : List Int), m.length = l.length → l.length - x < k → fPuts_L1 N l k m (x : Int) = some () := by
  intro k
  induction k with
  | zero => intro x m _ h; omega
  | succ k ih =>
    intro x m hm hk
    rw [fPuts_L1]
    by_cases h : x < l.length
    · rw [if_pos (by omega), ix_nat (by omega)]
      simp only [Option.bind_some]
      rw [setx_eq (by omega) (by omega), w64 (by omega) (by omega), show (x : Int) + 1 = ((x + 1 : Nat) : Int) by omega]
      simp only [Option.bind_some]
      exact ih (x + 1) _ (by rw [List.length_set]; exact hm) (by omega)
    · rw [if_neg (by omega)]

/-- what is put is read again as it was -/
theorem puts_true (l c : List Int) (hl : U16 l) (hc : U8 c) : fPuts 200000 l c = some true := by
  unfold fPuts
  have main : (l.length ≤ 1000 ∨ 65535 < l.length) → (c.length ≤ 1000 ∨ 65535 < c.length) → (((cPutCov 200000 l).bind fun (l47, x50) => ((rPutCov 200000 l).bind fun (l58, x61) => ((cPutCls 200000 c).bind fun (l69, x72) => ((rPutCls 200000 c).bind fun (l80, x83) => (((if x50 ≠ x61 then some (Ctl.ret false) else ((kBytes 200000 l47 l58).bind fun b100 => (match b100 with | true => (if x72 ≠ x83 then some (Ctl.ret false) else ((kBytes 200000 l69 l80).bind fun b109 => (match b109 with | true => some (Ctl.go ()) | false => some (Ctl.ret false)))) | false => some (Ctl.ret false)))) : Option (Ctl (Unit) (Bool))).bind fun | Ctl.go () => ((fPuts_L1 200000 l47 200000 l47 0 : Option (Unit)).bind fun () => ((cPutCov 200000 l).bind fun (l152, _x155) => ((kBytes 200000 l152 l58).bind fun b165 => (match b165 with | true => (((if x50 = 0 then ((bOpen 200000 l152).bind fun (l182, b183) => ((cCov 200000 l182 b183 (0 : Int) (65536 : Int)).bind fun (l193, x196, _b197) => (if x196 ≠ 0 then some (Ctl.ret false) else ((kWords 200000 l193 l).bind fun b208 => (match b208 with | true => some (Ctl.go ()) | false => some (Ctl.ret false)))))) else some (Ctl.go ())) : Option (Ctl (Unit) (Bool))).bind fun | Ctl.go () => (if x72 = 0 then ((bOpen 200000 l69).bind fun (l223, b224) => ((cCls 200000 l223 b224 (0 : Int) ((c.length : Nat) : Int)).bind fun (l234, x237, _b238) => (if x237 ≠ 0 then some false else ((kBytes 200000 l234 c).bind fun b249 => (match b249 with | true => ((fWorks 200000 ).bind fun b257 => some b257) | false => some false))))) else ((fWorks 200000 ).bind fun b267 => some b267)) | Ctl.ret r => some r) | false => some false)))) | Ctl.ret r => some r))))) : Option Bool) = some true := by
    intro h1 h2
    have hcls : ∃ r, cPutCls 200000 c = some r ∧ rPutCls 200000 c = some r ∧ r.1.length ≤ 1000000 ∧ (r.2 = 0 → U8 r.1 ∧ clsR c.length (clsIts r.1 0 c.length).1 (clsIts r.1 0 c.length).2 = (c, 0)) := by
      rcases h2 with h2 | h2
      · exact putcls_eq c hc (by omega)
      · refine ⟨([], 2), ?_, ?_, by simp, fun h => by cases h⟩
        · unfold cPutCls; rw [if_pos (by omega)]
        · unfold rPutCls; rw [if_pos (by omega)]
    obtain ⟨⟨B, y⟩, k1, k2, k3, k4⟩ := hcls
    have hA : (putCov l).1.length ≤ 140000 := by
      unfold putCov; split
      · rw [flatW_len]; simp; omega
      · simp
    have hflip := flip_loop 200000 (putCov l).1 (by omega) 200000 0 (putCov l).1 rfl (by omega)
    have hflip : fPuts_L1 200000 (putCov l).1 200000 (putCov l).1 0 = some () := hflip
    rw [putcov_eq 200000 (by omega) l hl, rputcov_eq l hl, k1, k2]
    simp only [Option.bind_some, ne_eq, not_true_eq_false, if_false, kBytes_same, hflip]
    have part1 : ((if (putCov l).2 = 0 then ((bOpen 200000 (putCov l).1).bind fun (l182, b183) => ((cCov 200000 l182 b183 (0 : Int) (65536 : Int)).bind fun (l193, x196, _b197) => (if ¬ x196 = 0 then some (Ctl.ret false) else ((kWords 200000 l193 l).bind fun b208 => (match b208 with | true => some (Ctl.go ()) | false => some (Ctl.ret false)))))) else some (Ctl.go ())) : Option (Ctl (Unit) (Bool))) = some (Ctl.go ()) := by
      by_cases hr : 1 ≤ l.length ∧ l.length ≤ 65535 ∧ riseB (-1) l = true
      · have hp : putCov l = (flatW (1 :: (l.length : Int) :: l), 0) := by unfold putCov; rw [if_pos hr]
        rw [hp]
        simp only [if_true]
        rw [open_eq _ _ (by rw [flatW_len]; simp; omega)]
        obtain ⟨f1, c1⟩ := cov_eq 200000 (by omega) (flatW (1 :: (l.length : Int) :: l)) 0 65536 (flatW_u8 (cons2_u16 1 l.length ⟨by omega, by omega⟩ hr.2.1 hl)) (by rw [flatW_len]; simp; omega) (by omega) (by omega)
        rw [its_one l hr.2.1, covR_listed l hl (rise_of hr.2.2) hr.1 hr.2.1] at c1
        simp only [Option.bind_some]
        rw [c1]
        simp only [Option.bind_some, not_true_eq_false, if_false]
        rw [kWords_same 200000 l (by omega) (by omega)]
        rfl
      · have hp : putCov l = ([], 2) := by unfold putCov; rw [if_neg hr]
        rw [hp]
        rfl
    rw [part1]
    simp only [Option.bind_some]
    by_cases hy : y = 0
    · obtain ⟨k5, k6⟩ := k4 hy
      rw [if_pos hy, open_eq _ B (by have : B.length ≤ 1000000 := k3; omega)]
      obtain ⟨f2, c2⟩ := cls_eq 200000 (by omega) B 0 c.length k5 (by have : B.length ≤ 1000000 := k3; omega) (by omega) (by omega)
      have k6 : clsR c.length (clsIts B 0 c.length).1 (clsIts B 0 c.length).2 = (c, 0) := k6
      rw [k6] at c2
      simp only [Option.bind_some]
      rw [c2]
      simp only [Option.bind_some, not_true_eq_false, if_false, kBytes_same, works_true]
    · rw [if_neg hy, works_true]
      rfl
  by_cases a1 : (l.length : Int) > 1000
  · rw [if_pos a1]
    by_cases a2 : (l.length : Int) ≤ 65535
    · rw [if_pos a2, works_true]; rfl
    · rw [if_neg a2]
      by_cases b1 : (c.length : Int) > 1000
      · rw [if_pos b1]
        by_cases b2 : (c.length : Int) ≤ 65535
        · rw [if_pos b2, works_true]; rfl
        · rw [if_neg b2]; exact main (.inr (by omega)) (.inr (by omega))
      · rw [if_neg b1]; exact main (.inr (by omega)) (.inl (by omega))
  · rw [if_neg a1]
    by_cases b1 : (c.length : Int) > 1000
    · rw [if_pos b1]
      by_cases b2 : (c.length : Int) ≤ 65535
      · rw [if_pos b2, works_true]; rfl
      · rw [if_neg b2]; exact main (.inl (by omega)) (.inr (by omega))
    · rw [if_neg b1]; exact main (.inl (by omega)) (.inl (by omega))

theorem puts_calls (W : World) (a b : List Int) (ha : U16 a) (hb : U8 b) {A B : Option Addr} {c d : Nat} (hr : Vw [] .u16 W A c a) (hs : Vw [] .u8 W B d b) :
    Calls Try.prog 4 #[.slice A a.length c, .slice B b.length d] W fun e W' => e = .returned (.bool true) ∧ Below W.heap.size W W' := by
  refine (fPuts_ok 200000 a b A c B d true (puts_true a b ha hb) W hr hs).mono ?_
  rintro e w ⟨v, rfl, rfl, h⟩
  exact ⟨rfl, h.below⟩
end Go.Proofs.Ytfgienbhdpmekaa
