/-
  Joined.
-/
import Derived.Test.YtdbimchiecdkoaaGreatProg
import Derived.WalkKit
import Derived.KernelRfl
import Derived.Below
import Derived.WalkLawsBesides
import Derived.WalkSpells
import Derived.Deep.LoopGhost
import Derived.Lib.Hide
namespace Go.Proofs.YtdbimchiecdkoaaGreat
open Go Go.RowKit
def simL (P : Program) (ops : Array Oper) : List Oper → Act → World → Option (Act × World)
  | [], a, w => some (a, w)
  | o :: rest, a, w =>
    if Region.wanted o (yielded ops a.tmps) then
      match (execOp a.eval o).run P w with
      | .ok (.value v) w' => simL P ops rest (a.put o.dst v) w'
      | _ => none
    else simL P ops rest (a.put o.dst undef) w
theorem simL_wp {P : Program} {ops : Array Oper} {Q : Exit → Act → World → Prop} : ∀ (l : List Oper) (a : Act) (w : World) (r : Act × World), simL P ops l a w = some r → Q .normal r.1 r.2 → wpList P ops Q l a w := by
  intro l
  induction l with
  | nil =>
    intro a w r h hq
    simp only [simL, Option.some.injEq] at h
    subst h
    exact hq
  | cons o rest ih =>
    intro a w r h hq
    rw [simL] at h
    unfold wpList
    by_cases hw : Region.wanted o (yielded ops a.tmps)
    · rw [if_pos hw] at h ⊢
      refine .inl ?_
      unfold Oper.wp
      revert h
      cases hr : (execOp a.eval o).run P w with
      | ok n w' =>
        cases n with
        | value v => intro h; exact ih _ _ _ h hq
        | _ => intro h; cases h
      | _ => intro h; cases h
    · rw [if_neg hw] at h ⊢
      exact ih _ _ _ h hq
def simC (P : Program) : Code → Act → World → Option (Act × World)
  | .seq (.region _ ops false) rest, a, w => match simL P ops ops.toList a w with
    | some r => simC P rest r.1 r.2
    | none => none
  | .ret, a, w => some (a, w)
  | _, _, _ => none
theorem simC_wp {P : Program} {Q : Exit → Act → World → Prop} (c : Code) (a : Act) (w : World) (r : Act × World) (h : simC P c a w = some r) (hq : Q .ret r.1 r.2) : c.wp P Q a w := by
  fun_induction simC P c a w with
  | case1 a w id ops rest r1 h1 ih =>
    exact wp_seq (wp_region_list (simL_wp _ _ _ _ h1 (ih h)))
  | case2 => cases h
  | case3 a w =>
    simp only [Option.some.injEq] at h
    subst h
    exact wp_ret hq
  | case4 => cases h
def simV (P : Program) (c : Code) (slot : Nat) (a : Act) (w : World) : Option (Value × World × Bool) := (simC P c a w).map fun r => (r.1.tmps.getD slot undef, r.2, r.1.defers.isEmpty)
theorem simV_wp {P : Program} {fn : Func} {R : Ending → World → Prop} (c : Code) (slot : Nat) (a : Act) (w w' : World) (v : Value) (hres : fn.results = #[.tmp slot]) (h : simV P c slot a w = some (v, w', true)) (hR : R (.returned v) w') : c.wp P (bodyPost P fn R) a w := by
  unfold simV at h
  cases hs : simC P c a w with
  | none => rw [hs] at h; cases h
  | some r =>
    rw [hs] at h
    simp only [Option.map_some, Option.some.injEq, Prod.mk.injEq] at h
    obtain ⟨h1, h2, h3⟩ := h
    refine simC_wp c a w r hs ?_
    refine bodyPost_ret (results_tmp hres _ _ _) (by simpa using h3) ?_
    rw [h1, h2]
    exact hR
def rowsOf (ops : List Oper) : List (Int × Int × Int) := ops.filterMap fun o =>
  match o.op with
  | .build _ #[(_, .const (.int _ a)), (_, .const (.int _ b)), (_, .const (.int _ v))] => some (a, b, v)
  | _ => none
def opsOf : Code → List Oper
  | .seq (.region _ ops _) rest => ops.toList ++ opsOf rest
  | _ => []
def tableOf (fn : Func) : List (Int × Int × Int) := match fn.body with
  | some c => rowsOf (opsOf c)
  | none => []
def cellsT (t : List (Int × Int × Int)) : List Value := t.flatMap fun x => [.int .i32 x.1, .int .i32 x.2.1, .int .u8 x.2.2]
end Go.Proofs.YtdbimchiecdkoaaGreat

namespace Go.Proofs.YtdbimchiecdkoaaGreat
open Go Go.RowKit
def findL : List (Int × Int × Int) → Int → Int → Int
  | [], _, o => o
  | x :: t, r, o => if x.1 ≤ r ∧ r ≤ x.2.1 then x.2.2 else findL t r o
def TableAt (w : World) (g : Nat) (t : List (Int × Int × Int)) : Prop :=
  ∀ (j : Nat) (h : j < t.length), w.cell? ⟨g, j * 3, none⟩ = some (.int .i32 t[j].1) ∧ w.cell? ⟨g, j * 3 + 1, none⟩ = some (.int .i32 t[j].2.1) ∧ w.cell? ⟨g, j * 3 + 2, none⟩ = some (.int .u8 t[j].2.2)
theorem cellsT_at (t : List (Int × Int × Int)) : ∀ (j : Nat) (h : j < t.length), (cellsT t)[j * 3]? = some (.int .i32 t[j].1) ∧ (cellsT t)[j * 3 + 1]? = some (.int .i32 t[j].2.1) ∧ (cellsT t)[j * 3 + 2]? = some (.int .u8 t[j].2.2) := by
  induction t with
  | nil => intro j h; simp at h
  | cons x t ih =>
    intro j h
    have e : cellsT (x :: t) = .int .i32 x.1 :: .int .i32 x.2.1 :: .int .u8 x.2.2 :: cellsT t := rfl
    rw [e]
    cases j with
    | zero => exact ⟨rfl, rfl, rfl⟩
    | succ j =>
      have := ih j (by simpa using h)
      rw [show (j + 1) * 3 = j * 3 + 1 + 1 + 1 by omega]
      exact this
theorem table_new (w : World) (t : List (Int × Int × Int)) (ty : TypeId) : TableAt (w.alloc (.cells (cellsT t).toArray ty)) w.heap.size t := by
  intro j h
  obtain ⟨h1, h2, h3⟩ := cellsT_at t j h
  refine ⟨?_, ?_, ?_⟩
  · rw [cell_of_row _ w.heap.size _ _ _ _ (heap_alloc_new w _)]; simpa using h1
  · rw [cell_of_row _ w.heap.size _ _ _ _ (heap_alloc_new w _)]; simpa using h2
  · rw [cell_of_row _ w.heap.size _ _ _ _ (heap_alloc_new w _)]; simpa using h3
def FindRel (w : World) (t : List (Int × Int × Int)) (r o : Int) (n k : Nat) (vi : Value) (wr : World) : Prop :=
  w = wr ∧ ∃ i, i + k = n ∧ vi = .int .i64 ((i : Nat) : Int) ∧ findL t r o = findL (t.drop i) r o
set_option maxHeartbeats 1000000 in
theorem refFind_any (t : List (Int × Int × Int)) (g : Nat) (r o : Int) (w : World) (hl : t.length ≤ 100000) (ht : TableAt w g t) :
    Calls Tryz.prog 20 #[.slice (some ⟨g, 0, none⟩) t.length t.length, .int .i32 r, .int .u8 o] w fun e w' => e = .returned (.int .u8 (findL t r o)) ∧ w = w' := by
  obtain ⟨n, hn⟩ : ∃ n, n = t.length := ⟨_, rfl⟩
  have HT := Lib.hid ht
  have HN := Lib.hid hn
  obtain ⟨R, hR⟩ : ∃ R, R = findL t r o := ⟨_, rfl⟩
  have HR := Lib.hid hR
  rw [← hn] at hl ⊢
  rw [← hR]
  have hnI : (n : Int) ≤ 100000 := by omega
  clear ht hn hR
  go_enter Tryz.func20, Tryz.ntmps20
  go_wp2_with fail
  go_loopg [7] n (fun k vi wr => FindRel w t r o n k vi wr)
  case atStart => exact ⟨rfl, 0, by omega, rfl, rfl⟩
  case round =>
    obtain ⟨rfl, i, hik, rfl, hf⟩ := hrel
    have HF := Lib.hid hf
    clear hf
    rcases Nat.eq_zero_or_pos gk with h0 | h0
    · obtain rfl := h0
      obtain rfl : i = n := by omega
      have HE : Hid (R = o) := Lib.hid (by rw [HR.out, HF.out, List.drop_of_length_le (by have := HN.out; omega)]; rfl)
      go_wp2_with fail
      go_ret
      exact ⟨by rw [HE.out]; rfl, rfl⟩
    · have hin : i < n := by omega
      have hit : i < t.length := by have := HN.out; omega
      obtain ⟨c1, c2, c3⟩ := HT.out i hit
      obtain ⟨a, ha⟩ : ∃ a, a = t[i].1 := ⟨_, rfl⟩
      obtain ⟨b, hb⟩ : ∃ b, b = t[i].2.1 := ⟨_, rfl⟩
      obtain ⟨v, hv⟩ : ∃ v, v = t[i].2.2 := ⟨_, rfl⟩
      rw [← ha] at c1
      rw [← hb] at c2
      rw [← hv] at c3
      have hd : findL (t.drop i) r o = if a ≤ r ∧ r ≤ b then v else findL (t.drop (i + 1)) r o := by
        rw [List.drop_eq_getElem_cons hit, findL, ← ha, ← hb, ← hv]
      have HD := Lib.hid hd
      have hiI : (i : Int) < (n : Int) := by omega
      have hi0I : (0 : Int) ≤ (i : Int) := Int.natCast_nonneg _
      clear ha hb hv hd
      rcases (show ¬ a ≤ r ∨ (a ≤ r ∧ ¬ r ≤ b) ∨ (a ≤ r ∧ r ≤ b) by omega) with hc | hc | hc
      · have b1 : (a ≤ r) = False := by simp; omega
        have HNX : Hid (findL t r o = findL (t.drop (i + 1)) r o) := Lib.hid (by rw [HF.out, HD.out, if_neg (by omega)])
        clear hc
        go_wp2_with fail
        go_roundg (gk - 1)
        case measure => omega
        case rel => exact ⟨rfl, i + 1, by omega, by first | rfl | exact congrArg _ (by omega), HNX.out⟩
      · have b1 : (a ≤ r) = True := by simp; omega
        have b2 : (r ≤ b) = False := by simp; omega
        have HNX : Hid (findL t r o = findL (t.drop (i + 1)) r o) := Lib.hid (by rw [HF.out, HD.out, if_neg (by omega)])
        clear hc
        go_wp2_with fail
        go_roundg (gk - 1)
        case measure => omega
        case rel => exact ⟨rfl, i + 1, by omega, by first | rfl | exact congrArg _ (by omega), HNX.out⟩
      · have b1 : (a ≤ r) = True := by simp; omega
        have b2 : (r ≤ b) = True := by simp; omega
        have HE : Hid (R = v) := Lib.hid (by rw [HR.out, HF.out, HD.out, if_pos hc])
        clear hc
        go_wp2_with fail
        go_ret
        exact ⟨by rw [HE.out]; rfl, rfl⟩
end Go.Proofs.YtdbimchiecdkoaaGreat

namespace Go.Proofs.YtdbimchiecdkoaaGreat
open Go Go.RowKit
def cutsT (t : List (Int × Int × Int)) : List Int := t.flatMap fun x => [x.1, x.2.1 + 1]
theorem findL_piece (t : List (Int × Int × Int)) (r p o : Int) (h : ∀ c ∈ cutsT t, c ≤ r ↔ c ≤ p) : findL t r o = findL t p o := by
  induction t with
  | nil => rfl
  | cons x t ih =>
    have h1 : x.1 ≤ r ↔ x.1 ≤ p := h _ (by simp [cutsT])
    have h2 : x.2.1 + 1 ≤ r ↔ x.2.1 + 1 ≤ p := h _ (by simp [cutsT])
    have h3 := ih (fun c hc => h c (by
      have e : cutsT (x :: t) = [x.1, x.2.1 + 1] ++ cutsT t := rfl
      rw [e]; exact List.mem_append_right _ hc))
    rw [findL, findL, h3]
    by_cases hc : x.1 ≤ r ∧ r ≤ x.2.1
    · rw [if_pos hc, if_pos (by omega)]
    · rw [if_neg hc, if_neg (by omega)]
def below? : List Int → Int → Option Int
  | [], _ => none
  | c :: l, r => match below? l r with
    | none => if c ≤ r then some c else none
    | some d => if c ≤ r ∧ d < c then some c else some d
theorem below_none (l : List Int) (r : Int) (h : below? l r = none) : ∀ c ∈ l, ¬ c ≤ r := by
  induction l with
  | nil => intro c hc; cases hc
  | cons x l ih =>
    intro c hc
    rw [below?] at h
    cases hb : below? l r with
    | none =>
      rw [hb] at h
      have hx : ¬ x ≤ r := by
        intro hx
        simp [hx] at h
      rcases List.mem_cons.1 hc with rfl | hc
      · exact hx
      · exact ih hb c hc
    | some d =>
      rw [hb] at h
      simp only [] at h
      split at h <;> cases h
theorem below_some (l : List Int) (r d : Int) (h : below? l r = some d) : d ∈ l ∧ d ≤ r ∧ ∀ c ∈ l, c ≤ r → c ≤ d := by
  induction l generalizing d with
  | nil => cases h
  | cons x l ih =>
    rw [below?] at h
    cases hb : below? l r with
    | none =>
      rw [hb] at h
      simp only [] at h
      by_cases hx : x ≤ r
      · rw [if_pos hx] at h
        injection h with h
        subst h
        refine ⟨by simp, hx, fun c hc hcr => ?_⟩
        rcases List.mem_cons.1 hc with rfl | hc
        · exact Int.le_refl _
        · exact absurd hcr (below_none l r hb c hc)
      · rw [if_neg hx] at h; cases h
    | some e =>
      rw [hb] at h
      obtain ⟨h1, h2, h3⟩ := ih e hb
      simp only [] at h
      by_cases hx : x ≤ r ∧ e < x
      · rw [if_pos hx] at h
        injection h with h
        subst h
        refine ⟨by simp, hx.1, fun c hc hcr => ?_⟩
        rcases List.mem_cons.1 hc with rfl | hc
        · exact Int.le_refl _
        · have := h3 c hc hcr; omega
      · rw [if_neg hx] at h
        injection h with h
        subst h
        refine ⟨by simp [h1], h2, fun c hc hcr => ?_⟩
        rcases List.mem_cons.1 hc with rfl | hc
        · omega
        · exact h3 c hc hcr
def TurnsAt (f : Int → Int) (l : List Int) : Prop := ∀ r p, (∀ c ∈ l, c ≤ r ↔ c ≤ p) → f r = f p
theorem findL_turns (t : List (Int × Int × Int)) (o : Int) : TurnsAt (fun r => findL t r o) (cutsT t) := fun r p h => findL_piece t r p o h
theorem TurnsAt.more {f : Int → Int} {l m : List Int} (h : TurnsAt f l) (hm : ∀ c ∈ l, c ∈ m) : TurnsAt f m := fun r p hc => h r p (fun c hl => hc c (hm c hl))
theorem same_of_turns {f g : Int → Int} {l : List Int} (hf : TurnsAt f l) (hg : TurnsAt g l) (low : Int) (hlow : ∀ c ∈ l, low < c) (h0 : f low = g low) (hl : ∀ c ∈ l, f c = g c) (r : Int) : f r = g r := by
  cases hb : below? l r with
  | none =>
    have h1 := below_none l r hb
    have h2 : ∀ c ∈ l, c ≤ r ↔ c ≤ low := fun c hc => ⟨fun h => absurd h (h1 c hc), fun h => by have := hlow c hc; omega⟩
    rw [hf r low h2, hg r low h2, h0]
  | some d =>
    obtain ⟨h1, h2, h3⟩ := below_some l r d hb
    have h4 : ∀ c ∈ l, c ≤ r ↔ c ≤ d := fun c hc => ⟨fun h => h3 c hc h, fun h => by omega⟩
    rw [hf r d h4, hg r d h4, hl d h1]
end Go.Proofs.YtdbimchiecdkoaaGreat
