/-
  Joined.
-/
import Derived.Test.YtkcmemldhbifdaaDoorR0
import Derived.Test.YtkcmemldhbifdaaDoorIt1
namespace Go.Proofs.YtkcmemldhbifdaaDoor
open Go Go.RowKit _root_.It
set_option linter.unusedVariables false
set_option linter.unusedSimpArgs false
theorem w64s {x : Int} (h0 : -9223372036854775808 ≤ x) (h1 : x ≤ 9223372036854775807) : IntKind.i64.wrap x = x := by rw [IntKind.wrap_i64]; omega
theorem ix_of {l : List Int} {i v : Int} (h0 : 0 ≤ i) (h1 : i < (l.length : Int)) (h : l[i.toNat]? = some v) : ix l i = some v := by
  unfold ix
  rw [if_pos ⟨h0, h1⟩]
  simp [List.getD_eq_getElem?_getD, h]
theorem ix_nat {l : List Int} {i : Nat} {v : Int} (h : l[i]? = some v) : ix l (i : Int) = some v := by
  have : i < l.length := (List.getElem?_eq_some_iff.1 h).1
  exact ix_of (by omega) (by omega) (by simpa using h)
theorem getD_some {l : List Int} {i : Nat} (h : i < l.length) : l[i]? = some (l.getD i 0) := by
  rw [List.getD_eq_getElem?_getD, List.getElem?_eq_getElem h]; rfl
theorem ixg_nat {α : Type} {l : List α} {i : Nat} {v : α} (h : l[i]? = some v) : ixg l (i : Int) = some v := by
  unfold ixg
  rw [if_pos (by omega)]
  simpa using h
theorem setx_nat {l : List Int} {i : Nat} {v : Int} (h : i < l.length) : setx l (i : Int) v = some (l.set i v) := by
  unfold setx; rw [if_pos ⟨by omega, by omega⟩]; simp
theorem findL_low : ∀ (T : List (Int × Int × Int)) (r o : Int), (T.all fun x => decide (0 ≤ x.2.2)) = true → 0 ≤ o → 0 ≤ findL T r o
  | [], _, o, _, h0 => h0
  | x :: T, r, o, hT, h0 => by
    rw [List.all_cons, Bool.and_eq_true, decide_eq_true_eq] at hT
    unfold findL
    split
    · exact hT.1
    · exact findL_low T r o hT.2 h0
def brkC (r : Int) : Option (Int × Bool) := if (bracketS brT r).2.2 = true then some ((bracketS brT r).1, (bracketS brT r).2.1) else none
theorem brk_mem : ∀ (T : List (Int × Int)) (r : Int), (bracketS T r).2.2 = true → ∃ x ∈ T, r = x.1 ∨ r = x.2
  | [], r, h => by simp [bracketS] at h
  | x :: T, r, h => by
    unfold bracketS at h
    split at h
    · rename_i e; exact ⟨x, List.mem_cons_self .., e⟩
    · obtain ⟨y, hy, e⟩ := brk_mem T r h; exact ⟨y, List.mem_cons_of_mem _ hy, e⟩
theorem brT_plain : (brT.all fun x => decide (scrC x.1 = 0) && decide (scrC x.2 = 0)) = true := by kernel_rfl
def D0 : Dat where
  scr := scrC
  sep := fun r => decide (claC r = 11)
  brk := brkC
  low := fun x => findL_low _ _ _ (by kernel_rfl) (by omega)
  plain := fun x h => by
    unfold brkC at h
    split at h
    · rename_i e
      obtain ⟨y, hy, e2⟩ := brk_mem brT x e
      have := List.all_eq_true.1 brT_plain y hy
      rw [Bool.and_eq_true, decide_eq_true_eq, decide_eq_true_eq] at this
      rcases e2 with rfl | rfl
      · exact this.1
      · exact this.2
    · exact absurd rfl h
section
variable {N : Nat} {l : List Int}
theorem rOwn_eq (x : Int) : rOwn N x = some (own D0 x) := rfl
theorem rEnds_eq (x : Int) : rEnds N x = some (D0.sep x) := rfl
theorem rBeh_L1_eq (hl : l.length ≤ 1000000) : ∀ (f i : Nat), l.length - i < f → ∃ c, rBeh_L1 N l f (i : Int) = some c ∧ (match c with | Ctl.go () => 0 | Ctl.ret r => r) = beh D0 (l.drop i)
  | 0, i, h => by omega
  | f + 1, i, hf => by
    unfold rBeh_L1
    by_cases h : i < l.length
    · obtain ⟨c, hc, hc2⟩ := rBeh_L1_eq hl f (i + 1) (by omega)
      have hx := getD_some h
      have hd : l.drop i = l.getD i 0 :: l.drop (i + 1) := by rw [List.drop_eq_getElem_cons h]; congr 1; rw [List.getD_eq_getElem?_getD, List.getElem?_eq_getElem h]; rfl
      rw [if_pos (by omega), ix_nat hx, Option.bind_some, rOwn_eq, Option.bind_some, w64s (by omega) (by omega), show (i : Int) + 1 = ((i + 1 : Nat) : Int) by omega, hc, hd]
      simp only [beh, Option.bind_some, rEnds_eq]
      cases own D0 (l.getD i 0) with
      | true => exact ⟨_, rfl, rfl⟩
      | false =>
        cases D0.sep (l.getD i 0) with
        | true => exact ⟨_, rfl, rfl⟩
        | false => exact ⟨c, rfl, hc2⟩
    · rw [if_neg (by omega), List.drop_eq_nil_of_le (by omega)]
      exact ⟨_, rfl, rfl⟩
theorem rBeh_eq (hl : l.length ≤ 1000000) (hN : l.length < N) (i : Nat) : rBeh N l (i : Int) = some (beh D0 (l.drop i)) := by
  obtain ⟨c, hc, hc2⟩ := rBeh_L1_eq (N := N) hl N i (by omega)
  unfold rBeh
  rw [hc, Option.bind_some, ← hc2]
  cases c <;> rfl
def mp (out : List Int) (stk : List (Int × Int)) : List (Int × Int) := stk.reverse.map fun y => (y.1, out.getD y.2.toNat 0)
theorem mp_snoc (out : List Int) (stk : List (Int × Int)) (y : Int × Int) : mp out (stk ++ [y]) = (y.1, out.getD y.2.toNat 0) :: mp out stk := by simp [mp]
theorem mp_set {out : List Int} {i : Nat} {v : Int} {stk : List (Int × Int)} (h : ∀ y ∈ stk, 0 ≤ y.2 ∧ y.2 < (i : Int)) : mp (out.set i v) stk = mp out stk := by
  unfold mp
  apply List.map_congr_left
  intro y hy
  have := h y (List.mem_reverse.1 hy)
  congr 1
  rw [List.getD_eq_getElem?_getD, List.getD_eq_getElem?_getD, List.getElem?_set_ne (by omega)]
theorem rL2_eq {i : Nat} {c last : Int} {out : List Int} {stk : List (Int × Int)} (hi : i < out.length) (hs : ∀ y ∈ stk, 0 ≤ y.2 ∧ y.2 < (i : Int)) (hn : stk.length ≤ 1000) : ∀ (m f : Nat), m ≤ stk.length → m < f →
    (pop c (mp out (stk.take m)) = none → rScripts_L2 N (i : Int) c f out stk last ((m : Int) - 1) = some (out, stk, last)) ∧
    (∀ s st', pop c (mp out (stk.take m)) = some (s, st') → ∃ j, st' = mp out (stk.take j) ∧ j ≤ stk.length ∧ rScripts_L2 N (i : Int) c f out stk last ((m : Int) - 1) = some (out.set i s, stk.take j, s))
  | _, 0, _, h => by omega
  | 0, f + 1, _, _ => by
    unfold rScripts_L2
    rw [if_neg (by omega)]
    exact ⟨fun _ => rfl, fun s st' h => by simp [mp, pop] at h⟩
  | m + 1, f + 1, hm, hf => by
    obtain ⟨y, hy⟩ : ∃ y, stk[m]? = some y := ⟨stk[m], List.getElem?_eq_getElem (by omega)⟩
    have ht : stk.take (m + 1) = stk.take m ++ [y] := by rw [List.take_add_one, hy]; rfl
    have hym := hs y (List.mem_iff_getElem?.2 ⟨m, hy⟩)
    obtain ⟨at', ha⟩ : ∃ a : Nat, y.2 = (a : Int) := ⟨y.2.toNat, by omega⟩
    have hat : out[at']? = some (out.getD y.2.toNat 0) := by rw [ha, Int.toNat_natCast]; exact getD_some (by omega)
    obtain ⟨i1, i2⟩ := rL2_eq (c := c) (last := last) hi hs hn m f (by omega) (by omega)
    unfold rScripts_L2
    rw [if_pos (by omega), show ((m + 1 : Nat) : Int) - 1 = (m : Int) by omega, ixg_nat hy, Option.bind_some, ht, mp_snoc]
    simp only [pop]
    by_cases hc : y.1 = c
    · rw [if_pos hc, if_pos hc, Option.bind_some, ha, ix_nat hat, Option.bind_some]
      have h1 := getD_some hi
      rw [ix_nat h1, Option.bind_some, setx_nat hi, Option.bind_some]
      have h2 : (out.set i (out.getD y.2.toNat 0))[i]? = some (out.getD y.2.toNat 0) := by rw [List.getElem?_set_self hi]
      rw [ix_nat h2, Option.bind_some]
      have h3 : trug stk (m : Int) = some (stk.take m) := by unfold trug; rw [if_pos ⟨by omega, by omega⟩]; simp
      rw [h3, Option.bind_some]
      refine ⟨fun h => by simp at h, fun s st' h => ?_⟩
      simp only [Option.some.injEq, Prod.mk.injEq] at h
      obtain ⟨rfl, rfl⟩ := h
      rw [ha]
      exact ⟨m, rfl, by omega, rfl⟩
    · rw [if_neg hc, if_neg hc, w64s (by omega) (by omega)]
      exact ⟨i1, i2⟩
end
end Go.Proofs.YtkcmemldhbifdaaDoor

namespace Go.Proofs.YtkcmemldhbifdaaDoor
open Go Go.RowKit _root_.It
set_option linter.unusedVariables false
set_option linter.unusedSimpArgs false
section
variable {N : Nat} {l : List Int}
theorem apg_ok {α : Type} {l m : List α} (h : l.length + m.length ≤ 1000000) : apg l m = some (l ++ m) := by
  unfold apg
  rw [if_pos (by omega)]
theorem mp_len (out : List Int) (stk : List (Int × Int)) : (mp out stk).length = stk.length := by simp [mp]
theorem key_eq (hN : l.length + 100 < N) (hl : l.length ≤ 100000) {i : Nat} {out : List Int} {stk : List (Int × Int)} {last lastE : Int} {stE : List (Int × Int)} (hi : i < l.length) (ho : out.length = l.length) (hs : ∀ y ∈ stk, 0 ≤ y.2 ∧ y.2 < (i : Int)) (hn : stk.length ≤ 64)
    (hE : (0 < i ∧ D0.sep (l.getD (i - 1) 0) = true ∧ lastE = 0 ∧ stE = []) ∨ (¬ (0 < i ∧ D0.sep (l.getD (i - 1) 0) = true) ∧ lastE = last ∧ stE = mp out stk)) :
    ∃ stk3, (((((if (i : Int) > 0 then ((ix l (IntKind.i64.wrap ((i : Int) - 1))).bind fun x75 => ((rEnds N x75).bind fun b79 => (match b79 with | true => some ((([] : List (Int × Int)), 0)) | false => some ((stk, last))))) else some ((stk, last))) : Option (List (Int × Int) × Int)).bind fun (l67, x68) => ((((ix l (i : Int)).bind fun x96 => ((rOwn N x96).bind fun b100 => (match b100 with | true => ((ix l (i : Int)).bind fun x104 => ((rfSc N x104).bind fun x108 => some (x108))) | false => some (x68)))) : Option (Int)).bind fun x90 => ((ix out (i : Int)).bind fun _x114 => ((setx out (i : Int) x90).bind fun l118 => (((if x90 = 0 then ((rBeh N l (i : Int)).bind fun x133 => ((ix l118 (i : Int)).bind fun _x137 => ((setx l118 (i : Int) x133).bind fun l141 => some (l141)))) else some (l118)) : Option (List Int)).bind fun l124 => ((ix l (i : Int)).bind fun x145 => ((rfBr N x145).bind fun (x149, b150, b151) => (match b151 with | true => (match b150 with | true => (if ((l67.length : Nat) : Int) < 64 then ((apg l67 ([(x149, (i : Int))] : List (Int × Int))).bind fun l171 => some ((l124, l171, x90))) else some ((l124, l67, x90))) | false => rScripts_L2 N (i : Int) x149 N l124 l67 x90 (IntKind.i64.wrap (((l67.length : Nat) : Int) - 1))) | false => some ((l124, l67, x90)))))))))) : Option (List Int × List (Int × Int) × Int))) = some (out.set i (It.step D0 lastE stE (l.getD i 0) (l.drop (i + 1))).1, stk3, (It.step D0 lastE stE (l.getD i 0) (l.drop (i + 1))).2.1) ∧ mp (out.set i (It.step D0 lastE stE (l.getD i 0) (l.drop (i + 1))).1) stk3 = (It.step D0 lastE stE (l.getD i 0) (l.drop (i + 1))).2.2
      ∧ (∀ y ∈ stk3, 0 ≤ y.2 ∧ y.2 < ((i + 1 : Nat) : Int)) ∧ stk3.length ≤ 64 := by
  have hx := getD_some hi
  have hd : l.drop i = l.getD i 0 :: l.drop (i + 1) := by rw [List.drop_eq_getElem_cons hi]; congr 1; rw [List.getD_eq_getElem?_getD, List.getElem?_eq_getElem hi]; rfl
  have hb := rBeh_eq (N := N) (l := l) (by omega) (by omega) i
  rw [hd] at hb
  -- what waits by now
  obtain ⟨stk', h67, hst, hs', hn'⟩ : ∃ stk', ((if (i : Int) > 0 then ((ix l (IntKind.i64.wrap ((i : Int) - 1))).bind fun x75 => ((rEnds N x75).bind fun b79 => (match b79 with | true => some ((([] : List (Int × Int)), (0 : Int))) | false => some ((stk, last))))) else some ((stk, last))) : Option (List (Int × Int) × Int)) = some (stk', lastE) ∧ mp out stk' = stE ∧ (∀ y ∈ stk', 0 ≤ y.2 ∧ y.2 < (i : Int)) ∧ stk'.length ≤ 64 := by
    by_cases h0 : 0 < i
    · have hp := getD_some (l := l) (i := i - 1) (by omega)
      rw [if_pos (by omega), w64s (by omega) (by omega), show (i : Int) - 1 = ((i - 1 : Nat) : Int) by omega, ix_nat hp, Option.bind_some, rEnds_eq, Option.bind_some]
      rcases hE with ⟨_, e1, e2, e3⟩ | ⟨e1, e2, e3⟩
      · rw [e1, e2, e3]
        exact ⟨[], rfl, rfl, (fun y hy => by cases hy), by simp⟩
      · have : D0.sep (l.getD (i - 1) 0) = false := by
          cases hb : D0.sep (l.getD (i - 1) 0) with
          | false => rfl
          | true => exact absurd ⟨h0, hb⟩ e1
        rw [this, e2, e3]
        exact ⟨stk, rfl, rfl, hs, hn⟩
    · rw [if_neg (by omega)]
      rcases hE with ⟨e0, _⟩ | ⟨e1, e2, e3⟩
      · exact absurd e0 h0
      · rw [e2, e3]; exact ⟨stk, rfl, rfl, hs, hn⟩
  rw [h67, Option.bind_some]
  simp only []
  have h90 : ((ix l (i : Int)).bind fun x96 => ((rOwn N x96).bind fun b100 => (match b100 with | true => ((ix l (i : Int)).bind fun x104 => ((rfSc N x104).bind fun x108 => some (x108))) | false => some (lastE)))) = some (now D0 lastE (l.getD i 0)) := by
    rw [ix_nat hx, Option.bind_some, rOwn_eq, Option.bind_some]
    unfold now
    cases own D0 (l.getD i 0) <;> rfl
  rw [h90, Option.bind_some, ix_nat (getD_some (l := out) (i := i) (by omega)), Option.bind_some, setx_nat (by omega), Option.bind_some]
  have h124 : ((if now D0 lastE (l.getD i 0) = 0 then ((rBeh N l (i : Int)).bind fun x133 => ((ix (out.set i (now D0 lastE (l.getD i 0))) (i : Int)).bind fun _x137 => ((setx (out.set i (now D0 lastE (l.getD i 0))) (i : Int) x133).bind fun l141 => some (l141)))) else some (out.set i (now D0 lastE (l.getD i 0)))) : Option (List Int)) = some (out.set i (at_ D0 lastE (l.getD i 0) (l.drop (i + 1)))) := by
    unfold at_
    by_cases h0 : now D0 lastE (l.getD i 0) = 0
    · rw [if_pos h0, if_pos h0, hb, Option.bind_some, ix_nat (getD_some (i := i) (by simp; omega)), Option.bind_some, setx_nat (by simp; omega), Option.bind_some, List.set_set]
    · rw [if_neg h0, if_neg h0]
  rw [h124, Option.bind_some, ix_nat hx, Option.bind_some]
  have hbr : D0.brk (l.getD i 0) = if (bracketS brT (l.getD i 0)).2.2 = true then some ((bracketS brT (l.getD i 0)).1, (bracketS brT (l.getD i 0)).2.1) else none := rfl
  rw [show rfBr N (l.getD i 0) = some (bracketS brT (l.getD i 0)) from rfl, Option.bind_some]
  unfold It.step
  rw [hbr]
  obtain ⟨c, o, k⟩ := bracketS brT (l.getD i 0)
  have hgt : ∀ y ∈ stk', 0 ≤ y.2 ∧ y.2 < ((i + 1 : Nat) : Int) := fun y hy => by have := hs' y hy; omega
  cases k with
  | false =>
    refine ⟨stk', rfl, ?_, hgt, hn'⟩
    show mp (out.set i _) stk' = stE
    rw [mp_set hs', hst]
  | true =>
    cases o with
    | true =>
      simp only [if_true]
      have hlen : stE.length = stk'.length := by rw [← hst, mp_len]
      by_cases h64 : stk'.length < 64
      · rw [if_pos (by omega), apg_ok (by simp; omega), if_pos (by omega)]
        refine ⟨stk' ++ [(c, (i : Int))], rfl, ?_, fun y hy => ?_, by simp; omega⟩
        · rw [mp_snoc, mp_set hs', hst]
          simp only [Int.toNat_natCast]
          congr 2
          rw [List.getD_eq_getElem?_getD, List.getElem?_set_self (by omega)]; rfl
        · rcases List.mem_append.1 hy with hy | hy
          · exact hgt y hy
          · rw [List.mem_singleton.1 hy]; show 0 ≤ (i : Int) ∧ (i : Int) < _; omega
      · rw [if_neg (by omega), if_neg (by omega)]
        refine ⟨stk', rfl, ?_, hgt, hn'⟩
        show mp (out.set i _) stk' = stE
        rw [mp_set hs', hst]
    | false =>
      simp only []
      obtain ⟨q1, q2⟩ := rL2_eq (N := N) (i := i) (c := c) (last := now D0 lastE (l.getD i 0)) (out := out.set i (at_ D0 lastE (l.getD i 0) (l.drop (i + 1)))) (stk := stk') (by simp; omega) hs' (by omega) stk'.length N (Nat.le_refl _) (by omega)
      rw [List.take_length, mp_set hs', hst] at q1 q2
      rw [w64s (by omega) (by omega)]
      simp only [if_true]
      cases hp : pop c stE with
      | none =>
        rw [q1 hp]
        refine ⟨stk', rfl, ?_, hgt, hn'⟩
        show mp (out.set i _) stk' = stE
        rw [mp_set hs', hst]
      | some z =>
        obtain ⟨s, st'⟩ := z
        obtain ⟨j, e1, e2, e3⟩ := q2 s st' hp
        rw [e3]
        refine ⟨stk'.take j, by rw [List.set_set], ?_, fun y hy => hgt y (List.mem_of_mem_take hy), by rw [List.length_take]; omega⟩
        show mp (out.set i s) (stk'.take j) = st'
        have hst'' : ∀ y ∈ stk'.take j, 0 ≤ y.2 ∧ y.2 < (i : Int) := fun y hy => hs' y (List.mem_of_mem_take hy)
        rw [mp_set hst'', e1, mp_set hst'']
theorem rScripts_L1_eq (hN : l.length + 100 < N) (hl : l.length ≤ 100000) : ∀ (f i : Nat) (out : List Int) (stk : List (Int × Int)) (last lastE : Int) (stE : List (Int × Int)), i ≤ l.length → l.length - i < f → out.length = l.length → (∀ y ∈ stk, 0 ≤ y.2 ∧ y.2 < (i : Int)) → stk.length ≤ 64 →
    ((0 < i ∧ D0.sep (l.getD (i - 1) 0) = true ∧ lastE = 0 ∧ stE = []) ∨ (¬ (0 < i ∧ D0.sep (l.getD (i - 1) 0) = true) ∧ lastE = last ∧ stE = mp out stk)) →
    rScripts_L1 N l f out stk last (i : Int) = some (out.take i ++ scF D0 lastE stE (l.drop i))
  | 0, i, _, _, _, _, _, _, h, _, _, _, _ => by omega
  | f + 1, i, out, stk, last, lastE, stE, hi, hf, ho, hs, hn, hE => by
    unfold rScripts_L1
    by_cases h : i < l.length
    · obtain ⟨stk3, k1, k2, k3, k4⟩ := key_eq (N := N) hN hl h ho hs hn hE
      have hd : l.drop i = l.getD i 0 :: l.drop (i + 1) := by rw [List.drop_eq_getElem_cons h]; congr 1; rw [List.getD_eq_getElem?_getD, List.getElem?_eq_getElem h]; rfl
      rw [if_pos (by omega)]
      refine Eq.trans (congrArg (fun z => Option.bind z _) k1) ?_
      rw [Option.bind_some, w64s (by omega) (by omega), show (i : Int) + 1 = ((i + 1 : Nat) : Int) by omega, hd, scF]
      generalize It.step D0 lastE stE (l.getD i 0) (l.drop (i + 1)) = r at *
      obtain ⟨S, la, st3⟩ := r
      simp only at k2 ⊢
      have ht : ∀ t : List Int, (out.set i S).take (i + 1) ++ t = out.take i ++ S :: t := by
        intro t
        rw [List.take_add_one]
        simp [ho, h, List.take_set_of_le]
      by_cases hsep : D0.sep (l.getD i 0) = true
      · rw [if_pos hsep, rScripts_L1_eq hN hl f (i + 1) (out.set i S) stk3 la 0 [] h (by omega) (by simpa using ho) k3 k4 (.inl ⟨by omega, by simpa using hsep, rfl, rfl⟩), ht]
      · rw [if_neg hsep, rScripts_L1_eq hN hl f (i + 1) (out.set i S) stk3 la la st3 h (by omega) (by simpa using ho) k3 k4 (.inr ⟨fun e => hsep (by simpa using e.2), rfl, k2.symm⟩), ht]
    · rw [if_neg (by omega), List.drop_eq_nil_of_le (by omega), List.take_of_length_le (by omega)]
      simp [scF]
theorem rScripts_eq (hN : l.length + 100 < N) (hl : l.length ≤ 100000) : rScripts N l = some (It.scripts D0 l) := by
  unfold rScripts
  have em : mkx (l.length : Int) = some (List.replicate l.length 0) := by unfold mkx; rw [if_pos ⟨by omega, by omega⟩]; simp
  have := rScripts_L1_eq (N := N) hN hl N 0 (List.replicate l.length 0) [] 0 0 [] (by omega) (by omega) (by simp) (by simp) (by simp) (.inr ⟨by omega, rfl, rfl⟩)
  rw [show ((0 : Nat) : Int) = 0 from rfl] at this
  rw [em, Option.bind_some, this]
  rfl
end
end Go.Proofs.YtkcmemldhbifdaaDoor

namespace Go.Proofs.YtkcmemldhbifdaaDoor
open Go Go.RowKit _root_.It
set_option linter.unusedVariables false
set_option linter.unusedSimpArgs false
def zipZ : List Int → List Int → List Int → List Zc
  | x :: l, v :: lv, s :: sc => (v, s, D0.sep x) :: zipZ l lv sc
  | _, _, _ => []
theorem zipZ_drop : ∀ (i : Nat) (l lv sc : List Int), zipZ (l.drop i) (lv.drop i) (sc.drop i) = (zipZ l lv sc).drop i
  | 0, _, _, _ => rfl
  | i + 1, [], lv, sc => by simp [zipZ]
  | i + 1, x :: l, [], sc => by simp [zipZ]
  | i + 1, x :: l, v :: lv, [] => by simp [zipZ]
  | i + 1, x :: l, v :: lv, s :: sc => by simp only [List.drop_succ_cons, zipZ]; exact zipZ_drop i l lv sc
section
variable {N : Nat} {l lv sc : List Int}
theorem getD_drop {l : List Int} {i : Nat} (h : i < l.length) : l.drop i = l.getD i 0 :: l.drop (i + 1) := by
  rw [List.drop_eq_getElem_cons h]; congr 1; rw [List.getD_eq_getElem?_getD, List.getElem?_eq_getElem h]; rfl
theorem zipZ_at (h1 : lv.length = l.length) (h2 : sc.length = l.length) {i : Nat} (h : i < l.length) : (zipZ l lv sc).drop i = (lv.getD i 0, sc.getD i 0, D0.sep (l.getD i 0)) :: (zipZ l lv sc).drop (i + 1) := by
  rw [← zipZ_drop, getD_drop h, getD_drop (l := lv) (by omega), getD_drop (l := sc) (by omega), zipZ, zipZ_drop]
theorem setgR_last (pre : List Rn) (u u' : Rn) : setg (pre ++ [u]) (((pre ++ [u]).length : Int) - 1) u' = some (pre ++ [u']) := by
  unfold setg
  rw [if_pos ⟨by simp, by simp; omega⟩]
  congr 1
  have : ((((pre ++ [u]).length : Nat) : Int) - 1).toNat = pre.length := by simp
  rw [this]
  simp
theorem ixgR_last (pre : List Rn) (u : Rn) : ixg (pre ++ [u]) (((pre ++ [u]).length : Int) - 1) = some u := by
  unfold ixg
  rw [if_pos (by simp)]
  have : ((((pre ++ [u]).length : Nat) : Int) - 1).toNat = pre.length := by simp
  rw [this]
  simp
theorem rRuns_L1_eq (hl : l.length ≤ 100000) (h1 : lv.length = l.length) (h2 : sc.length = l.length) : ∀ (f i : Nat) (pre : List Rn) (f0 v s : Int), l.length - i < f → 0 < i → i ≤ l.length → pre.length < i →
    rRuns_L1 N l lv sc f (pre ++ [(f0, (i : Int), v, s)]) (i : Int) = some (pre ++ rnF f0 i v s (D0.sep (l.getD (i - 1) 0)) ((zipZ l lv sc).drop i))
  | 0, i, _, _, _, _, h, _, _, _ => by omega
  | f + 1, i, pre, f0, v, s, hf, h0, hi, hp => by
    unfold rRuns_L1
    by_cases h : i < l.length
    · have wl : IntKind.i64.wrap (((pre ++ [((f0, (i : Int), v, s) : Rn)]).length : Int) - 1) = ((pre ++ [((f0, (i : Int), v, s) : Rn)]).length : Int) - 1 := by
        rw [List.length_append, List.length_singleton]; exact w64s (by omega) (by omega)
      have hw : IntKind.i64.wrap ((i : Int) + 1) = ((i + 1 : Nat) : Int) := by rw [w64s (by omega) (by omega)]; omega
      have hw2 : IntKind.i64.wrap ((i : Int) - 1) = ((i - 1 : Nat) : Int) := by rw [w64s (by omega) (by omega)]; omega
      have hv := getD_some (l := lv) (i := i) (by omega)
      have hs := getD_some (l := sc) (i := i) (by omega)
      have hx := getD_some (l := l) (i := i - 1) (by omega)
      have ihm := fun f0 v s => rRuns_L1_eq hl h1 h2 f (i + 1) pre f0 v s (by omega) (by omega) h (by omega)
      have ihn := fun f1 v1 s1 => rRuns_L1_eq hl h1 h2 f (i + 1) (pre ++ [(f0, (i : Int), v, s)]) f1 v1 s1 (by omega) (by omega) h (by simp; omega)
      rw [Nat.add_sub_cancel] at ihm ihn
      rw [zipZ_at h1 h2 h, rnF]
      rw [if_pos (by omega)]
      simp only [wl, hw, hw2, ixgR_last, ix_nat hv, ix_nat hs, ix_nat hx, Option.bind_some, rEnds_eq]
      have hlen : ((pre ++ [((f0, (i : Int), v, s) : Rn)]).length : Int) > 0 := by simp
      rw [if_pos hlen]
      generalize lv.getD i 0 = v1
      generalize sc.getD i 0 = s1
      have hnew : (apg (pre ++ [((f0, (i : Int), v, s) : Rn)]) ([((i : Int), ((i + 1 : Nat) : Int), v1, s1)] : List Rn)).bind (fun l226 => rRuns_L1 N l lv sc f l226 ((i + 1 : Nat) : Int)) = some (pre ++ (f0, (i : Int), v, s) :: rnF (i : Int) ((i : Int) + 1) v1 s1 (D0.sep (l.getD i 0)) ((zipZ l lv sc).drop (i + 1))) := by
        rw [apg_ok (by simp; omega), Option.bind_some, ihn]
        simp only [List.append_assoc, List.singleton_append]
        rw [show ((i + 1 : Nat) : Int) = (i : Int) + 1 by omega]
      by_cases e1 : v = v1
      · subst e1
        by_cases e2 : s = s1
        · subst e2
          cases hsep : D0.sep (l.getD (i - 1) 0) with
          | true =>
            simp only [if_true, Option.bind_some, beq_self_eq_true, Bool.not_true, Bool.and_false, Bool.false_eq_true, if_false]
            exact hnew
          | false =>
            simp only [if_true, Option.bind_some, beq_self_eq_true, Bool.not_false, Bool.and_true]
            rw [setgR_last, Option.bind_some, ihm, show ((i + 1 : Nat) : Int) = (i : Int) + 1 by omega]
        · simp only [if_true, Option.bind_some, beq_self_eq_true, Bool.true_and, beq_false_of_ne e2, Bool.false_and, Bool.false_eq_true, if_false, e2]
          exact hnew
      · simp only [Option.bind_some, beq_false_of_ne e1, Bool.false_and, Bool.false_eq_true, if_false, e1]
        exact hnew
    · rw [if_neg (by omega)]
      have hz : (zipZ l lv sc).drop i = [] := by rw [← zipZ_drop, List.drop_eq_nil_of_le (by omega)]; rfl
      rw [hz]
      obtain rfl : i = l.length := by omega
      rfl
theorem rRuns_eq (hN : l.length + 100 < N) (hl : l.length ≤ 65536) (h1 : lv.length = l.length) : rRuns N l lv = some (runsAt 0 (zipZ l lv (It.scripts D0 l)), 0) := by
  have hsl : (It.scripts D0 l).length = l.length := scF_len D0 l 0 []
  unfold rRuns
  rw [if_neg (by omega), if_neg (by omega), rScripts_eq hN (by omega), Option.bind_some]
  suffices h : rRuns_L1 N l lv (It.scripts D0 l) N ([] : List Rn) 0 = some (runsAt 0 (zipZ l lv (It.scripts D0 l))) by
    rw [h]; rfl
  by_cases h0 : 0 < l.length
  · obtain ⟨k, rfl⟩ : ∃ k, N = k + 1 := ⟨N - 1, by omega⟩
    have hz := zipZ_at (l := l) h1 hsl h0
    rw [List.drop_zero] at hz
    have hv := getD_some (l := lv) (i := 0) (by omega)
    have hs := getD_some (l := It.scripts D0 l) (i := 0) (by omega)
    have ih := rRuns_L1_eq (N := k + 1) (by omega) h1 hsl k 1 [] 0 (lv.getD 0 0) ((It.scripts D0 l).getD 0 0) (by omega) (by omega) h0 (by simp)
    rw [rRuns_L1, if_pos (by omega)]
    have iv : ix lv 0 = some (lv.getD 0 0) := ix_nat hv
    have is : ix (It.scripts D0 l) 0 = some ((It.scripts D0 l).getD 0 0) := ix_nat hs
    simp only [List.length_nil, Option.bind_some, iv, is]
    rw [if_neg (by decide)]
    simp only [Option.bind_some]
    rw [show IntKind.i64.wrap (0 + 1) = ((1 : Nat) : Int) from by rw [w64s (by decide) (by decide)]; rfl]
    rw [apg_ok (by simp), Option.bind_some]
    refine Eq.trans ih ?_
    rw [hz]
    rfl
  · obtain rfl : l = [] := List.length_eq_zero_iff.1 (by omega)
    obtain ⟨k, rfl⟩ : ∃ k, N = k + 1 := ⟨N - 1, by omega⟩
    rw [rRuns_L1, if_neg (by simp)]
    rfl
end
end Go.Proofs.YtkcmemldhbifdaaDoor
