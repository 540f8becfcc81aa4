/-
  The document's Sequences, by lists.
-/
import Derived.Test.YtjndolnjhbgflaaH3
import Derived.Test.YtjndolnjhbgflaaR2
namespace Go.Proofs.Ytjndolnjhbgflaa
open Go Go.RowKit
set_option linter.unusedVariables false
set_option linter.unusedSectionVars false
set_option linter.unusedSimpArgs false

def plI (l : List Int) : List Int := (plc l).map fun k => ((k : Nat) : Int)
theorem plI_len (l : List Int) : (plI l).length = (plc l).length := List.length_map ..
theorem plI_at {l : List Int} {k : Nat} (h : k < (plc l).length) : (plI l).getD k 0 = ((plP l k : Nat) : Int) := by
  unfold plI plP
  rw [List.getD_eq_getElem?_getD, List.getElem?_map, List.getD_eq_getElem?_getD, List.getElem?_eq_getElem h]
  rfl
theorem ix_pl {l : List Int} {k : Nat} (h : k < (plc l).length) : ix (plI l) (k : Int) = some ((plP l k : Nat) : Int) := by
  rw [ixe (by rw [plI_len]; exact h), plI_at h]
theorem plc_le (l : List Int) : (plc l).length ≤ l.length := by
  unfold plc
  rw [plcF_len]
  exact List.length_filter_le ..

theorem apxe (l m : List Int) (h : l.length + m.length ≤ 1000000000) : apx l m = some (l ++ m) := by unfold apx; rw [if_pos h]
theorem apge {α : Type} (l m : List α) (h : l.length + m.length ≤ 1000000000) : apg l m = some (l ++ m) := by unfold apg; rw [if_pos h]
theorem ixge {α : Type} (l : List α) (i : Nat) : ixg l (i : Int) = l[i]? := by unfold ixg; rw [if_pos (by omega)]; simp
theorem setge {α : Type} (l : List α) (i : Nat) (x : α) (h : i < l.length) : setg l (i : Int) x = some (l.set i x) := by unfold setg; rw [if_pos ⟨by omega, by omega⟩]; simp
theorem mkge {α : Type} (k : Nat) (z : α) (h : k ≤ 1000000000) : mkg (k : Int) z = some (List.replicate k z) := by unfold mkg; rw [if_pos ⟨by omega, by omega⟩]; simp

section
variable {N : Nat} {l n : List Int} {b : Int}

theorem rSide_eq (a c : Int) : rSide N a c = some (sideS a c) := by
  unfold rSide sideS
  generalize (if a < c then c else a) = m
  split <;> rfl
theorem rLev_at (hn : n.length = l.length) (k : Nat) : rLev N (plI l) n b (k : Int) = some (lvN l n b k) := by
  unfold rLev lvN
  rw [if_neg (by omega)]
  by_cases h : k < (plc l).length
  · rw [if_neg (by rw [plI_len]; omega), if_pos h]
    simp only [Option.bind_some]
    rw [ix_pl h, Option.bind_some, ixe (by have := (P_at h).1; omega)]
    rfl
  · rw [if_pos (by rw [plI_len]; omega), if_neg h]
    rfl
theorem rLev_prev (hn : n.length = l.length) (k : Nat) (hk : k ≤ 1000000000) : rLev N (plI l) n b (IntKind.i64.wrap ((k : Int) - 1)) = some (prevL l n b k) := by
  unfold prevL
  by_cases h : k = 0
  · subst h
    rw [w64e (by omega) (by omega), if_pos rfl]
    unfold rLev
    rw [if_pos (by omega)]
    rfl
  · rw [wme k hk (by omega), rLev_at hn, if_neg h]
theorem rBeg_at (hn : n.length = l.length) (k : Nat) (hk : k ≤ 1000000000) : rBeg N (plI l) n b (k : Int) = some (begB l n b k) := by
  unfold rBeg begB
  by_cases h : k = 0
  · subst h
    rw [if_pos (show ((0 : Nat) : Int) = 0 from rfl)]
    simp
  · rw [if_neg (by omega), rLev_at hn, Option.bind_some, wme k hk (by omega), rLev_at hn, Option.bind_some]
    congr 1
    by_cases he : lvN l n b k = lvN l n b (k - 1)
    · rw [he, decide_eq_false (by omega)]
      simp
    · rw [decide_eq_true (.inr he)]
      simpa using he
theorem rEnds_at (hn : n.length = l.length) (k : Nat) (hk : k < (plc l).length) (hl : l.length ≤ 400000000) : rEnds N (plI l) n b (k : Int) = some (!onB l n b k) := by
  have := plc_le l
  unfold rEnds onB
  rw [plI_len, w64e (by omega) (by omega)]
  by_cases h : k + 1 = (plc l).length
  · rw [if_pos (by omega), decide_eq_false (by omega)]
    rfl
  · rw [if_neg (by omega), rLev_at hn, Option.bind_some, wne k (by omega), rLev_at hn, Option.bind_some]
    congr 1
    by_cases he : lvN l n b k = lvN l n b (k + 1)
    · rw [he, decide_eq_true ⟨by omega, rfl⟩]
      simp
    · rw [decide_eq_false (by omega)]
      simpa using he

theorem rSeqs_one (hl : l.length ≤ 400000000) : ∀ (k i : Nat) (at_ : List Int), l.length - i < k → i ≤ l.length → at_.length = l.length → (∀ x, x < i → at_.getD x 0 = ((cnt l x : Nat) : Int)) →
    ∃ at2, rSeqs_L1 N l k (plI (l.take i)) at_ (i : Int) = some (plI l, at2) ∧ at2.length = l.length ∧ ∀ x, x < l.length → at2.getD x 0 = ((cnt l x : Nat) : Int)
  | 0, _, _, h, _, _, _ => absurd h (Nat.not_lt_zero _)
  | k + 1, i, at_, hk, hi, ha, hI => by
    unfold rSeqs_L1
    by_cases h : i < l.length
    · have hcl := cnt_all l i
      have hci : cnt l i ≤ i := by unfold cnt; exact Nat.le_trans (List.length_filter_le ..) (by rw [List.length_take]; omega)
      have hinv : ∀ x, x < i + 1 → (at_.set i ((cnt l i : Nat) : Int)).getD x 0 = ((cnt l x : Nat) : Int) := by
        intro x hx
        by_cases hxi : x = i
        · subst hxi
          rw [List.getD_eq_getElem?_getD, List.getElem?_set_self (by omega)]; rfl
        · rw [List.getD_eq_getElem?_getD, List.getElem?_set_ne (by omega), ← List.getD_eq_getElem?_getD]
          exact hI x (by omega)
      have hpl : plI (l.take (i + 1)) = plI (l.take i) ++ (if isRem (l.getD i 0) = true then [] else [(i : Int)]) := by
        unfold plI plc
        rw [take_succ_e l i h, plcF_app, plcF, plcF]
        have hlen : (l.take i).length = i := by rw [List.length_take]; omega
        rw [hlen, Nat.zero_add]
        split <;> simp [plcF]
      rw [if_pos (by omega), ixe (by omega), Option.bind_some, plI_len, hcl, setxe _ (by omega), Option.bind_some, ixe h, Option.bind_some, rRem_eq, Option.bind_some, wne i (by omega)]
      have ih := rSeqs_one hl k (i + 1) (at_.set i ((cnt l i : Nat) : Int)) (by omega) (by omega) (by simpa using ha) hinv
      rw [hpl] at ih
      cases hr : isRem (l.getD i 0) with
      | true =>
        rw [hr, if_pos rfl, List.append_nil] at ih
        exact ih
      | false =>
        rw [hr, if_neg (by decide)] at ih
        show ∃ at2, ((apx (plI (l.take i)) [(i : Int)]).bind fun l95 => rSeqs_L1 N l k l95 _ _) = _ ∧ _
        rw [apxe _ _ (by rw [plI_len, hcl]; show cnt l i + 1 ≤ _; omega), Option.bind_some]
        exact ih
    · rw [if_neg (by omega)]
      have : i = l.length := by omega
      subst this
      rw [List.take_length]
      exact ⟨at_, rfl, ha, hI⟩

/-- what a place leads to, as a number -/
def leadN (o : Option Nat) : Int := match o with | some j => (j : Int) | none => -1

theorem rSeqs_two (hn : n.length = l.length) (hl : l.length ≤ 400000000) (at_ : List Int) (hat : at_.length = l.length) (hA : ∀ x, x < l.length → at_.getD x 0 = ((cnt l x : Nat) : Int)) :
    ∀ (f k : Nat) (ld : List Int) (lb : List Bool), (plc l).length - k < f → k ≤ (plc l).length → ld.length = (plc l).length → lb.length = (plc l).length → (∀ x, x < k → ld.getD x 0 = leadN (scI l n b x)) → (∀ x, x < (plc l).length → lb[x]? = some (decide (∃ i, i < k ∧ scI l n b i = some x))) →
    ∃ ld2 lb2, rSeqs_L2 N l n b (plI l) at_ (matchS l) f ld lb (k : Int) = some (ld2, lb2) ∧ ld2.length = (plc l).length ∧ lb2.length = (plc l).length ∧ (∀ x, x < (plc l).length → ld2.getD x 0 = leadN (scI l n b x)) ∧ (∀ x, x < (plc l).length → lb2[x]? = some (ledB (scI l n b) x))
  | 0, _, _, _, h, _, _, _, _, _ => absurd h (Nat.not_lt_zero _)
  | f + 1, k, ld, lb, hf, hk, hd1, hd2, hI, hB => by
    have hpl := plc_le l
    unfold rSeqs_L2
    by_cases h : k < (plc l).length
    · obtain ⟨p1, p2, p3⟩ := P_at h
      have hkd : k < ld.length := by omega
      have hm : ix (matchS l) ((plP l k : Nat) : Int) = some ((matchS l).getD (plP l k) 0) := ixe (by rw [matchS_len]; exact p1)
      rw [if_pos (by rw [plI_len]; omega), ixe hkd, Option.bind_some, setxe _ hkd, Option.bind_some, ix_pl h, Option.bind_some, hm, Option.bind_some, rEnds_at hn k h hl, Option.bind_some]
      have hset : ∀ v : Int, (ld.set k (-1)).set k v = ld.set k v := fun v => by rw [List.set_set]
      have hk2 : k < (ld.set k (-1)).length := by simpa using hkd
      -- what comes behind
      have cont : ∃ ld2 lb2, ((ix (ld.set k (leadN (scI l n b k))) (k : Int)).bind fun x239 => (if x239 ≥ 0 then ((ix (ld.set k (leadN (scI l n b k))) (k : Int)).bind fun x242 => ((ixg lb x242).bind fun _x244 => ((setg lb x242 true).bind fun l253 => rSeqs_L2 N l n b (plI l) at_ (matchS l) f (ld.set k (leadN (scI l n b k))) l253 (IntKind.i64.wrap ((k : Int) + 1))))) else rSeqs_L2 N l n b (plI l) at_ (matchS l) f (ld.set k (leadN (scI l n b k))) lb (IntKind.i64.wrap ((k : Int) + 1)))) = some (ld2, lb2) ∧ ld2.length = (plc l).length ∧ lb2.length = (plc l).length ∧ (∀ x, x < (plc l).length → ld2.getD x 0 = leadN (scI l n b x)) ∧ (∀ x, x < (plc l).length → lb2[x]? = some (ledB (scI l n b) x)) := by
        have hk3 : k < (ld.set k (leadN (scI l n b k))).length := by simpa using hkd
        have hg : (ld.set k (leadN (scI l n b k))).getD k 0 = leadN (scI l n b k) := by rw [List.getD_eq_getElem?_getD, List.getElem?_set_self hkd]; rfl
        rw [ixe hk3, Option.bind_some, hg, wne k (by omega)]
        have hI2 : ∀ x, x < k + 1 → (ld.set k (leadN (scI l n b k))).getD x 0 = leadN (scI l n b x) := by
          intro x hx
          by_cases hxk : x = k
          · rw [hxk]; exact hg
          · rw [List.getD_eq_getElem?_getD, List.getElem?_set_ne (by omega), ← List.getD_eq_getElem?_getD]
            exact hI x (by omega)
        cases hs : scI l n b k with
        | none =>
          rw [hs] at hI2 hg hk3
          show ∃ ld2 lb2, (if (-1 : Int) ≥ 0 then _ else rSeqs_L2 N l n b (plI l) at_ (matchS l) f (ld.set k (leadN none)) lb ((k + 1 : Nat) : Int)) = _ ∧ _
          rw [if_neg (by decide)]
          refine rSeqs_two hn hl at_ hat hA f (k + 1) _ lb (by omega) (by omega) (by simpa using hd1) hd2 hI2 (fun x hx => ?_)
          rw [hB x hx]
          congr 1
          rw [decide_eq_decide]
          constructor
          · rintro ⟨i, h1, h2⟩; exact ⟨i, by omega, h2⟩
          · rintro ⟨i, h1, h2⟩
            by_cases hik : i = k
            · rw [hik, hs] at h2; cases h2
            · exact ⟨i, by omega, h2⟩
        | some j =>
          obtain ⟨j1, j2⟩ := sc_lt _ _ hs
          rw [hs] at hI2 hg hk3
          show ∃ ld2 lb2, (if ((j : Nat) : Int) ≥ 0 then _ else _) = _ ∧ _
          rw [if_pos (by omega), Option.bind_some]
          show ∃ ld2 lb2, ((ixg lb ((j : Nat) : Int)).bind fun _ => _) = _ ∧ _
          rw [ixge, hB j j2, Option.bind_some]
          show ∃ ld2 lb2, ((setg lb ((j : Nat) : Int) true).bind fun l253 => _) = _ ∧ _
          rw [setge _ _ _ (by omega), Option.bind_some]
          refine rSeqs_two hn hl at_ hat hA f (k + 1) _ _ (by omega) (by omega) (by simpa using hd1) (by simpa using hd2) hI2 (fun x hx => ?_)
          by_cases hxj : x = j
          · subst hxj
            rw [List.getElem?_set_self (by omega), decide_eq_true ⟨k, by omega, hs⟩]
          · rw [List.getElem?_set_ne (by omega), hB x hx]
            congr 1
            rw [decide_eq_decide]
            constructor
            · rintro ⟨i, h1, h2⟩; exact ⟨i, by omega, h2⟩
            · rintro ⟨i, h1, h2⟩
              by_cases hik : i = k
              · rw [hik, hs] at h2; injection h2 with h2; exact absurd h2.symm hxj
              · exact ⟨i, by omega, h2⟩
      -- the number that stands there then
      cases ho : onB l n b k with
      | true =>
        have ho2 := of_decide_eq_true ho
        rw [sc_on ho2.1 ho2.2] at cont
        show ∃ ld2 lb2, ((((ix (ld.set k (-1)) (k : Int)).bind fun _ => ((setx (ld.set k (-1)) (k : Int) (IntKind.i64.wrap ((k : Int) + 1))).bind fun l235 => some l235)) : Option (List Int)).bind _) = _ ∧ _
        rw [ixe hk2, Option.bind_some, setxe _ hk2, Option.bind_some, hset, Option.bind_some, wne k (by omega)]
        rw [wne k (by omega)] at cont
        exact cont
      | false =>
        rw [sc_end h ho] at cont
        simp only [Bool.not_false, Option.bind_some]
        rw [ixe p1, Option.bind_some, rInit_eq, Option.bind_some]
        cases hi : isInit (l.getD (plP l k) 0) with
        | false =>
          have hc : cl l (plP l k) = none := by unfold cl; rw [hi]; rfl
          rw [hc] at cont
          exact cont
        | true =>
          rw [match_init p1 hi]
          cases hc : cl l (plP l k) with
          | none =>
            rw [hc] at cont
            exact cont
          | some v =>
            rw [hc] at cont
            obtain ⟨c1, c2, c3⟩ := cl_cnt h hc
            have hv := (cl_at hc).2.2.1
            have e1 : ix at_ ((v : Nat) : Int) = some ((cnt l v : Nat) : Int) := by rw [ixe (by omega), hA v hv]
            simp only
            rw [if_pos (by omega)]
            simp only [Option.bind_some, e1]
            rw [rBeg_at hn _ (by omega)]
            cases hb : begB l n b (cnt l v) with
            | true =>
              dsimp only at cont
              rw [hb, if_pos rfl] at cont
              simp only [Option.bind_some]
              rw [ixe hk2, Option.bind_some, setxe _ hk2, Option.bind_some, hset]
              exact cont
            | false =>
              dsimp only at cont
              rw [hb, if_neg (by decide)] at cont
              exact cont
    · rw [if_neg (by rw [plI_len]; omega)]
      have hkK : k = (plc l).length := by omega
      refine ⟨ld, lb, rfl, hd1, hd2, fun x hx => hI x (by omega), fun x hx => ?_⟩
      rw [hB x hx]
      congr 1
      cases hle : ledB (scI l n b) x with
      | true =>
        obtain ⟨i, h1, h2⟩ := led_iff.1 hle
        exact decide_eq_true ⟨i, by omega, h2⟩
      | false =>
        refine decide_eq_false ?_
        rintro ⟨i, h1, h2⟩
        rw [led_iff.2 ⟨i, (sc_lt _ _ h2).1, h2⟩] at hle
        cases hle

theorem rSeqs_four (hl : l.length ≤ 400000000) (ld : List Int) (hd1 : ld.length = (plc l).length) (hI : ∀ x, x < (plc l).length → ld.getD x 0 = leadN (scI l n b x)) : ∀ (f j : Nat) (acc : List Int) (last : Int), (plc l).length - j < f → j < (plc l).length → acc.length ≤ j →
    rSeqs_L4 N (plI l) ld (f + 1) acc last (j : Int) = some (acc ++ (walk (scI l n b) (plc l).length j).map (fun k => ((plP l k : Nat) : Int)), ((lst (walk (scI l n b) (plc l).length j) : Nat) : Int))
  | 0, _, _, _, h, _, _ => absurd h (Nat.not_lt_zero _)
  | f + 1, j, acc, last, hf, hj, ha => by
    have hpl := plc_le l
    unfold rSeqs_L4
    rw [if_pos (by omega), ix_pl hj, Option.bind_some, apxe _ _ (by show acc.length + 1 ≤ _; omega), Option.bind_some, ixe (by omega), Option.bind_some, hI j hj]
    cases hs : scI l n b j with
    | none =>
      rw [walk_none sc_s hj (fun i h => by rw [hs] at h; cases h)]
      show rSeqs_L4 N (plI l) ld (f + 1) _ _ (-1) = _
      unfold rSeqs_L4
      rw [if_neg (by decide)]
      rfl
    | some i =>
      obtain ⟨i1, i2⟩ := sc_lt _ _ hs
      show rSeqs_L4 N (plI l) ld (f + 1) _ _ ((i : Nat) : Int) = _
      rw [rSeqs_four hl ld hd1 hI f i _ _ (by omega) i2 (by rw [List.length_append]; show acc.length + 1 ≤ _; omega), walk_some sc_s i2 hs, lst_cons _ (walk_ne sc_s i2), List.map_cons, List.append_assoc]
      rfl

theorem rSeqs_three (hn : n.length = l.length) (hl : l.length ≤ 400000000) (hN : l.length + 2 < N) (ld : List Int) (lb : List Bool) (hd1 : ld.length = (plc l).length) (hI : ∀ x, x < (plc l).length → ld.getD x 0 = leadN (scI l n b x)) (hB : ∀ x, x < (plc l).length → lb[x]? = some (ledB (scI l n b) x)) :
    ∀ (f k : Nat) (out : List (List Int × Int × Int × Int)), (plc l).length - k < f → k ≤ (plc l).length → out.length ≤ k →
    rSeqs_L3 N l n b (plI l) (matchS l) ld lb f out (k : Int) = some (out ++ ((List.range' k ((plc l).length - k)).filter fun x => !ledB (scI l n b) x).map (mkS l n b (plc l).length))
  | 0, _, _, h, _, _ => absurd h (Nat.not_lt_zero _)
  | f + 1, k, out, hf, hk, ho => by
    have hpl := plc_le l
    unfold rSeqs_L3
    by_cases h : k < (plc l).length
    · obtain ⟨p1, p2, p3⟩ := P_at h
      rw [if_pos (by rw [plI_len]; omega), ixge, hB k h, Option.bind_some, show (plc l).length - k = ((plc l).length - (k + 1)) + 1 by omega, List.range'_succ, List.filter_cons, wne k (by omega)]
      have ih := fun o h1 => rSeqs_three hn hl hN ld lb hd1 hI hB f (k + 1) o (by omega) (by omega) h1
      cases hle : ledB (scI l n b) k with
      | true =>
        simp only [Option.bind_some]
        rw [ih out (by omega)]
        rfl
      | false =>
        obtain ⟨M, rfl⟩ : ∃ M, N = M + 1 := ⟨N - 1, by omega⟩
        have hw := lst_mem (sc := scI l n b) sc_s k h
        have hw2 := (walk_in (sc := scI l n b) sc_s k h _ hw).2
        obtain ⟨q1, q2, q3⟩ := P_at hw2
        have h4 := rSeqs_four (N := M + 1) (n := n) (b := b) hl ld hd1 hI M k [] ((k : Nat) : Int) (by omega) h (Nat.zero_le _)
        rw [List.nil_append] at h4
        simp only [rLev_at hn, rLev_prev hn k (by omega), rSide_eq, Option.bind_some, h4]
        generalize hL : lst (walk (scI l n b) (plc l).length k) = L at hw2 q1 q2 q3
        rw [wne L (by omega), rLev_at hn]
        simp only [Option.bind_some]
        rw [ix_pl hw2, Option.bind_some, ixe q1, Option.bind_some, rInit_eq, Option.bind_some]
        have fin : ∀ v : Int, (if isInit (l.getD (plP l L) 0) = true ∧ cl l (plP l L) = none then b else lvN l n b (L + 1)) = v → ((apg out [((walk (scI l n b) (plc l).length k).map (fun k => ((plP l k : Nat) : Int)), lvN l n b k, sideS (lvN l n b k) (prevL l n b k), sideS (lvN l n b L) v)]).bind fun l310 => rSeqs_L3 (M + 1) l n b (plI l) (matchS l) ld lb f l310 ((k + 1 : Nat) : Int)) =
            some (out ++ (k :: (List.range' (k + 1) ((plc l).length - (k + 1))).filter fun x => !ledB (scI l n b) x).map (mkS l n b (plc l).length)) := by
          intro v hv
          rw [apge _ _ (by show out.length + 1 ≤ _; omega), Option.bind_some, ih _ (by rw [List.length_append]; show out.length + 1 ≤ _; omega), List.append_assoc]
          unfold mkS eosI
          rw [List.map_cons, hL, hv]
          rfl
        cases hi : isInit (l.getD (plP l L) 0) with
        | false =>
          rw [hi] at fin
          simp only [Option.bind_some, rLev_at hn, rSide_eq]
          rw [Option.bind_assoc]
          exact fin _ (by rw [if_neg (fun e => by cases e.1)])
        | true =>
          simp only [Option.bind_some]
          rw [ixe (by rw [matchS_len]; exact q1), Option.bind_some, match_init q1 hi]
          rw [hi] at fin
          cases hc : cl l (plP l L) with
          | none =>
            rw [hc] at fin
            simp only
            rw [if_pos (by decide)]
            simp only [Option.bind_some, rLev_at hn, rSide_eq]
            rw [Option.bind_assoc]
            exact fin _ (by rw [if_pos ⟨rfl, rfl⟩])
          | some v =>
            rw [hc] at fin
            simp only
            rw [if_neg (by omega)]
            simp only [Option.bind_some, rLev_at hn, rSide_eq]
            rw [Option.bind_assoc]
            exact fin _ (by rw [if_neg (fun e => by cases e.2)])
    · rw [if_neg (by rw [plI_len]; omega), show (plc l).length - k = 0 by omega]
      simp

theorem rSeqs_eq (l n : List Int) (b : Int) (hl : l.length ≤ 400000000) (hN : l.length + 2 < N) : rSeqs N l n b = some (if l.length > 65536 then ([], 3) else if l.length ≠ n.length then ([], 2) else (seqsS l n b, 0)) := by
  have hpl := plc_le l
  unfold rSeqs
  by_cases h1 : l.length > 65536
  · rw [if_pos (by omega), if_pos h1]
  rw [if_neg (by omega), if_neg h1]
  by_cases h2 : l.length ≠ n.length
  · rw [if_pos (by omega), if_pos h2]
  rw [if_neg (by omega), if_neg h2]
  have hn : n.length = l.length := by omega
  have hmk : ∀ k : Nat, k ≤ 1000000000 → mkx (k : Int) = some (List.replicate k 0) := fun k hk => by unfold mkx; rw [if_pos ⟨by omega, by omega⟩]; simp
  rw [hmk l.length (by omega), Option.bind_some]
  obtain ⟨at2, e1, e2, e3⟩ := rSeqs_one (N := N) (l := l) hl N 0 (List.replicate l.length 0) (by omega) (Nat.zero_le _) (by simp) (fun x hx => by omega)
  have e1' : rSeqs_L1 N l N [] (List.replicate l.length 0) 0 = some (plI l, at2) := e1
  rw [e1']
  simp only [Option.bind_some]
  rw [rMatch_eq N l hl hN]
  simp only [Option.bind_some]
  rw [plI_len, hmk _ (by omega), mkge _ _ (by omega)]
  simp only [Option.bind_some]
  obtain ⟨ld, lb, f1, f2, f3, f4, f5⟩ := rSeqs_two (N := N) (n := n) (b := b) hn hl at2 e2 e3 N 0 (List.replicate (plc l).length 0) (List.replicate (plc l).length false) (by omega) (Nat.zero_le _) (by simp) (by simp) (fun x hx => by omega) (fun x hx => by
    rw [List.getElem?_replicate, if_pos hx, decide_eq_false]
    rintro ⟨i, h, _⟩; omega)
  have f1' : rSeqs_L2 N l n b (plI l) at2 (matchS l) N (List.replicate (plc l).length 0) (List.replicate (plc l).length false) 0 = some (ld, lb) := f1
  rw [f1']
  simp only [Option.bind_some]
  have h3 := rSeqs_three (N := N) (n := n) (b := b) hn hl hN ld lb f2 f4 f5 N 0 [] (by omega) (Nat.zero_le _) (Nat.le_refl _)
  have h3' : rSeqs_L3 N l n b (plI l) (matchS l) ld lb N [] 0 = some (seqsS l n b) := by
    rw [show rSeqs_L3 N l n b (plI l) (matchS l) ld lb N [] 0 = _ from h3, List.nil_append, Nat.sub_zero, ← List.range_eq_range']
    rfl
  rw [h3']
  rfl
end
end Go.Proofs.Ytjndolnjhbgflaa
