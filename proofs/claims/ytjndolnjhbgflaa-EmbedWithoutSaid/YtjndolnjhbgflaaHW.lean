/-
  EmbedWithout: what is removed is passed over.
-/
import Derived.Test.YtjndolnjhbgflaaHV
import Derived.Test.YtjndolnjhbgflaaFWithout
namespace Go.Proofs.Ytjndolnjhbgflaa
open Go Go.RowKit
set_option linter.unusedVariables false
set_option linter.unusedSectionVars false
set_option linter.unusedSimpArgs false

theorem put_cls (x : Int) (h : 0 ≤ x) : ∃ c, ix [10, 19, 16, 17] (Int.tmod (IntKind.u16.wrap (Int.tdiv x 7)) 4) = some c ∧ isRem c = true := by
  rw [IntKind.wrap_u16]
  generalize Int.tdiv x 7 = y
  have h0 : 0 ≤ y % 65536 := by omega
  rw [Int.tmod_eq_emod_of_nonneg h0]
  have : y % 65536 % 4 = 0 ∨ y % 65536 % 4 = 1 ∨ y % 65536 % 4 = 2 ∨ y % 65536 % 4 = 3 := by omega
  rcases this with e | e | e | e
  · rw [e]; exact ⟨10, rfl, rfl⟩
  · rw [e]; exact ⟨19, rfl, rfl⟩
  · rw [e]; exact ⟨16, rfl, rfl⟩
  · rw [e]; exact ⟨17, rfl, rfl⟩

section
variable (N : Nat) (p0 p1 : List Int) (p3 : List Int)
def resW (x : Int) : Int := Int.tmod (IntKind.i64.wrap x) (IntKind.i64.wrap (((p0.length : Nat) : Int) + 1))

variable {N p0 p1 p3}
theorem put_L2 (h3 : ∀ x ∈ p3, 0 ≤ x) (h3l : p3.length ≤ 100) (h0l : p0.length ≤ 1000) (v : Int) : ∀ (k i : Nat) (a c e : List Int), p3.length - i < k → i ≤ p3.length → a.length ≤ 900000000 → c.length = a.length → e.length = a.length → a.length + (p3.length - i) ≤ 900000000 →
    ∃ A C E : List Int, fWithout_L2 N p0 p3 v k a c e (i : Int) = some (a ++ A, c ++ C, e ++ E) ∧ (∀ x ∈ A, isRem x = true) ∧ (∀ x ∈ C, 0 ≤ x) ∧ C.length = A.length ∧ E.length = A.length ∧ A.length = ((p3.drop i).filter fun x => decide (resW p0 x = v)).length
  | 0, _, _, _, _, h, _, _, _, _, _ => absurd h (Nat.not_lt_zero _)
  | k + 1, i, a, c, e, hk, hi, ha, hc, he, hs => by
    unfold fWithout_L2
    by_cases h : i < p3.length
    · have hz : ¬ IntKind.i64.wrap (((p0.length : Nat) : Int) + 1) = 0 := by rw [wne _ (by omega)]; omega
      have hx0 : 0 ≤ p3.getD i 0 := by rw [List.getD_eq_getElem?_getD, List.getElem?_eq_getElem h]; exact h3 _ (List.getElem_mem h)
      rw [if_pos (by omega), ixe h, Option.bind_some, if_neg hz, wne i (by omega), drop_e h]
      show ∃ A C E : List Int, (if resW p0 (p3.getD i 0) = v then _ else _) = _ ∧ _
      by_cases hr : resW p0 (p3.getD i 0) = v
      · obtain ⟨cc, e1, e2⟩ := put_cls _ hx0
        have hlv : 0 ≤ IntKind.u8.wrap (Int.fdiv (p3.getD i 0) 256) := by
          rw [IntKind.wrap_u8]
          generalize Int.fdiv (p3.getD i 0) 256 = y
          omega
        rw [if_pos hr, Option.bind_some, e1, Option.bind_some, apxe _ _ (by show a.length + 1 ≤ _; omega), Option.bind_some, Option.bind_some, apxe _ _ (by show c.length + 1 ≤ _; omega), Option.bind_some, apxe _ _ (by show e.length + 1 ≤ _; omega), Option.bind_some]
        obtain ⟨A, C, E, g1, g2, g3, g4, g5, g6⟩ := put_L2 h3 h3l h0l v k (i + 1) (a ++ [cc]) (c ++ [IntKind.u8.wrap (Int.fdiv (p3.getD i 0) 256)]) (e ++ [-1]) (by omega) (by omega) (by rw [List.length_append]; show a.length + 1 ≤ _; omega) (by rw [List.length_append, List.length_append, hc]; rfl) (by rw [List.length_append, List.length_append, he]; rfl) (by rw [List.length_append]; show a.length + 1 + _ ≤ _; omega)
        rw [List.filter_cons_of_pos (by exact decide_eq_true hr)]
        refine ⟨cc :: A, IntKind.u8.wrap (Int.fdiv (p3.getD i 0) 256) :: C, (-1) :: E, ?_, ?_, ?_, ?_, ?_, ?_⟩
        · rw [g1, List.append_assoc, List.append_assoc, List.append_assoc]; rfl
        · intro x hx
          rcases List.mem_cons.1 hx with rfl | hx
          · exact e2
          · exact g2 x hx
        · intro x hx
          rcases List.mem_cons.1 hx with rfl | hx
          · exact hlv
          · exact g3 x hx
        · rw [List.length_cons, List.length_cons, g4]
        · rw [List.length_cons, List.length_cons, g5]
        · rw [List.length_cons, List.length_cons, g6]
      · rw [if_neg hr, List.filter_cons_of_neg (by rw [decide_eq_false hr]; decide)]
        exact put_L2 h3 h3l h0l v k (i + 1) a c e (by omega) (by omega) ha hc he (by omega)
    · rw [if_neg (by omega), List.drop_eq_nil_of_le (by omega)]
      exact ⟨[], [], [], by rw [List.append_nil, List.append_nil, List.append_nil], fun x hx => (by cases hx), fun x hx => (by cases hx), rfl, rfl, rfl⟩

theorem cut_count (q : List Int) (i : Nat) : (q.filter fun x => decide (resW p0 x < (i : Int))).length + (q.filter fun x => decide (resW p0 x = (i : Int))).length = (q.filter fun x => decide (resW p0 x < ((i + 1 : Nat) : Int))).length := by
  induction q with
  | nil => rfl
  | cons x q ih =>
    rw [List.filter_cons, List.filter_cons, List.filter_cons]
    by_cases a : resW p0 x < (i : Int)
    · rw [if_pos (decide_eq_true a), if_neg (by rw [decide_eq_false (by omega)]; decide), if_pos (decide_eq_true (by omega)), List.length_cons, List.length_cons]; omega
    · by_cases c : resW p0 x = (i : Int)
      · rw [if_neg (by rw [decide_eq_false a]; decide), if_pos (decide_eq_true c), if_pos (decide_eq_true (by omega)), List.length_cons, List.length_cons]; omega
      · rw [if_neg (by rw [decide_eq_false a]; decide), if_neg (by rw [decide_eq_false c]; decide), if_neg (by rw [decide_eq_false (by omega)]; decide)]; omega

def rowR (p0 : List Int) : List Int := (List.range p0.length).map fun x => ((x : Nat) : Int)
/-- how far the row with more in it has come -/
structure InvW (p0 p1 p3 : List Int) (i : Nat) (a c e : List Int) : Prop where
  l1 : c.length = a.length
  l2 : e.length = a.length
  l3 : a.length ≤ i + (p3.filter fun x => decide (resW p0 x < (i : Int))).length
  nn : ∀ x ∈ c, 0 ≤ x
  ff : FF a (c.zip e) = ((p0.zip (p1.zip (rowR p0))).take i).filter fun y => nr y.1

theorem put_L1 (h3 : ∀ x ∈ p3, 0 ≤ x) (h3l : p3.length ≤ 100) (h0l : p0.length ≤ 1000) (h1l : p1.length = p0.length) (hp1 : ∀ x ∈ p1, 0 ≤ x) (hN : 200 < N) : ∀ (k i : Nat) (a c e : List Int), p0.length + 1 - i < k → i ≤ p0.length + 1 → InvW p0 p1 p3 i a c e →
    ∃ M Q O, fWithout_L1 N p0 p1 p3 k a c e (i : Int) = some (M, Q, O) ∧ InvW p0 p1 p3 (p0.length + 1) M Q O
  | 0, _, _, _, _, h, _, _ => absurd h (Nat.not_lt_zero _)
  | k + 1, i, a, c, e, hk, hi, hI => by
    unfold fWithout_L1
    by_cases h : i ≤ p0.length
    · obtain ⟨l1, l2, l3, nn, ff⟩ := hI
      have hfl := List.length_filter_le (fun x => decide (resW p0 x < (i : Int))) p3
      obtain ⟨A, C, E, g1, g2, g3, g4, g5, g6⟩ := put_L2 (N := N) h3 h3l h0l (i : Int) N 0 a c e (by omega) (Nat.zero_le _) (by omega) l1 l2 (by omega)
      have g1' : fWithout_L2 N p0 p3 (i : Int) N a c e 0 = some (a ++ A, c ++ C, e ++ E) := g1
      rw [List.drop_zero] at g6
      have hcut := cut_count (p0 := p0) p3 i
      have hfl' := List.length_filter_le (fun x => decide (resW p0 x < ((i + 1 : Nat) : Int))) p3
      rw [if_pos (by omega), g1', Option.bind_some]
      simp only
      have hff : FF (a ++ A) ((c ++ C).zip (e ++ E)) = ((p0.zip (p1.zip (rowR p0))).take i).filter fun y => nr y.1 := by
        rw [List.zip_append (by omega), FF_app (by rw [List.length_zip]; omega), FF_rem g2, List.append_nil, ff]
      have hnn : ∀ x ∈ c ++ C, 0 ≤ x := fun x hx => (List.mem_append.1 hx).elim (nn x) (g3 x)
      have hla : (a ++ A).length = a.length + A.length := List.length_append
      have hlc : (c ++ C).length = c.length + C.length := List.length_append
      have hle : (e ++ E).length = e.length + E.length := List.length_append
      generalize a ++ A = a' at hff hla ⊢
      generalize c ++ C = c' at hff hnn hlc ⊢
      generalize e ++ E = e' at hff hle ⊢
      by_cases hlt : i < p0.length
      · rw [if_pos (by omega), ixe hlt, Option.bind_some, apxe _ _ (by show a'.length + 1 ≤ _; omega), Option.bind_some, ixe (by omega), Option.bind_some, apxe _ _ (by show c'.length + 1 ≤ _; omega), Option.bind_some, apxe _ _ (by show e'.length + 1 ≤ _; omega), Option.bind_some, Option.bind_some]
        simp only
        rw [wne i (by omega)]
        refine put_L1 h3 h3l h0l h1l hp1 hN k (i + 1) _ _ _ (by omega) (by omega) ⟨?_, ?_, ?_, ?_, ?_⟩
        · rw [List.length_append, List.length_append]; show c'.length + 1 = a'.length + 1; omega
        · rw [List.length_append, List.length_append]; show e'.length + 1 = a'.length + 1; omega
        · rw [List.length_append]; show a'.length + 1 ≤ _; omega
        · intro x hx
          rcases List.mem_append.1 hx with hx | hx
          · exact hnn x hx
          · rw [List.mem_singleton.1 hx, List.getD_eq_getElem?_getD, List.getElem?_eq_getElem (by omega)]
            exact hp1 _ (List.getElem_mem _)
        · have hrl : (rowR p0).length = p0.length := by unfold rowR; rw [List.length_map, List.length_range]
          have hzl : i < (p0.zip (p1.zip (rowR p0))).length := by rw [List.length_zip, List.length_zip]; omega
          rw [List.zip_append (by omega), FF_app (by rw [List.length_zip]; omega), hff, List.take_add_one, List.getElem?_eq_getElem hzl, List.filter_append]
          congr 1
          have : (p0.zip (p1.zip (rowR p0)))[i] = (p0.getD i 0, p1.getD i 0, (i : Int)) := by
            rw [List.getElem_zip, List.getElem_zip, List.getD_eq_getElem?_getD, List.getD_eq_getElem?_getD, List.getElem?_eq_getElem hlt, List.getElem?_eq_getElem (by omega)]
            simp [rowR]
          rw [this]
          rfl
      · rw [if_neg (by omega), Option.bind_some]
        simp only
        rw [wne i (by omega)]
        refine put_L1 h3 h3l h0l h1l hp1 hN k (i + 1) _ _ _ (by omega) (by omega) ⟨by omega, by omega, by omega, hnn, ?_⟩
        have hzl : (p0.zip (p1.zip (rowR p0))).length ≤ i := by rw [List.length_zip]; omega
        rw [hff, List.take_of_length_le (by omega), List.take_of_length_le (by omega)]
    · rw [if_neg (by omega)]
      obtain rfl : i = p0.length + 1 := by omega
      exact ⟨a, c, e, rfl, hI⟩

/-- a sequence in both rows -/
theorem put_L4 {O : List Int} {r s : List (List Int × Int × Int × Int)} {x : Nat} {w : List Nat} {f g : Nat → Nat} {y z : Int × Int × Int} (hO : O.length ≤ 400000000) (hw : w.length ≤ 400000000) (hr : r[x]? = some (w.map (fun k => ((f k : Nat) : Int)), y)) (hs : s[x]? = some (w.map (fun k => ((g k : Nat) : Int)), z)) (hg : ∀ k ∈ w, g k < O.length ∧ O.getD (g k) 0 = ((f k : Nat) : Int)) :
    ∀ (k j : Nat), w.length - j < k → j ≤ w.length → fWithout_L4 N O r s (x : Int) k (j : Int) = some (Ctl.go ())
  | 0, _, h, _ => absurd h (Nat.not_lt_zero _)
  | k + 1, j, hk, hj => by
    unfold fWithout_L4
    rw [ixge, hr, Option.bind_some]
    simp only
    rw [List.length_map]
    by_cases h : j < w.length
    · have hlf : ∀ (q : Nat → Nat), ix (w.map (fun k => ((q k : Nat) : Int))) (j : Int) = some ((q w[j] : Nat) : Int) := by
        intro q
        rw [ixe (by rw [List.length_map]; exact h), List.getD_eq_getElem?_getD, List.getElem?_map, List.getElem?_eq_getElem h]; rfl
      obtain ⟨h1, h2⟩ := hg _ (List.getElem_mem h)
      rw [if_pos (by omega), ixge, hs, Option.bind_some]
      simp only
      rw [hlf g, Option.bind_some, if_neg (by omega), if_neg (by omega), Option.bind_some]
      simp only
      rw [ixe h1, Option.bind_some, Option.bind_some]
      simp only
      rw [hlf f, Option.bind_some, h2, if_neg (by simp), wne j (by omega)]
      exact put_L4 hO hw hr hs hg k (j + 1) (by omega) (by omega)
    · rw [if_neg (by omega)]
theorem put_L3 {O : List Int} {w : Nat → List Nat} {H : List Nat} {f g : Nat → Nat} {y z : Nat → Int × Int × Int} (hO : O.length ≤ 400000000) (hH : H.length ≤ 400000000) (hw : ∀ h ∈ H, (w h).length ≤ 400000000 ∧ (w h).length < N) (hyz : ∀ h ∈ H, y h = z h) (hg : ∀ h ∈ H, ∀ k ∈ w h, g k < O.length ∧ O.getD (g k) 0 = ((f k : Nat) : Int)) :
    ∀ (k i : Nat), H.length - i < k → i ≤ H.length → fWithout_L3 N O (H.map fun h => ((w h).map (fun k => ((f k : Nat) : Int)), y h)) (H.map fun h => ((w h).map (fun k => ((g k : Nat) : Int)), z h)) k (i : Int) = some (Ctl.go ())
  | 0, _, h, _ => absurd h (Nat.not_lt_zero _)
  | k + 1, i, hk, hi => by
    unfold fWithout_L3
    by_cases h : i < H.length
    · have hm := List.getElem_mem h
      have hr : (H.map fun h => ((w h).map (fun k => ((f k : Nat) : Int)), y h))[i]? = some ((w H[i]).map (fun k => ((f k : Nat) : Int)), y H[i]) := by rw [List.getElem?_map, List.getElem?_eq_getElem h]; rfl
      have hs : (H.map fun h => ((w h).map (fun k => ((g k : Nat) : Int)), z h))[i]? = some ((w H[i]).map (fun k => ((g k : Nat) : Int)), z H[i]) := by rw [List.getElem?_map, List.getElem?_eq_getElem h]; rfl
      have hL4 := put_L4 (N := N) hO (hw _ hm).1 hr hs (hg _ hm) N 0 (by have := (hw _ hm).2; omega) (Nat.zero_le _)
      have hL4' : fWithout_L4 N O (H.map fun h => ((w h).map (fun k => ((f k : Nat) : Int)), y h)) (H.map fun h => ((w h).map (fun k => ((g k : Nat) : Int)), z h)) (i : Int) N 0 = some (Ctl.go ()) := hL4
      rw [if_pos (by rw [List.length_map]; omega), ixge, ixge, hr, hs, Option.bind_some, Option.bind_some]
      simp only [List.length_map, ← hyz _ hm, ne_eq, not_true_eq_false, if_false, Option.bind_some]
      rw [hL4']
      simp only [Option.bind_some]
      rw [wne i (by omega)]
      exact put_L3 hO hH hw hyz hg k (i + 1) (by omega) (by omega)
    · rw [if_neg (by rw [List.length_map]; omega)]
end

theorem fWithout_at (p0 p1 : List Int) (p2 : Int) (p3 : List Int) (hp1 : ∀ x ∈ p1, 0 ≤ x) (h2 : 0 ≤ p2) (h3 : ∀ x ∈ p3, 0 ≤ x) (N : Nat) (hN : 3000 < N) : fWithout N p0 p1 p2 p3 = some true := by
  unfold fWithout
  by_cases h0 : p0.length > 1000
  · rw [if_pos (by omega), Option.bind_some]
    simp only
    rw [kIso_eq N (by omega)]; rfl
  rw [if_neg (by omega)]
  by_cases h3l : p3.length > 100
  · rw [if_pos (by omega), Option.bind_some]
    simp only
    rw [kIso_eq N (by omega)]; rfl
  rw [if_neg (by omega), Option.bind_some]
  simp only
  by_cases hl : p0.length ≠ p1.length
  · rw [if_pos (by omega), kIso_eq N (by omega)]; rfl
  rw [if_neg (by omega)]
  simp only [Option.bind_some]
  obtain ⟨M, Q, O, e1, ⟨l1, l2, l3, nn, ff⟩⟩ := put_L1 (N := N) (p0 := p0) (p1 := p1) (p3 := p3) h3 (by omega) (by omega) (by omega) hp1 (by omega) N 0 [] [] [] (by omega) (Nat.zero_le _) ⟨rfl, rfl, Nat.zero_le _, fun x hx => (by cases hx), rfl⟩
  have e1' : fWithout_L1 N p0 p1 p3 N [] [] [] 0 = some (M, Q, O) := e1
  have hfl := List.length_filter_le (fun x => decide (resW p0 x < ((p0.length + 1 : Nat) : Int))) p3
  have hrl : (rowR p0).length = p0.length := by unfold rowR; rw [List.length_map, List.length_range]
  have hF : FF M (Q.zip O) = FF p0 (p1.zip (rowR p0)) := by
    rw [ff, List.take_of_length_le (by rw [List.length_zip]; omega)]; rfl
  have hn : p1.length = p0.length := by omega
  rw [e1', Option.bind_some]
  simp only
  rw [pSeqs_eq p0 p1 p2 (by omega) (by omega) hp1 h2, Option.bind_some, pSeqs_eq M Q p2 (by omega) (by omega) nn h2]
  have hR1 : seqsR p0 p1 p2 = (seqsS p0 p1 p2, 0) := by unfold seqsR; rw [if_neg (by omega), if_neg (by omega)]
  have hR2 : seqsR M Q p2 = (seqsS M Q p2, 0) := by unfold seqsR; rw [if_neg (by omega), if_neg (by omega)]
  have hlen := same_len l1 l2 hn hrl hF
  have hsc := same_sc (b := p2) l1 l2 hn hrl hF
  have hS2 : seqsS M Q p2 = (hd (scI p0 p1 p2) (plc p0).length).map fun h => ((walk (scI p0 p1 p2) (plc p0).length h).map (fun k => ((plP M k : Nat) : Int)), (mkS M Q p2 (plc M).length h).2) := by
    unfold seqsS
    rw [hsc, hlen]
    apply List.map_congr_left
    intro h _
    unfold mkS
    rw [hsc]
  have hS1 : seqsS p0 p1 p2 = (hd (scI p0 p1 p2) (plc p0).length).map fun h => ((walk (scI p0 p1 p2) (plc p0).length h).map (fun k => ((plP p0 k : Nat) : Int)), (mkS p0 p1 p2 (plc p0).length h).2) := rfl
  rw [hR1, hR2, hS1, hS2]
  have hhl := hd_le (scI p0 p1 p2) (plc p0).length
  have hpl := plc_le p0
  have hL3 := put_L3 (N := N) (O := O) (w := walk (scI p0 p1 p2) (plc p0).length) (H := hd (scI p0 p1 p2) (plc p0).length) (f := plP p0) (g := plP M) (y := fun h => (mkS p0 p1 p2 (plc p0).length h).2) (z := fun h => (mkS M Q p2 (plc M).length h).2) (by omega) (by omega)
    (fun h hh => by have := walk_le (sc := scI p0 p1 p2) sc_s h (hd_mem.1 hh).1; omega)
    (fun h hh => (same_mk l1 l2 hn hrl hF (by rw [hlen]; exact (hd_mem.1 hh).1)).symm)
    (fun h hh k hk => by
      have hk2 := (walk_in (sc := scI p0 p1 p2) sc_s h (hd_mem.1 hh).1 k hk).2
      have hk3 : k < (plc M).length := by omega
      have a := same_at l1 l2 hn hrl hF hk3
      have p := (P_at hk3).1
      have p' := (P_at hk2).1
      refine ⟨by omega, ?_⟩
      rw [a.2.2]
      unfold rowR
      rw [List.getD_eq_getElem?_getD, List.getElem?_map, List.getElem?_range p']
      rfl) N 0 (by omega) (Nat.zero_le _)
  have hL3' : fWithout_L3 N O ((hd (scI p0 p1 p2) (plc p0).length).map fun h => ((walk (scI p0 p1 p2) (plc p0).length h).map (fun k => ((plP p0 k : Nat) : Int)), (mkS p0 p1 p2 (plc p0).length h).2)) ((hd (scI p0 p1 p2) (plc p0).length).map fun h => ((walk (scI p0 p1 p2) (plc p0).length h).map (fun k => ((plP M k : Nat) : Int)), (mkS M Q p2 (plc M).length h).2)) N 0 = some (Ctl.go ()) := hL3
  simp only [Option.bind_some, ne_eq, not_true_eq_false, if_false, List.length_map, hL3']
  rw [kIso_eq N (by omega)]
  rfl
theorem fWithout_true (p0 p1 : List Int) (p2 : Int) (p3 : List Int) (hp1 : ∀ x ∈ p1, 0 ≤ x) (h2 : 0 ≤ p2) (h3 : ∀ x ∈ p3, 0 ≤ x) : ∃ N, fWithout N p0 p1 p2 p3 = some true := ⟨4000, fWithout_at p0 p1 p2 p3 hp1 h2 h3 4000 (by omega)⟩
end Go.Proofs.Ytjndolnjhbgflaa
