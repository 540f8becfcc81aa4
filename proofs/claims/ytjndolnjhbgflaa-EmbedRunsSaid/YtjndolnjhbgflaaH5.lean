/-
  The program's Sequences, by lists: they are the document's.
-/
import Derived.Test.YtjndolnjhbgflaaH4
import Derived.Test.YtjndolnjhbgflaaP2
namespace Go.Proofs.Ytjndolnjhbgflaa
open Go Go.RowKit
set_option linter.unusedVariables false
set_option linter.unusedSectionVars false
set_option linter.unusedSimpArgs false

theorem wf64 {x : Int} (h0 : 0 ≤ x) (h1 : x ≤ 1000000000) : (Lit.int .i64 x).wf = true := by
  simp [Lit.wf, IntKind.min, IntKind.max, IntKind.signed, IntKind.bits]
  omega
theorem pRem_eq (N : Nat) (c : Int) : pRem N c = some (isRem c) := by
  unfold pRem isRem
  by_cases h1 : c = 15
  · rw [if_pos h1, decide_eq_true (by omega)]
  rw [if_neg h1]
  by_cases h2 : c = 16
  · rw [if_pos h2, decide_eq_true (by omega)]
  rw [if_neg h2]
  by_cases h3 : c = 17
  · rw [if_pos h3, decide_eq_true (by omega)]
  rw [if_neg h3]
  by_cases h4 : c = 18
  · rw [if_pos h4, decide_eq_true (by omega)]
  rw [if_neg h4]
  by_cases h5 : c = 19
  · rw [if_pos h5, decide_eq_true (by omega)]
  rw [if_neg h5]
  by_cases h6 : c = 10
  · rw [if_pos h6, decide_eq_true (by omega)]
  · rw [if_neg h6, decide_eq_false (by omega)]

section
variable {N : Nat} {l n : List Int} {b : Int}

theorem pDirn_eq (hN : 3 < N) (a c : Int) (ha : 0 ≤ a) (hc : 0 ≤ c) : pDirn N [a, c] = some (sideS a c) := by
  obtain ⟨M, rfl⟩ : ∃ M, N = M + 3 := ⟨N - 3, by omega⟩
  unfold pDirn
  have h : pDirn_L1 (M + 3) [a, c] (M + 3) 0 0 = some (if a < c then c else a) := by
    unfold pDirn_L1
    rw [if_pos (by show (0 : Int) < 2; decide), show ix [a, c] 0 = some a from rfl, Option.bind_some, show IntKind.i64.wrap ((0 : Int) + 1) = 1 from rfl, show (if (0 : Int) < a then a else 0) = a by split <;> omega]
    unfold pDirn_L1
    rw [if_pos (by show (1 : Int) < 2; decide), show ix [a, c] 1 = some c from rfl, Option.bind_some, show IntKind.i64.wrap ((1 : Int) + 1) = 2 from rfl]
    unfold pDirn_L1
    rw [if_neg (by show ¬ (2 : Int) < 2; decide)]
  rw [h, Option.bind_some]
  unfold sideS
  generalize (if a < c then c else a) = m
  split <;> rfl

theorem pLev_at (m : List Int) (hn : n.length = l.length) (k : Nat) : pLev N l n b m (plI l) (k : Int) = some (lvN l n b k) := by
  unfold pLev lvN
  rw [if_neg (by omega)]
  by_cases h : k < (plc l).length
  · rw [if_neg (by rw [plI_len]; omega), if_pos h]
    simp only [Option.bind_some]
    rw [ix_pl h, Option.bind_some, ixe (by have := (P_at h).1; omega)]
    rfl
  · rw [if_pos (by rw [plI_len]; omega), if_neg h]
    rfl
theorem pLev_prev (m : List Int) (hn : n.length = l.length) (k : Nat) (hk : k ≤ 1000000000) : pLev N l n b m (plI l) (IntKind.i64.wrap ((k : Int) - 1)) = some (prevL l n b k) := by
  unfold prevL
  by_cases h : k = 0
  · subst h
    rw [w64e (by omega) (by omega), if_pos rfl]
    unfold pLev
    rw [if_pos (by omega)]
    rfl
  · rw [wme k hk (by omega), pLev_at m hn, if_neg h]

theorem pRun_loop (m : List Int) (hn : n.length = l.length) (hl : l.length ≤ 400000000) (f : Nat) : ∀ (k t : Nat), (plc l).length - t < k → f < t → t ≤ (plc l).length → (∀ j, f < j → j < t → lvN l n b j = lvN l n b f) →
    ∃ t' : Nat, pRunEnd_L1 N l n b m (plI l) (f : Int) k (t : Int) = some (t' : Int) ∧ f < t' ∧ t' ≤ (plc l).length ∧ (∀ j, f < j → j < t' → lvN l n b j = lvN l n b f) ∧ (t' < (plc l).length → lvN l n b t' ≠ lvN l n b f)
  | 0, _, h, _, _, _ => absurd h (Nat.not_lt_zero _)
  | k + 1, t, hk, hf, ht, hj => by
    have := plc_le l
    unfold pRunEnd_L1
    by_cases h : t < (plc l).length
    · rw [if_pos (by rw [plI_len]; omega), pLev_at m hn, Option.bind_some, pLev_at m hn, Option.bind_some]
      by_cases he : lvN l n b t = lvN l n b f
      · rw [if_pos he, wne t (by omega)]
        exact pRun_loop m hn hl f k (t + 1) (by omega) (by omega) (by omega) (fun j h1 h2 => by
          by_cases hjt : j = t
          · rw [hjt]; exact he
          · exact hj j h1 (by omega))
      · rw [if_neg he]
        exact ⟨t, rfl, hf, ht, hj, fun _ => he⟩
    · rw [if_neg (by rw [plI_len]; omega)]
      exact ⟨t, rfl, hf, ht, hj, fun h' => absurd h' h⟩

theorem pEos_at (hn : n.length = l.length) (hl : l.length ≤ 400000000) (hN : 3 < N) (hnn : ∀ x ∈ n, 0 ≤ x) (hb : 0 ≤ b) (t : Nat) (h0 : 0 < t) (ht : t ≤ (plc l).length) : pEos N l n b (matchS l) (plI l) (t : Int) = some (eosI l n b (t - 1)) := by
  have hpl := plc_le l
  have lv0 : ∀ k, 0 ≤ lvN l n b k := by
    intro k
    unfold lvN
    split
    · rename_i hk
      have := (P_at hk).1
      have hlt : plP l k < n.length := by omega
      rw [List.getD_eq_getElem?_getD, List.getElem?_eq_getElem hlt]
      exact hnn _ (List.getElem_mem hlt)
    · exact hb
  obtain ⟨k, rfl⟩ : ∃ k, t = k + 1 := ⟨t - 1, by omega⟩
  have hk : k < (plc l).length := by omega
  obtain ⟨p1, p2, p3⟩ := P_at hk
  unfold pEos eosI
  rw [wme (k + 1) (by omega) (by omega), show k + 1 - 1 = k by omega, ix_pl hk, Option.bind_some, pLev_at _ hn, Option.bind_some, ixe p1, Option.bind_some, pInit_eq, Option.bind_some]
  have hlv : n.getD (plP l k) 0 = lvN l n b k := by unfold lvN; rw [if_pos hk]
  have fin : ∀ v : Int, 0 ≤ v → ((ix n ((plP l k : Nat) : Int)).bind fun x37 => ((pDirn N [x37, v]).bind fun x43 => some x43)) = some (sideS (lvN l n b k) v) := by
    intro v hv
    rw [ixe (by omega), Option.bind_some, hlv, pDirn_eq hN _ _ (lv0 k) hv, Option.bind_some]
  cases hi : isInit (l.getD (plP l k) 0) with
  | false =>
    rw [if_neg (fun e => by cases e.1)]
    exact fin _ (lv0 _)
  | true =>
    simp only
    rw [ixe (by rw [matchS_len]; exact p1), Option.bind_some, match_init p1 hi]
    cases hc : cl l (plP l k) with
    | none =>
      show ((if (-1 : Int) < 0 then (some b : Option Int) else some (lvN l n b (k + 1))).bind _) = _
      rw [if_pos (show (-1 : Int) < 0 by decide)]
      have hr : sideS (lvN l n b k) (if (True ∧ (none : Option Nat) = none) then b else lvN l n b (k + 1)) = sideS (lvN l n b k) b := by rw [if_pos ⟨trivial, rfl⟩]
      refine Eq.trans (fin _ hb) ?_
      rw [← hr]
    | some v =>
      simp only
      rw [if_neg (by omega), if_neg (fun e => by cases e.2)]
      exact fin _ (lv0 _)

theorem rise_len (B : Nat) : ∀ (w : List Nat) (a : Nat), w.Pairwise (· < ·) → (∀ x ∈ w, a ≤ x ∧ x < B) → w.length ≤ B - a
  | [], _, _, _ => Nat.zero_le _
  | x :: w, a, hp, h => by
    obtain ⟨h1, h2⟩ := List.pairwise_cons.1 hp
    have h3 := h x (List.mem_cons_self ..)
    have := rise_len B w (x + 1) h2 (fun y hy => ⟨h1 y hy, (h y (List.mem_cons_of_mem _ hy)).2⟩)
    rw [List.length_cons]
    omega
theorem hd_nodup (sc : Nat → Option Nat) (B : Nat) : (hd sc B).Nodup := (List.nodup_range).filter _

theorem run_piece (f k : Nat) (h : f + k ≤ (plc l).length) : ((plI l).take (f + k)).drop f = (List.range' f k).map (fun x => ((plP l x : Nat) : Int)) := by
  apply List.ext_getElem?
  intro i
  rw [List.getElem?_drop, List.getElem?_take, List.getElem?_map]
  by_cases hi : i < k
  · rw [if_pos (by omega), List.getElem?_range' hi]
    have := plI_at (l := l) (k := f + i) (by omega)
    rw [List.getD_eq_getElem?_getD] at this
    have hlt : f + i < (plI l).length := by rw [plI_len]; omega
    rw [List.getElem?_eq_getElem hlt] at this ⊢
    simp only [Option.getD_some] at this
    rw [this]
    simp
  · rw [if_neg (by omega), List.getElem?_eq_none (by rw [List.length_range']; omega)]
    rfl

/-- what the map tells of PDIs to come -/
def InvM (l n : List Int) (b : Int) (f : Nat) (mp : List (Int × Int)) : Prop :=
  ∀ j, f ≤ j → j < (plc l).length → begB l n b j = true → match mget mp ((plP l j : Nat) : Int) with
    | some q => ∃ k : Nat, q = (k : Int) ∧ ∃ h, (hd (scI l n b) f)[k]? = some h ∧ scI l n b (lst (walk (scI l n b) f h)) = some j
    | none => ∀ h ∈ hd (scI l n b) f, scI l n b (lst (walk (scI l n b) f h)) ≠ some j

theorem pSeqs_loop (hn : n.length = l.length) (hl : l.length ≤ 65536) (hN : l.length + 3 < N) (hnn : ∀ x ∈ n, 0 ≤ x) (hb : 0 ≤ b) : ∀ (k f : Nat) (mp : List (Int × Int)), (plc l).length - f < k → f ≤ (plc l).length → mp.length ≤ f → (f < (plc l).length → begB l n b f = true) → InvM l n b f mp →
    pSeqsT_L1 N l n b (matchS l) (plI l) k (f : Int) mp ((hd (scI l n b) f).map (mkS l n b f)) = some (seqsS l n b)
  | 0, _, _, h, _, _, _, _ => absurd h (Nat.not_lt_zero _)
  | k + 1, f, mp, hk, hf, hmp, hbeg, hI => by
    have hpl := plc_le l
    unfold pSeqsT_L1
    by_cases h : f < (plc l).length
    · rw [if_pos (by rw [plI_len]; omega)]
      -- the run
      obtain ⟨t, r1, r2, r3, r4, r5⟩ := pRun_loop (N := N) (n := n) (b := b) (matchS l) hn (by omega) f N (f + 1) (by omega) (by omega) (by omega) (fun j h1 h2 => by omega)
      have r1' : pRunEnd N l n b (matchS l) (plI l) (f : Int) = some (t : Int) := by
        unfold pRunEnd
        rw [wne f (by omega), r1]; rfl
      obtain ⟨d, rfl⟩ : ∃ d, t = f + d + 1 := ⟨t - f - 1, by omega⟩
      have hrun : ∀ j, f < j → j < f + d + 1 → scI l n b (j - 1) = some j := by
        intro j h1 h2
        have h3 : lvN l n b (j - 1) = lvN l n b j := by
          rw [r4 j h1 h2]
          by_cases h4 : j - 1 = f
          · rw [h4]
          · exact r4 (j - 1) (by omega) (by omega)
        have := sc_on (l := l) (n := n) (b := b) (k := j - 1) (by omega) (by rw [show j - 1 + 1 = j by omega]; exact h3)
        rw [this]; congr 1; omega
      obtain ⟨s1, s2, s3⟩ := run_step (sc := scI l n b) sc_s sc_inj d hrun
      have hlast : f + d < (plc l).length := by omega
      obtain ⟨p1, p2, p3⟩ := P_at h
      obtain ⟨q1, q2, q3⟩ := P_at hlast
      rw [r1', Option.bind_some, ix_pl h, Option.bind_some, wme (f + d + 1) (by omega) (by omega), show f + d + 1 - 1 = f + d by omega, ix_pl hlast, Option.bind_some]
      have hwf : mlook .i64 mp ((plP l f : Nat) : Int) = some ((mget mp ((plP l f : Nat) : Int)).getD 0, (mget mp ((plP l f : Nat) : Int)).isSome) := by
        unfold mlook
        rw [if_pos (wf64 (by omega) (by omega))]
      rw [hwf, Option.bind_some]
      have hbf := hI f (Nat.le_refl _) h (hbeg h)
      -- the sequence that goes on, or is new
      have key : ∃ (q0 h0 : Nat) (pl0 : List Int) (e0 : Int) (l78 : List (List Int × Int × Int × Int)),
          ((match (mget mp ((plP l f : Nat) : Int)).isSome with
            | true => some ((mget mp ((plP l f : Nat) : Int)).getD 0, (hd (scI l n b) f).map (mkS l n b f))
            | false => ((ix n ((plP l f : Nat) : Int)).bind fun x88 => ((pLev N l n b (matchS l) (plI l) (f : Int)).bind fun x92 => ((pLev N l n b (matchS l) (plI l) (IntKind.i64.wrap ((f : Int) - 1))).bind fun x98 => ((pDirn N ([x92, x98])).bind fun x106 => ((apg ((hd (scI l n b) f).map (mkS l n b f)) ([([], x88, x106, 0)] : List (List Int × Int × Int × Int))).bind fun l113 => some (((((hd (scI l n b) f).map (mkS l n b f)).length : Nat) : Int), l113))))))) : Option (Int × List (List Int × Int × Int × Int))) = some ((q0 : Int), l78) ∧
          l78.length = (hd (scI l n b) (f + d + 1)).length ∧ (hd (scI l n b) (f + d + 1))[q0]? = some h0 ∧ l78[q0]? = some (pl0, lvN l n b h0, sideS (lvN l n b h0) (prevL l n b h0), e0) ∧
          pl0 ++ (List.range' f (d + 1)).map (fun x => ((plP l x : Nat) : Int)) = (walk (scI l n b) (f + d + 1) h0).map (fun x => ((plP l x : Nat) : Int)) ∧ lst (walk (scI l n b) (f + d + 1) h0) = f + d ∧ pl0.length ≤ 65536 ∧
          (∀ i, i ≠ q0 → l78[i]? = ((hd (scI l n b) (f + d + 1)).map (mkS l n b (f + d + 1)))[i]?) ∧
          (∀ h ∈ hd (scI l n b) (f + d + 1), h ≠ h0 → h ∈ hd (scI l n b) f ∧ walk (scI l n b) (f + d + 1) h = walk (scI l n b) f h) ∧
          (∀ h, (h ∈ hd (scI l n b) f → h = h0 → scI l n b (lst (walk (scI l n b) f h)) = some f)) := by
        have hlr : ∀ w : List Nat, lst (w ++ List.range' f (d + 1)) = f + d := by
          intro w
          rw [List.range'_concat, ← List.append_assoc, lst_app]; omega
        have hdl : (hd (scI l n b) f).length ≤ f := by
          unfold hd
          exact Nat.le_trans (List.length_filter_le ..) (by rw [List.length_range]; exact Nat.le_refl _)
        cases hm : mget mp ((plP l f : Nat) : Int) with
        | none =>
          rw [hm] at hbf
          have hbf : ∀ h ∈ hd (scI l n b) f, scI l n b (lst (walk (scI l n b) f h)) ≠ some f := hbf
          have hled : ledB (scI l n b) f = false := by
            cases hle : ledB (scI l n b) f with
            | false => rfl
            | true =>
              exfalso
              obtain ⟨i, i1, i2⟩ := led_iff.1 hle
              obtain ⟨h', hh', hw⟩ := cover (sc := scI l n b) sc_s i i1
              rcases last_or (sc := scI l n b) sc_s h' (hd_mem.1 hh').1 hw with e | ⟨j, j1, j2⟩
              · exact hbf h' hh' (by rw [← e]; exact i2)
              · rw [i2] at j1; injection j1 with j1; omega
          rw [hled, if_neg (by decide)] at s1
          have hsame : ∀ h' ∈ hd (scI l n b) f, walk (scI l n b) (f + d + 1) h' = walk (scI l n b) f h' := fun h' hh' => by rw [s2 h' hh', if_neg (hbf h' hh')]
          have lv0 : ∀ k, 0 ≤ lvN l n b k := by
            intro k
            unfold lvN
            split
            · rename_i hk'
              have := (P_at hk').1
              have hlt : plP l k < n.length := by omega
              rw [List.getD_eq_getElem?_getD, List.getElem?_eq_getElem hlt]
              exact hnn _ (List.getElem_mem hlt)
            · exact hb
          have pv0 : 0 ≤ prevL l n b f := by unfold prevL; split; exact hb; exact lv0 _
          have hlv : n.getD (plP l f) 0 = lvN l n b f := by unfold lvN; rw [if_pos h]
          refine ⟨(hd (scI l n b) f).length, f, [], 0, (hd (scI l n b) f).map (mkS l n b f) ++ [([], lvN l n b f, sideS (lvN l n b f) (prevL l n b f), 0)], ?_, ?_, ?_, ?_, ?_, ?_, Nat.zero_le _, ?_, ?_, ?_⟩
          · show ((ix n ((plP l f : Nat) : Int)).bind fun x88 => _) = _
            rw [ixe (by omega), Option.bind_some, pLev_at _ hn, Option.bind_some, pLev_prev _ hn f (by omega), Option.bind_some, pDirn_eq (by omega) _ _ (lv0 f) pv0, Option.bind_some, hlv, apge _ _ (by rw [List.length_map]; show _ + 1 ≤ _; omega), Option.bind_some, List.length_map]
          · rw [s1, List.length_append, List.length_append, List.length_map]
            rfl
          · rw [s1, List.getElem?_append_right (Nat.le_refl _), Nat.sub_self]; rfl
          · rw [List.getElem?_append_right (by rw [List.length_map]; exact Nat.le_refl _), List.length_map, Nat.sub_self]; rfl
          · rw [s3]; rfl
          · rw [s3]
            have := hlr []
            rwa [List.nil_append] at this
          · intro i hi
            rw [s1, List.map_append]
            by_cases h1 : i < (hd (scI l n b) f).length
            · rw [List.getElem?_append_left (by rw [List.length_map]; exact h1), List.getElem?_append_left (by rw [List.length_map]; exact h1), List.getElem?_map, List.getElem?_map, List.getElem?_eq_getElem h1]
              have := hsame _ (List.getElem_mem h1)
              show some (mkS l n b f _) = some (mkS l n b (f + d + 1) _)
              unfold mkS
              rw [this]
            · rw [List.getElem?_eq_none (by rw [List.length_append, List.length_map]; show _ + 1 ≤ _; omega), List.getElem?_eq_none (by rw [List.length_append, List.length_map]; show _ + 1 ≤ _; omega)]
          · intro h' hh' hne
            rw [s1] at hh'
            rcases List.mem_append.1 hh' with hh' | hh'
            · exact ⟨hh', hsame h' hh'⟩
            · exact absurd (List.mem_singleton.1 hh') hne
          · intro h' hh' e
            rw [e] at hh'
            have := (hd_mem.1 hh').1
            omega
        | some q =>
          rw [hm] at hbf
          obtain ⟨qn, rfl, h0, g1, g2⟩ : ∃ k : Nat, q = (k : Int) ∧ ∃ h, (hd (scI l n b) f)[k]? = some h ∧ scI l n b (lst (walk (scI l n b) f h)) = some f := hbf
          have hmem : h0 ∈ hd (scI l n b) f := List.mem_of_getElem? g1
          obtain ⟨hlt0, hnl0⟩ := hd_mem.1 hmem
          have hled : ledB (scI l n b) f = true := led_iff.2 ⟨_, (walk_in (sc := scI l n b) sc_s h0 hlt0 _ (lst_mem sc_s h0 hlt0)).2, g2⟩
          rw [hled, if_pos rfl, List.append_nil] at s1
          have hother : ∀ h' ∈ hd (scI l n b) f, h' ≠ h0 → walk (scI l n b) (f + d + 1) h' = walk (scI l n b) f h' := by
            intro h' hh' hne
            obtain ⟨a1, a2⟩ := hd_mem.1 hh'
            rw [s2 h' hh', if_neg]
            intro e
            have := sc_inj _ _ _ e g2
            exact hne (disj (sc := scI l n b) sc_s sc_inj a2 hnl0 a1 hlt0 (lst (walk (scI l n b) f h')) (lst_mem sc_s h' a1) (by rw [this]; exact lst_mem sc_s h0 hlt0))
          have hmine : walk (scI l n b) (f + d + 1) h0 = walk (scI l n b) f h0 ++ List.range' f (d + 1) := by rw [s2 h0 hmem, if_pos g2]
          have hwl : (walk (scI l n b) f h0).length ≤ 65536 := by
            -- a way has no place twice
            have hp : (walk (scI l n b) f h0).Pairwise (· < ·) := by
              have : ∀ k, k < f → (walk (scI l n b) f k).Pairwise (· < ·) := by
                refine back (sc := scI l n b) sc_s fun k hk ih => ?_
                cases hs : scI l n b k with
                | none => rw [walk_none sc_s hk (fun j h => by rw [hs] at h; cases h)]; exact List.pairwise_singleton _ _
                | some j =>
                  by_cases hjf : j < f
                  · rw [walk_some sc_s hjf hs]
                    refine List.pairwise_cons.2 ⟨fun x hx => ?_, ih j (sc_s _ _ hs) hjf⟩
                    have := (walk_in (sc := scI l n b) sc_s j hjf x hx).1
                    have := sc_s _ _ hs
                    omega
                  · rw [walk_none sc_s hk (fun j' h => by rw [hs] at h; injection h; omega)]; exact List.pairwise_singleton _ _
              exact this h0 hlt0
            have := rise_len f _ 0 hp (fun x hx => ⟨Nat.zero_le _, (walk_in (sc := scI l n b) sc_s h0 hlt0 x hx).2⟩)
            omega
          refine ⟨qn, h0, (walk (scI l n b) f h0).map (fun x => ((plP l x : Nat) : Int)), eosI l n b (lst (walk (scI l n b) f h0)), (hd (scI l n b) f).map (mkS l n b f), rfl, ?_, ?_, ?_, ?_, ?_, ?_, ?_, ?_, ?_⟩
          · rw [s1, List.length_map]
          · rw [s1]; exact g1
          · rw [List.getElem?_map, g1]; rfl
          · rw [hmine, List.map_append]
          · rw [hmine, hlr]
          · rw [List.length_map]; exact hwl
          · intro i hi
            rw [s1, List.getElem?_map, List.getElem?_map]
            cases hg : (hd (scI l n b) f)[i]? with
            | none => rfl
            | some h' =>
              have hne : h' ≠ h0 := by
                intro e
                subst e
                obtain ⟨l1, e1⟩ := List.getElem?_eq_some_iff.1 hg
                obtain ⟨l2, e2⟩ := List.getElem?_eq_some_iff.1 g1
                exact hi ((List.getElem_inj (hd_nodup (scI l n b) f)).1 (e1.trans e2.symm))
              show some (mkS l n b f h') = some (mkS l n b (f + d + 1) h')
              unfold mkS
              rw [hother h' (List.mem_of_getElem? hg) hne]
          · intro h' hh' hne
            rw [s1] at hh'
            exact ⟨hh', hother h' hh' hne⟩
          · intro h' _ e
            rw [e]; exact g2
      obtain ⟨q0, h0, pl0, e0, l78, k1, k2, k3, k4, k5, k6, k7, k8, k9, k10⟩ := key
      have hq0 : q0 < l78.length := (List.getElem?_eq_some_iff.1 k4).1
      -- what comes behind
      have cont : ((ixg l78 (q0 : Int)).bind fun x123 => ((cutx (plI l) (f : Int) ((f + d + 1 : Nat) : Int)).bind fun l130 => ((apx x123.1 l130).bind fun l136 => ((setg l78 (q0 : Int) (l136, x123.2.1, x123.2.2.1, x123.2.2.2)).bind fun l143 => ((pEos N l n b (matchS l) (plI l) ((f + d + 1 : Nat) : Int)).bind fun x152 => ((ixg l143 (q0 : Int)).bind fun x156 => ((setg l143 (q0 : Int) (x156.1, x156.2.1, x156.2.2.1, x152)).bind fun l163 => ((ix (matchS l) ((plP l (f + d) : Nat) : Int)).bind fun x170 => (if x170 > ((plP l (f + d) : Nat) : Int) then ((mput .i64 .i64 mp x170 (q0 : Int)).bind fun m175 => pSeqsT_L1 N l n b (matchS l) (plI l) k ((f + d + 1 : Nat) : Int) m175 l163) else pSeqsT_L1 N l n b (matchS l) (plI l) k ((f + d + 1 : Nat) : Int) mp l163))))))))) = some (seqsS l n b) := by
        rw [ixge, k4, Option.bind_some]
        have hcut : cutx (plI l) (f : Int) ((f + d + 1 : Nat) : Int) = some ((List.range' f (d + 1)).map (fun x => ((plP l x : Nat) : Int))) := by
          unfold cutx
          rw [if_pos ⟨by omega, by omega, by rw [plI_len]; omega⟩, Int.toNat_natCast, Int.toNat_natCast]
          rw [show f + d + 1 = f + (d + 1) by omega, run_piece f (d + 1) (by omega)]
        rw [hcut, Option.bind_some, apxe _ _ (by show pl0.length + _ ≤ 1000000000; rw [List.length_map, List.length_range']; omega), Option.bind_some, setge _ _ _ hq0, Option.bind_some, pEos_at hn (by omega) (by omega) hnn hb _ (by omega) r3, Option.bind_some, show f + d + 1 - 1 = f + d by omega,
          ixge, List.getElem?_set_self hq0, Option.bind_some, setge _ _ _ (by simpa using hq0), Option.bind_some, List.set_set]
        have hall : l78.set q0 (pl0 ++ (List.range' f (d + 1)).map (fun x => ((plP l x : Nat) : Int)), lvN l n b h0, sideS (lvN l n b h0) (prevL l n b h0), eosI l n b (f + d)) = (hd (scI l n b) (f + d + 1)).map (mkS l n b (f + d + 1)) := by
          apply List.ext_getElem?
          intro i
          by_cases hi : i = q0
          · rw [hi, List.getElem?_set_self hq0, List.getElem?_map, k3]
            show _ = some (mkS l n b (f + d + 1) h0)
            unfold mkS
            rw [k5, k6]
          · rw [List.getElem?_set_ne (fun e => hi e.symm)]
            exact k8 i hi
        rw [hall, ixe (by rw [matchS_len]; exact q1), Option.bind_some]
        have hoff : onB l n b (f + d) = false := by
          unfold onB
          refine decide_eq_false ?_
          rintro ⟨a1, a2⟩
          have h3 : lvN l n b (f + d) = lvN l n b f := by
            by_cases h4 : d = 0
            · rw [h4]; rfl
            · exact r4 (f + d) (by omega) (by omega)
          exact r5 (by omega) (by rw [← a2, h3])
        have hbt : f + d + 1 < (plc l).length → begB l n b (f + d + 1) = true := by
          intro ht
          unfold begB
          refine decide_eq_true (.inr ?_)
          have h3 : lvN l n b (f + d) = lvN l n b f := by
            by_cases h4 : d = 0
            · rw [h4]; rfl
            · exact r4 (f + d) (by omega) (by omega)
          rw [show f + d + 1 - 1 = f + d by omega, h3]
          exact r5 ht
        -- the map, unless it has turned
        have hold : ∀ j, f + d + 1 ≤ j → j < (plc l).length → begB l n b j = true → scI l n b (f + d) ≠ some j → match mget mp ((plP l j : Nat) : Int) with
            | some q => ∃ k : Nat, q = (k : Int) ∧ ∃ h, (hd (scI l n b) (f + d + 1))[k]? = some h ∧ scI l n b (lst (walk (scI l n b) (f + d + 1) h)) = some j
            | none => ∀ h ∈ hd (scI l n b) (f + d + 1), scI l n b (lst (walk (scI l n b) (f + d + 1) h)) ≠ some j := by
          intro j j1 j2 j3 j4
          have ho := hI j (by omega) j2 j3
          cases hm : mget mp ((plP l j : Nat) : Int) with
          | none =>
            rw [hm] at ho
            have ho : ∀ h ∈ hd (scI l n b) f, scI l n b (lst (walk (scI l n b) f h)) ≠ some j := ho
            intro h' hh'
            by_cases he : h' = h0
            · rw [he, k6]; exact j4
            · obtain ⟨b1, b2⟩ := k9 h' hh' he
              rw [b2]; exact ho h' b1
          | some q =>
            rw [hm] at ho
            obtain ⟨qn, e, h', g1, g2⟩ : ∃ k : Nat, q = (k : Int) ∧ ∃ h, (hd (scI l n b) f)[k]? = some h ∧ scI l n b (lst (walk (scI l n b) f h)) = some j := ho
            have hmem : h' ∈ hd (scI l n b) f := List.mem_of_getElem? g1
            have hne : h' ≠ h0 := by
              intro e
              have := k10 h' hmem e
              rw [g2] at this
              injection this with this
              omega
            have hpre : (hd (scI l n b) (f + d + 1))[qn]? = some h' := by
              rw [s1, List.getElem?_append_left (List.getElem?_eq_some_iff.1 g1).1]; exact g1
            exact ⟨qn, e, h', hpre, by rw [(k9 h' (List.mem_of_getElem? hpre) hne).2]; exact g2⟩
        by_cases hup : ∃ v, cl l (plP l (f + d)) = some v
        · obtain ⟨v, hv⟩ := hup
          obtain ⟨v1, v2, v3, v4⟩ := cl_at hv
          obtain ⟨c1, c2, c3⟩ := cl_cnt hlast hv
          have hmv : (matchS l).getD (plP l (f + d)) 0 = ((v : Nat) : Int) := by rw [match_init q1 v1, hv]
          have hql : q0 ≤ f + d + 1 := by
            have h1 : (hd (scI l n b) (f + d + 1)).length ≤ f + d + 1 := by
              unfold hd
              exact Nat.le_trans (List.length_filter_le ..) (by rw [List.length_range]; exact Nat.le_refl _)
            omega
          rw [hmv, if_pos (by omega)]
          unfold mput
          rw [if_pos ⟨wf64 (by omega) (by omega), wf64 (by omega) (by omega), by omega⟩, Option.bind_some]
          refine pSeqs_loop hn hl hN hnn hb k (f + d + 1) _ (by omega) r3 (by show mp.length + 1 ≤ _; omega) hbt (fun j j1 j2 j3 => ?_)
          by_cases hj : plP l j = v
          · have hjc : j = cnt l v := by
              have := (P_at j2).2.2
              rw [hj] at this
              exact this.symm
            have hg : mget ((((v : Nat) : Int), (q0 : Int)) :: mp) ((plP l j : Nat) : Int) = some (q0 : Int) := by
              rw [hj]; unfold mget; simp
            rw [hg]
            refine ⟨q0, rfl, h0, k3, ?_⟩
            rw [k6, sc_end hlast hoff, hv]
            simp only
            rw [← hjc, j3, if_pos rfl]
          · have hg : mget ((((v : Nat) : Int), (q0 : Int)) :: mp) ((plP l j : Nat) : Int) = mget mp ((plP l j : Nat) : Int) := by
              unfold mget
              rw [List.find?_cons_of_neg]
              intro e
              have e : ((v : Nat) : Int) = ((plP l j : Nat) : Int) := by simpa using e
              exact hj (by omega)
            rw [hg]
            refine hold j j1 j2 j3 (fun e => ?_)
            rcases (sc_two e).2 with ⟨_, e2⟩ | ⟨v', w1, w2, _⟩
            · rw [j3] at e2; cases e2
            · rw [hv] at w1
              injection w1 with w1
              rw [w2, ← w1] at hj
              exact hj c3
        · have hnc : cl l (plP l (f + d)) = none := by
            cases hc : cl l (plP l (f + d)) with
            | none => rfl
            | some v => exact absurd ⟨v, hc⟩ hup
          have hng : ¬ (matchS l).getD (plP l (f + d)) 0 > ((plP l (f + d) : Nat) : Int) := by
            cases hi : isInit (l.getD (plP l (f + d)) 0) with
            | true => rw [match_init q1 hi, hnc]; simp only; omega
            | false => have := match_other q1 hi; omega
          rw [if_neg hng]
          refine pSeqs_loop hn hl hN hnn hb k (f + d + 1) _ (by omega) r3 (by omega) hbt (fun j j1 j2 j3 => hold j j1 j2 j3 (fun e => ?_))
          rw [sc_end hlast hoff, hnc] at e
          cases e
      cases hm : mget mp ((plP l f : Nat) : Int) with
      | none =>
        rw [hm] at k1
        have k1 : ((ix n ((plP l f : Nat) : Int)).bind fun x88 => ((pLev N l n b (matchS l) (plI l) (f : Int)).bind fun x92 => ((pLev N l n b (matchS l) (plI l) (IntKind.i64.wrap ((f : Int) - 1))).bind fun x98 => ((pDirn N ([x92, x98])).bind fun x106 => ((apg ((hd (scI l n b) f).map (mkS l n b f)) ([([], x88, x106, 0)] : List (List Int × Int × Int × Int))).bind fun l113 => some (((((hd (scI l n b) f).map (mkS l n b f)).length : Nat) : Int), l113)))))) = some ((q0 : Int), l78) := k1
        show (Option.bind (((ix n ((plP l f : Nat) : Int)).bind fun x88 => ((pLev N l n b (matchS l) (plI l) (f : Int)).bind fun x92 => ((pLev N l n b (matchS l) (plI l) (IntKind.i64.wrap ((f : Int) - 1))).bind fun x98 => ((pDirn N ([x92, x98])).bind fun x106 => ((apg ((hd (scI l n b) f).map (mkS l n b f)) ([([], x88, x106, 0)] : List (List Int × Int × Int × Int))).bind fun l113 => some (((((hd (scI l n b) f).map (mkS l n b f)).length : Nat) : Int), l113)))))) : Option (Int × List (List Int × Int × Int × Int))) _) = _
        rw [k1]
        exact cont
      | some q =>
        rw [hm] at k1
        have k1 : some (q, (hd (scI l n b) f).map (mkS l n b f)) = some ((q0 : Int), l78) := k1
        injection k1 with k1
        injection k1 with e1 e2
        subst e1
        rw [← e2] at cont
        exact cont
    · rw [if_neg (by rw [plI_len]; omega)]
      have : f = (plc l).length := by omega
      subst this
      rfl

theorem pText_loop (hl : l.length ≤ 400000000) : ∀ (k i : Nat), l.length - i < k → i ≤ l.length → pTextOf_L1 N l k (plI (l.take i)) (i : Int) = some (plI l)
  | 0, _, h, _ => absurd h (Nat.not_lt_zero _)
  | k + 1, i, hk, hi => by
    unfold pTextOf_L1
    by_cases h : i < l.length
    · have hci : cnt l i ≤ i := by unfold cnt; exact Nat.le_trans (List.length_filter_le ..) (by rw [List.length_take]; omega)
      have hpl : plI (l.take (i + 1)) = plI (l.take i) ++ (if isRem (l.getD i 0) = true then [] else [(i : Int)]) := by
        unfold plI plc
        rw [take_succ_e l i h, plcF_app, plcF, plcF]
        have hlen : (l.take i).length = i := by rw [List.length_take]; omega
        rw [hlen, Nat.zero_add]
        split <;> simp [plcF]
      have ih := pText_loop hl k (i + 1) (by omega) (by omega)
      rw [if_pos (by omega), ixe h, Option.bind_some, pRem_eq, Option.bind_some, wne i (by omega)]
      rw [hpl] at ih
      cases hr : isRem (l.getD i 0) with
      | true =>
        rw [hr, if_pos rfl, List.append_nil] at ih
        exact ih
      | false =>
        rw [hr, if_neg (by decide)] at ih
        show ((apx (plI (l.take i)) [(i : Int)]).bind fun l57 => pTextOf_L1 N l k l57 _) = _
        rw [apxe _ _ (by rw [plI_len, cnt_all]; show cnt l i + 1 ≤ _; omega), Option.bind_some]
        exact ih
    · rw [if_neg (by omega)]
      have : i = l.length := by omega
      subst this
      rw [List.take_length]

/-- what Sequences tells -/
def seqsR (l n : List Int) (b : Int) : List (List Int × Int × Int × Int) × Int := if l.length > 65536 then ([], 3) else if l.length ≠ n.length then ([], 2) else (seqsS l n b, 0)

theorem pSeqs_eq (l n : List Int) (b : Int) (hl : l.length ≤ 400000000) (hN : l.length + 3 < N) (hnn : ∀ x ∈ n, 0 ≤ x) (hb : 0 ≤ b) : pSeqs N l n b = some (seqsR l n b) := by
  unfold pSeqs seqsR
  by_cases h1 : l.length > 65536
  · rw [if_pos (by omega), if_pos h1]
  rw [if_neg (by omega), if_neg h1]
  by_cases h2 : l.length ≠ n.length
  · rw [if_pos (by omega), if_pos h2]
  rw [if_neg (by omega), if_neg h2]
  have hn : n.length = l.length := by omega
  unfold pTextOf
  rw [pMatch_eq N l hl (by omega), Option.bind_some]
  have h3 := pText_loop (N := N) (l := l) hl N 0 (by omega) (Nat.zero_le _)
  have h3' : pTextOf_L1 N l N [] 0 = some (plI l) := h3
  rw [h3']
  simp only [Option.bind_some]
  unfold pSeqsT
  have h4 := pSeqs_loop (N := N) (n := n) (b := b) hn (by omega) hN hnn hb N 0 [] (by have := plc_le l; omega) (Nat.zero_le _) (Nat.le_refl _) (fun _ => by unfold begB; exact decide_eq_true (.inl rfl)) (fun j j1 j2 j3 => fun h hh => by
    have := (hd_mem.1 hh).1; omega)
  have h4' : pSeqsT_L1 N l n b (matchS l) (plI l) N 0 [] [] = some (seqsS l n b) := h4
  rw [h4']
  rfl
theorem rSeqs_S (l n : List Int) (b : Int) (hl : l.length ≤ 400000000) (hN : l.length + 2 < N) : rSeqs N l n b = some (seqsR l n b) := rSeqs_eq l n b hl hN
end
end Go.Proofs.Ytjndolnjhbgflaa
