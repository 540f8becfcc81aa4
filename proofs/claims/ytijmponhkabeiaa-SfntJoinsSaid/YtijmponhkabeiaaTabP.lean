/-
  sfnt.tablesOf: the walk.
-/
import Derived.Test.YtijmponhkabeiaaM6
import Derived.Test.YtijmponhkabeiaaM4
import Derived.Laws.Tables
namespace Go.Proofs.Ytijmponhkabeiaa
open Go Go.RowKit

theorem OwnT.base {B B' : Nat} {w : World} {v : Value} {ts : List TabL} (h : OwnT B w v ts) (hB : B' ≤ B) : OwnT B' w v ts := by
  have h1 : w.ownsRow B 41 6 v ts.length (ts.flatMap cellsT) := h
  refine ⟨h1.1, ?_⟩
  rcases h1.2 with h2 | ⟨g, cap, cur, e, hB2, rest⟩
  · exact .inl h2
  · exact .inr ⟨g, cap, cur, e, Nat.le_trans hB hB2, rest⟩

theorem below_setRow {B X : Nat} {w : World} {cs : Array Value} (h : B ≤ X) : Below B w (w.setRow X cs) :=
  ⟨rfl, rfl, rfl, by simp, fun k hk => setRow_other w X k _ (by omega)⟩

theorem wp_store_row' {P : Program} {o : Oper} {a : Act} {w w' : World} {K : Act → World → Prop} {Q : Exit → Act → World → Prop} (ty : TypeId) (x y : Operand) (ho : o.op = .store ty x y) (X : Nat) (v : Value) (hx : a.eval x = .pointer (some ⟨X, 0, none⟩)) (hy : a.eval y = v) (hst : (storeVar ty ⟨X, 0, none⟩ v).run P w = .ok () w') (hK : K (a.put o.dst undef) w') : o.wp P a w K Q := by
  unfold Oper.wp execOp
  simp only [ho, hx, hy, Instr.storeAt, Instr.sureAddr, Sem.run_bind, Sem.run_pure, Result.andThen_ok, hst]
  exact hK

theorem wpList_store_row {P : Program} {ops : Array Oper} {rest : List Oper} {o : Oper} {a : Act} {w w' : World} {Q : Exit → Act → World → Prop} (hgd : o.guard = none) (ty : TypeId) (x y : Operand) (ho : o.op = .store ty x y) (X : Nat) (v : Value) (hx : a.eval x = .pointer (some ⟨X, 0, none⟩)) (hy : a.eval y = v) (hst : (storeVar ty ⟨X, 0, none⟩ v).run P w = .ok () w') (h : wpList P ops Q rest (a.put o.dst undef) w') : wpList P ops Q (o :: rest) a w :=
  wpList_plain hgd fun _ hK => wp_store_row' ty x y ho X v hx hy hst (hK _ _ h)

theorem tabAt_four (l : List Int) (i : Nat) : (tabAt l i).1.length = 4 := rfl

def TRel (w2 : World) (l : List Int) (n k : Nat) (vl vi : Value) (wr : World) : Prop := ∃ (vr : Value) (i : Nat) (ts : List TabL), vr = vl ∧ i + k = n ∧ vi = .int .i64 (i : Int) ∧ OwnT w2.heap.size wr vr ts ∧ tabsL l n i = some ts ∧ Below w2.heap.size w2 wr

theorem putA_b (l : List Int) (s : ByteArray) : AllB (putA l s).2 := by
  unfold putA
  split
  · cases h : putR l (plan s) with
    | none => intro x hx; cases hx
    | some b => exact putR_b l _ b h
  · intro x hx; cases hx

set_option maxHeartbeats 20000000 in
set_option maxRecDepth 20000 in
theorem tablesOf_any (w : World) (v : Value) (l : List Int) (hv : NumZ .u8 w v l) (hnn : ∀ n c, v = .slice none n c → n = 0 ∧ c = 0) (hA : AllB l) (hl : l.length ≤ 1000000) :
    Calls Try.prog 24 #[v] w fun e w' => Below w.heap.size w w' ∧ ((∃ ts r, tablesS l = (ts, 0) ∧ e = .returned r ∧ OwnT w.heap.size w' r ts) ∨ (tablesS l = ([], 50) ∧ e = gone 50)) := by
  have HO := Lib.hid (open_own w v l hv hnn (by omega))
  have HOK := Lib.hid (fun wx => reqFont_ok wx)
  have HNO := Lib.hid (fun wx => reqFont_bad wx)
  have HV := Lib.hid hv
  have HNN := Lib.hid hnn
  have HA := Lib.hid hA
  have HL := Lib.hid hl
  obtain ⟨A, c, rfl, hc1, hc2, hcell⟩ := hv
  have hnb := numAt_b hA 4 2
  obtain ⟨nn, hnn1⟩ : ∃ nn, nn = numAt l 4 2 := ⟨_, rfl⟩
  obtain ⟨n, hn⟩ : ∃ n, n = nn.toNat := ⟨_, rfl⟩
  rw [← hnn1] at hnb
  have hnn2 : nn = (n : Int) := by omega
  have HWD : Hid (∀ wx r, RdO w.heap.size wx r l → Calls Try.prog 47 #[r, .int .i64 4] wx fun e w' => e = .returned (.int .u16 (n : Int)) ∧ (∀ w0, Below w.heap.size w0 wx → Below w.heap.size w0 w') ∧ (4 + 1 < l.length → Below wx.heap.size wx w')) := Lib.hid (fun wx r hr => by
    have h := rdW_own w.heap.size wx r l hr HA.out (by omega) 4
    have e : numAt l ((4 : Nat) : Int) 2 = (n : Int) := by show numAt l 4 2 = (n : Int); rw [← hnn1, hnn2]
    rw [e] at h
    exact h)
  have HBF : Hid (badFont l = (decide (l.length < 12) || (decide ((n : Int) < 1) || (decide (64 < (n : Int)) || (decide (l.take 12 ≠ headL n) || decide ((l.length : Int) < 12 + 16 * (n : Int))))))) := Lib.hid (by
    unfold badFont
    rw [← hnn1, hnn2, decide_eq_false (show ¬ 16777216 < l.length by omega)]
    simp)
  have HTS : Hid ((badFont l = true → tablesS l = ([], 50)) ∧ (badFont l = false → tabsL l n n = none → tablesS l = ([], 50)) ∧ (badFont l = false → ∀ ts, tabsL l n n = some ts → tablesS l = (ts, 0))) := Lib.hid (by
    unfold tablesS
    rw [← hnn1, ← hn]
    refine ⟨fun h => by rw [if_pos h], fun h h2 => by rw [if_neg (by rw [h]; decide), h2], fun h ts h2 => by rw [if_neg (by rw [h]; decide), h2]⟩)
  obtain ⟨q, hq⟩ : ∃ q, q = tablesS l := ⟨_, rfl⟩
  rw [← hq] at HTS ⊢
  obtain ⟨N, hN⟩ : ∃ N, N = l.length := ⟨_, rfl⟩
  have HN := Lib.hid hN
  rw [← hN] at HV HO hc1 HBF ⊢
  have b0 : ((N : Int) ≤ 16777216) = True := eq_true (by omega)
  have q0 : IntKind.i64.wrap (n : Int) = (n : Int) := by rw [IntKind.wrap_i64]; omega
  have HC := Lib.hid hc1
  clear hnn hA hl hc1 hc2 hnb hnn1 hn hnn2 hq hN hcell
  go_enter Try.func24, Try.ntmps24
  go_wp2_with fail
  refine (HOK.out _).mono ?_
  rintro e w0 ⟨rfl, rfl⟩
  go_wp2_with fail
  refine (HO.out).mono ?_
  rintro e w1 ⟨hb1, r, rfl, hr1⟩
  have HR1 := Lib.hid hr1
  have HB1 := Lib.hid hb1
  clear hr1 hb1
  go_wp2_with fail
  refine (HWD.out _ _ HR1.out).mono ?_
  rintro e w2 ⟨rfl, hk2, hs2⟩
  have HB2 := Lib.hid (hk2 _ HB1.out)
  have HS2 := Lib.hid hs2
  clear hk2 hs2
  have HCT : Hid (∀ wx, Calls Try.prog 48 #[.int .i64 (n : Int)] wx fun e w' => e = .returned (.bool (decide (1 ≤ (n : Int)) && decide ((n : Int) ≤ 64))) ∧ wx = w') := Lib.hid (fun wx => countable_any wx n)
  by_cases h1 : 1 ≤ n ∧ n ≤ 64
  · have e1 : (decide (1 ≤ (n : Int)) && decide ((n : Int) ≤ 64)) = true := by
      rw [Bool.and_eq_true, decide_eq_true_eq, decide_eq_true_eq]; omega
    rw [e1] at HCT
    have HBG : Hid (∀ wx, Calls Try.prog 49 #[.int .i64 (n : Int)] wx fun e w' => e = .returned (.int .i64 ((12 + 16 * n : Nat) : Int)) ∧ wx = w') := Lib.hid (fun wx => begin_any wx n (by omega))
    have HOP : Hid (∀ wx, Calls Try.prog 51 #[.int .i64 (n : Int)] wx fun e w' => Below wx.heap.size wx w' ∧ ∃ r B, e = .returned r ∧ wx.heap.size ≤ B ∧ OwnB B w' r (headL n)) := Lib.hid (fun wx => opening_any wx n h1.1 h1.2)
    obtain ⟨bg, hbg⟩ : ∃ bg, bg = 12 + 16 * n := ⟨_, rfl⟩
    rw [← hbg] at HBG
    have HBGE := Lib.hid hbg
    have HNL := Lib.hid h1
    by_cases h2 : bg ≤ N
    · have b1 : ((bg : Int) ≤ (N : Int)) = True := eq_true (by omega)
      obtain ⟨H12, hH12⟩ : ∃ V, V = cutV A 0 12 c := ⟨_, rfl⟩
      have hsl : ∀ W, (Instr.slice 22 (.slice A N c) none (some (.int .i64 12)) none).run Try.prog W = .ok H12 W := fun W => by rw [hH12]; exact run_cut_h W A N c 12 (by have := HC.out; omega)
      have HEQ : Hid (∀ wx ro, Below w2.heap.size w2 wx → NumZ .u8 wx ro (headL n) → Calls Try.prog 50 #[H12, ro] wx fun e w' => e = .returned (.bool (decide (l.take 12 = headL n))) ∧ wx = w') := Lib.hid (fun wx ro hb hro => by
        have h := cut_num (HV.out.below (HB2.out.trans (hb.mono HB2.out.size))) 0 12 (by omega) (by have := HN.out; omega)
        rw [← hH12] at h
        simp only [List.drop_zero, Nat.sub_zero] at h
        exact equal_any wx _ _ _ _ h hro (fun x hx => HA.out x (List.mem_of_mem_take hx)) (putA_b _ _))
      clear hH12
      by_cases h3 : l.take 12 = headL n
      · rw [decide_eq_true h3] at HEQ
        have HBF2 : Hid (badFont l = false) := Lib.hid (by rw [HBF.out]; simp [h3]; omega)
        have HBN := Lib.hid h2
        clear h1 h2 h3 e1 hbg
        go_upto_region 4 with fail
        refine wp_region_held_drew (S := fun w' => Below w2.heap.size w2 w') (by kernel_rfl) ((Below.refl _ w2).drew) (fun hH0 => ?_)
        change wpAnyH _ _ _ _ _ 17 #[false, false, false, false, false, false, false, false, false, false, false, false, false, false, false, false, false] _ _
        refine wpAnyH_take (i := 0) (oi := { dst := some 20, op := _, type := _, pos := _, after := _, guard := _ }) (v := ?_) rfl (by kernel_rfl) (by kernel_rfl) (by kernel_rfl) (fun _ _ _ h => h) (Or.inl ⟨by kernel_rfl, ?_⟩) hH0 ?_
        rotate_left
        · (intro w hSw; (try dsimp only at hSw); go_simp; first | done | with_reducible rfl)
        try simp only [Act.put, List.setIfInBounds_toArray, List.set_cons_zero, List.set_cons_succ]
        refine wpAnyH_ready (rs := [1]) (by kernel_rfl) (by simp) ?_
        refine AllReadyH.cons (o := { dst := some 21, op := _, type := _, pos := _, after := _, guard := _ }) rfl (fun K hK => ?_) ?_
        · rw [if_pos (by kernel_rfl)]
          go_simp
          refine (HCT.out _).mono ?_
          rintro e wx ⟨rfl, rfl⟩
          refine hK.out _ _ (by assumption) (fun hH1 => ?_)
          clear hK K
          try simp only [List.setIfInBounds_toArray, List.set_cons_zero, List.set_cons_succ]
          refine wpAnyH_take (i := 2) (oi := { dst := some 22, op := _, type := _, pos := _, after := _, guard := _ }) (v := ?_) rfl (by kernel_rfl) (by kernel_rfl) (by kernel_rfl) (fun _ _ _ h => h) (Or.inl ⟨by kernel_rfl, ?_⟩) hH1 ?_
          rotate_left
          · (intro w hSw; (try dsimp only at hSw); go_simp; first | done | with_reducible rfl)
          try simp only [Act.put, List.setIfInBounds_toArray, List.set_cons_zero, List.set_cons_succ]
          refine wpAnyH_take (i := 3) (oi := { dst := some 23, op := _, type := _, pos := _, after := _, guard := _ }) (v := ?_) rfl (by kernel_rfl) (by kernel_rfl) (by kernel_rfl) (fun _ _ _ h => h) (Or.inl ⟨by kernel_rfl, ?_⟩) hH1 ?_
          rotate_left
          · (intro w hSw; (try dsimp only at hSw); go_simp; first | done | with_reducible rfl)
          try simp only [Act.put, List.setIfInBounds_toArray, List.set_cons_zero, List.set_cons_succ]
          refine wpAnyH_take (i := 4) (oi := { dst := some 24, op := _, type := _, pos := _, after := _, guard := _ }) (v := ?_) rfl (by kernel_rfl) (by kernel_rfl) (by kernel_rfl) (fun _ _ _ h => h) (Or.inl ⟨by kernel_rfl, ?_⟩) hH1 ?_
          rotate_left
          · (intro w hSw; (try dsimp only at hSw); go_simp; first | done | with_reducible rfl)
          try simp only [Act.put, List.setIfInBounds_toArray, List.set_cons_zero, List.set_cons_succ]
          refine wpAnyH_take (i := 5) (oi := { dst := some 25, op := _, type := _, pos := _, after := _, guard := _ }) (v := ?_) rfl (by kernel_rfl) (by kernel_rfl) (by kernel_rfl) (fun _ _ _ h => h) (Or.inl ⟨by kernel_rfl, ?_⟩) hH1 ?_
          rotate_left
          · (intro w hSw; (try dsimp only at hSw); go_simp; first | done | with_reducible rfl)
          try simp only [Act.put, List.setIfInBounds_toArray, List.set_cons_zero, List.set_cons_succ]
          refine wpAnyH_ready (rs := [6]) (by kernel_rfl) (by simp) ?_
          refine AllReadyH.cons (o := { dst := some 26, op := _, type := _, pos := _, after := _, guard := _ }) rfl (fun K hK => ?_) ?_
          · rw [if_pos (by kernel_rfl)]
            go_simp
            refine (HBG.out _).mono ?_
            rintro e wx ⟨rfl, rfl⟩
            refine hK.out _ _ (by assumption) (fun hH2 => ?_)
            clear hK K
            try simp only [List.setIfInBounds_toArray, List.set_cons_zero, List.set_cons_succ]
            refine wpAnyH_take (i := 7) (oi := { dst := some 27, op := _, type := _, pos := _, after := _, guard := _ }) (v := ?_) rfl (by kernel_rfl) (by kernel_rfl) (by kernel_rfl) (fun _ _ _ h => h) (Or.inl ⟨by kernel_rfl, ?_⟩) hH2 ?_
            rotate_left
            · (intro w hSw; (try dsimp only at hSw); go_simp; first | done | with_reducible rfl)
            try simp only [Act.put, List.setIfInBounds_toArray, List.set_cons_zero, List.set_cons_succ]
            refine wpAnyH_take (i := 8) (oi := { dst := some 28, op := _, type := _, pos := _, after := _, guard := _ }) (v := ?_) rfl (by kernel_rfl) (by kernel_rfl) (by kernel_rfl) (fun _ _ _ h => h) (Or.inl ⟨by kernel_rfl, ?_⟩) hH2 ?_
            rotate_left
            · (intro w hSw; (try dsimp only at hSw); go_simp; first | done | with_reducible rfl)
            try simp only [Act.put, List.setIfInBounds_toArray, List.set_cons_zero, List.set_cons_succ]
            refine wpAnyH_take (i := 9) (oi := { dst := some 29, op := _, type := _, pos := _, after := _, guard := _ }) (v := ?_) rfl (by kernel_rfl) (by kernel_rfl) (by kernel_rfl) (fun _ _ _ h => h) (Or.inl ⟨by kernel_rfl, ?_⟩) hH2 ?_
            rotate_left
            · (intro w hSw; (try dsimp only at hSw); go_simp; first | done | with_reducible rfl)
            try simp only [Act.put, List.setIfInBounds_toArray, List.set_cons_zero, List.set_cons_succ]
            refine wpAnyH_take (i := 10) (oi := { dst := some 30, op := _, type := _, pos := _, after := _, guard := _ }) (v := ?_) rfl (by kernel_rfl) (by kernel_rfl) (by kernel_rfl) (fun _ _ _ h => h) (Or.inl ⟨by kernel_rfl, ?_⟩) hH2 ?_
            rotate_left
            · (intro w hSw; (try dsimp only at hSw); go_simp; first | done | with_reducible rfl)
            try simp only [Act.put, List.setIfInBounds_toArray, List.set_cons_zero, List.set_cons_succ]
            refine wpAnyH_take (i := 11) (oi := { dst := some 31, op := _, type := _, pos := _, after := _, guard := _ }) (v := ?_) rfl (by kernel_rfl) (by kernel_rfl) (by kernel_rfl) (fun _ _ _ h => h) (Or.inl ⟨by kernel_rfl, ?_⟩) hH2 ?_
            rotate_left
            · (intro w hSw; (try dsimp only at hSw); go_simp; first | done | with_reducible rfl)
            try simp only [Act.put, List.setIfInBounds_toArray, List.set_cons_zero, List.set_cons_succ]
            refine wpAnyH_take (i := 12) (oi := { dst := some 32, op := _, type := _, pos := _, after := _, guard := _ }) (v := ?_) rfl (by kernel_rfl) (by kernel_rfl) (by kernel_rfl) (fun _ _ _ h => h) (Or.inl ⟨by kernel_rfl, ?_⟩) hH2 ?_
            rotate_left
            · (intro w hSw; (try dsimp only at hSw); go_simp; first | done | with_reducible rfl)
            try simp only [Act.put, List.setIfInBounds_toArray, List.set_cons_zero, List.set_cons_succ]
            refine wpAnyH_ready (rs := [13]) (by kernel_rfl) (by simp) ?_
            refine AllReadyH.cons (o := { dst := some 33, op := _, type := _, pos := _, after := _, guard := _ }) rfl (fun K hK => ?_) ?_
            · rw [if_pos (by kernel_rfl)]
              go_simp
              refine (HOP.out _).mono ?_
              rintro e wx ⟨hbx, ro, Bo, rfl, hBo, how⟩
              have hbx2 := hbx
              refine hK.out _ _ (by first | assumption | exact Below.trans (by assumption) (hbx.mono (Below.size (by assumption)))) (fun hH3 => ?_)
              clear hK K
              try simp only [List.setIfInBounds_toArray, List.set_cons_zero, List.set_cons_succ]
              refine wpAnyH_ready (rs := [14]) (by kernel_rfl) (by simp) ?_
              refine AllReadyH.cons (o := { dst := some 34, op := _, type := _, pos := _, after := _, guard := _ }) rfl (fun K hK => ?_) ?_
              · rw [if_pos (by kernel_rfl)]
                go_simp
                refine (HEQ.out _ _ (by assumption) how.read).mono ?_
                rintro e wx ⟨rfl, rfl⟩
                refine hK.out _ _ (by assumption) (fun hH4 => ?_)
                clear hK K
                try simp only [List.setIfInBounds_toArray, List.set_cons_zero, List.set_cons_succ]
                refine wpAnyH_take (i := 15) (oi := { dst := some 35, op := _, type := _, pos := _, after := _, guard := _ }) (v := ?_) rfl (by kernel_rfl) (by kernel_rfl) (by kernel_rfl) (fun _ _ _ h => h) (Or.inl ⟨by kernel_rfl, ?_⟩) hH4 ?_
                rotate_left
                · (intro w hSw; (try dsimp only at hSw); go_simp; first | done | with_reducible rfl)
                try simp only [Act.put, List.setIfInBounds_toArray, List.set_cons_zero, List.set_cons_succ]
                refine wpAnyH_ready (rs := [16]) (by kernel_rfl) (by simp) ?_
                refine AllReadyH.cons (o := { dst := some 36, op := _, type := _, pos := _, after := _, guard := _ }) rfl (fun K hK => ?_) ?_
                · rw [if_pos (by kernel_rfl)]
                  go_simp
                  refine (HOK.out _).mono ?_
                  rintro e wx ⟨rfl, rfl⟩
                  refine hK.out _ _ (by assumption) (fun hH5 => ?_)
                  clear hK K
                  try simp only [List.setIfInBounds_toArray, List.set_cons_zero, List.set_cons_succ]
                  refine wpAnyH_done (by kernel_rfl) ?_ _
                  have HB4 := Lib.hid hH5
                  clear hH5
                  obtain ⟨g, off, rfl, hg, hcell⟩ := HV.out.cells (by intro h; have := HN.out; rw [h] at this; simp at this; have := HBGE.out; have := HBN.out; omega)
                  have HG := Lib.hid hg
                  have HCELL := Lib.hid hcell
                  clear hg hcell hsl
                  have HR2 : Hid (RdZ w2 r l) := Lib.hid (HR1.out.z.below (HS2.out (by have := HN.out; have := HBGE.out; have := HBN.out; omega)))
                  have HB2s := Lib.hid HB2.out.size
                  go_wp2_with fail
                  go_loopg [5, 38] n (fun k vl vi wr => TRel w2 l n k vl vi wr)
                  case atStart => exact ⟨_, 0, [], rfl, by omega, rfl, OwnT.nil _ _, rfl, HB4.out⟩
                  case round =>
                    rename World => wo
                    obtain ⟨kk, hkk⟩ : ∃ kk, kk = gk := ⟨_, rfl⟩
                    have HKK := Lib.hid hkk
                    clear hkk
                    obtain ⟨vr, i, ts, rfl, hik, rfl, how, htab, hb⟩ := hrel
                    have HOW := Lib.hid how
                    have HTAB := Lib.hid htab
                    have HB := Lib.hid hb
                    have HIK := Lib.hid hik
                    have hlen : ts.length = i := by rw [tabsL_len l n i ts htab]; simp
                    have h4 : ∀ t ∈ ts, t.1.length = 4 := by
                      rw [tabsL_len l n i ts htab]
                      intro t ht
                      obtain ⟨j, _, rfl⟩ := List.mem_map.1 ht
                      rfl
                    have HLEN := Lib.hid hlen
                    have H4 := Lib.hid h4
                    have HBW := Lib.hid (HB2.out.trans (hb.mono HB2.out.size))
                    clear how htab hik h4
                    by_cases hi : i = n
                    · have bi : ((i : Int) < (n : Int)) = False := eq_false (by omega)
                      have HRES : Hid (q = (ts, 0)) := Lib.hid (HTS.out.2.2 HBF2.out ts (by have := HTAB.out; rw [hi] at this; exact this))
                      clear hi hlen hb
                      go_wp2_with fail
                      go_ret
                      exact ⟨HBW.out, .inl ⟨ts, vr, HRES.out, rfl, HOW.out.base HB2s.out⟩⟩
                    · have bi : ((i : Int) < (n : Int)) = True := eq_true (by have := HIK.out; omega)
                      have hin : i < n := by have := HIK.out; omega
                      obtain ⟨AT, cT, hvr⟩ := (ownT_cases HOW.out).1
                      rw [hlen] at hvr
                      subst hvr
                      obtain ⟨i16, hi16⟩ : ∃ x, x = i * 16 := ⟨_, rfl⟩
                      obtain ⟨at_, hat⟩ : ∃ x, x = 12 + i16 := ⟨_, rfl⟩
                      obtain ⟨at4, hat4⟩ : ∃ x, x = at_ + 4 := ⟨_, rfl⟩
                      obtain ⟨at8, hat8⟩ : ∃ x, x = at_ + 8 := ⟨_, rfl⟩
                      obtain ⟨atc, hatc⟩ : ∃ x, x = at_ + 12 := ⟨_, rfl⟩
                      have hN16 : at_ + 16 ≤ N := by have := HBGE.out; have := HBN.out; omega
                      have hN6 : N ≤ 1000000 := by have := HN.out; have := HL.out; omega
                      have q1 : IntKind.i64.wrap ((i : Int) * 16) = (i16 : Int) := by rw [IntKind.wrap_i64]; omega
                      have q2 : IntKind.i64.wrap (12 + (i16 : Int)) = (at_ : Int) := by rw [IntKind.wrap_i64]; omega
                      have q3 : IntKind.i64.wrap ((at_ : Int) + 4) = (at4 : Int) := by rw [IntKind.wrap_i64]; omega
                      have q4 : IntKind.i64.wrap ((at_ : Int) + 8) = (at8 : Int) := by rw [IntKind.wrap_i64]; omega
                      have q5 : IntKind.i64.wrap ((at_ : Int) + 12) = (atc : Int) := by rw [IntKind.wrap_i64]; omega
                      have q6 : IntKind.i64.wrap ((i : Int) + 1) = ((i + 1 : Nat) : Int) := by rw [IntKind.wrap_i64]; omega
                      obtain ⟨oa, hoa⟩ : ∃ x, x = off + at_ := ⟨_, rfl⟩
                      have hNl := HN.out
                      have hx : ∀ j, j < 16 → wo.cell? ⟨g, oa + j, none⟩ = some (.int .u8 (l.getD (at_ + j) 0)) := fun j hj => by
                        have h := HCELL.out (at_ + j) (by omega)
                        rw [show oa + j = off + (at_ + j) by omega, HBW.out.cell (by exact HG.out), h]
                        rw [List.getD_eq_getElem?_getD, List.getElem?_eq_getElem (by omega)]; rfl
                      obtain ⟨x0, hx0⟩ : ∃ x, x = l.getD at_ 0 := ⟨_, rfl⟩
                      obtain ⟨x1, hx1⟩ : ∃ x, x = l.getD (at_ + 1) 0 := ⟨_, rfl⟩
                      obtain ⟨x2, hx2⟩ : ∃ x, x = l.getD (at_ + 2) 0 := ⟨_, rfl⟩
                      obtain ⟨x3, hx3⟩ : ∃ x, x = l.getD (at_ + 3) 0 := ⟨_, rfl⟩
                      have c0 := hx 0 (by omega)
                      have c1 := hx 1 (by omega)
                      have c2 := hx 2 (by omega)
                      have c3 := hx 3 (by omega)
                      rw [Nat.add_zero, Nat.add_zero, ← hx0] at c0
                      rw [← hx1] at c1
                      rw [← hx2] at c2
                      rw [← hx3] at c3
                      have hpb := numAt_b HA.out (at8 : Int) 4
                      have hmb := numAt_b HA.out (atc : Int) 4
                      obtain ⟨p, hp⟩ : ∃ x : Nat, (x : Int) = numAt l (at8 : Int) 4 := ⟨(numAt l (at8 : Int) 4).toNat, by omega⟩
                      obtain ⟨m, hm⟩ : ∃ x : Nat, (x : Int) = numAt l (atc : Int) 4 := ⟨(numAt l (atc : Int) 4).toNat, by omega⟩
                      rw [← hp] at hpb
                      rw [← hm] at hmb
                      have HTA : Hid (tabAt l i = ([x0, x1, x2, x3], (p : Int), (m : Int))) := Lib.hid (by
                        unfold tabAt
                        rw [hx0, hx1, hx2, hx3, hp, hm, hat8, hatc, hat, hi16, Nat.mul_comm i 16])
                      have qp : IntKind.i64.wrap (p : Int) = (p : Int) := by rw [IntKind.wrap_i64]; omega
                      have qm : IntKind.i64.wrap (m : Int) = (m : Int) := by rw [IntKind.wrap_i64]; omega
                      have HLp : Hid (∀ wx, Below wo.heap.size wo wx → Calls Try.prog 52 #[r, .int .i64 (at8 : Int)] wx fun e w' => e = .returned (.int .u32 (p : Int)) ∧ Below wx.heap.size wx w') := Lib.hid (fun wx hx => by
                        rw [hp]
                        exact rdL wx r l (HR2.out.below (HB.out.trans (hx.mono HB.out.size))) HA.out (by omega) at8 (by omega))
                      have HLm : Hid (∀ wx, Below wo.heap.size wo wx → Calls Try.prog 52 #[r, .int .i64 (atc : Int)] wx fun e w' => e = .returned (.int .u32 (m : Int)) ∧ Below wx.heap.size wx w') := Lib.hid (fun wx hx => by
                        rw [hm]
                        exact rdL wx r l (HR2.out.below (HB.out.trans (hx.mono HB.out.size))) HA.out (by omega) atc (by omega))
                      have hgl : g < wo.heap.size := Nat.lt_of_lt_of_le HG.out HBW.out.size
                      have HGL := Lib.hid hgl
                      have hsl : ∀ W, (Instr.slice 22 (.slice (some ⟨g, off, none⟩) N c) (some (.int .i64 (at_ : Int))) (some (.int .i64 (at4 : Int))) none).run Try.prog W = .ok (.slice (some ⟨g, oa, none⟩) 4 (c - at_)) W := fun W => by
                        rw [run_cut_lh W _ N c at_ at4 (by omega) (by have := HC.out; omega)]
                        unfold cutV
                        rw [if_neg (by have := HC.out; omega), hat4, hoa]
                        simp [Addr.add]; omega
                      have har : ∀ W, (Instr.arrayAt 39 (.slice (some ⟨g, oa, none⟩) 4 (c - at_))).run Try.prog W = .ok (.pointer (some ⟨g, oa, none⟩)) W := fun W => by simp [Instr.arrayAt]
                      have HFX := Lib.hid (And.intro hat (And.intro hi16 (And.intro hN16 (And.intro hpb hmb))))
                      have HIN := Lib.hid hin
                      have HHI := Lib.hid hi
                      have HAT4 := Lib.hid hat4
                      clear hi hin hi16 hat hat4 hat8 hatc hN16 hN6 hoa hNl hx hx0 hx1 hx2 hx3 hp hm hpb hmb hgl hlen hb
                      go_upto_region 10 with fail
                      go_cut [8] from 39 to 131 (fun s8 wx => ∃ X, s8 = .pointer (some ⟨X, 0, none⟩) ∧ wo.heap.size ≤ X ∧ X < wx.heap.size ∧ wx.heap[X]? = some (.cells #[.int .u8 x0, .int .u8 x1, .int .u8 x2, .int .u8 x3, .int .i64 (p : Int), .int .i64 (m : Int)] 41 (0, 0)) ∧ Below wo.heap.size wo wx)
                      case first =>
                        refine wp_region_held_drew (S := fun w' => Below wo.heap.size wo w' ∧ w'.cell? ⟨g, oa, none⟩ = some (.int .u8 x0) ∧ w'.cell? ⟨g, oa + 1, none⟩ = some (.int .u8 x1) ∧ w'.cell? ⟨g, oa + 2, none⟩ = some (.int .u8 x2) ∧ w'.cell? ⟨g, oa + 3, none⟩ = some (.int .u8 x3)) (by kernel_rfl) (⟨(Below.refl _ wo).drew, c0, c1, c2, c3⟩) (fun hH0 => ?_)
                        change wpAnyH _ _ _ _ _ 20 #[false, false, false, false, false, false, false, false, false, false, false, false, false, false, false, false, false, false, false, false] _ _
                        refine wpAnyH_take (i := 0) (oi := { dst := some 44, op := _, type := _, pos := _, after := _, guard := _ }) (v := ?_) rfl (by kernel_rfl) (by kernel_rfl) (by kernel_rfl) (fun _ _ _ h => h) (Or.inl ⟨by kernel_rfl, ?_⟩) hH0 ?_
                        rotate_left
                        · (intro w hSw; (try dsimp only at hSw); go_simp; first | done | with_reducible rfl)
                        try simp only [Act.put, List.setIfInBounds_toArray, List.set_cons_zero, List.set_cons_succ]
                        refine wpAnyH_take (i := 1) (oi := { dst := some 45, op := _, type := _, pos := _, after := _, guard := _ }) (v := ?_) rfl (by kernel_rfl) (by kernel_rfl) (by kernel_rfl) (fun _ _ _ h => h) (Or.inl ⟨by kernel_rfl, ?_⟩) hH0 ?_
                        rotate_left
                        · (intro w hSw; (try dsimp only at hSw); go_simp; first | done | with_reducible rfl)
                        try simp only [Act.put, List.setIfInBounds_toArray, List.set_cons_zero, List.set_cons_succ]
                        refine wpAnyH_take (i := 2) (oi := { dst := some 46, op := _, type := _, pos := _, after := _, guard := _ }) (v := ?_) rfl (by kernel_rfl) (by kernel_rfl) (by kernel_rfl) (fun _ _ _ h => h) (Or.inl ⟨by kernel_rfl, ?_⟩) hH0 ?_
                        rotate_left
                        · (intro w hSw; (try dsimp only at hSw); go_simp; first | done | with_reducible rfl)
                        try simp only [Act.put, List.setIfInBounds_toArray, List.set_cons_zero, List.set_cons_succ]
                        refine wpAnyH_take (i := 3) (oi := { dst := some 47, op := _, type := _, pos := _, after := _, guard := _ }) (v := ?_) rfl (by kernel_rfl) (by kernel_rfl) (by kernel_rfl) (fun _ _ _ h => h) (Or.inl ⟨by kernel_rfl, ?_⟩) hH0 ?_
                        rotate_left
                        · (intro w hSw; (try dsimp only at hSw); go_simp; first | done | with_reducible rfl)
                        try simp only [Act.put, List.setIfInBounds_toArray, List.set_cons_zero, List.set_cons_succ]
                        refine wpAnyH_take (i := 4) (oi := { dst := some 48, op := _, type := _, pos := _, after := _, guard := _ }) (v := ?_) rfl (by kernel_rfl) (by kernel_rfl) (by kernel_rfl) (fun _ _ _ h => h) (Or.inl ⟨by kernel_rfl, ?_⟩) hH0 ?_
                        rotate_left
                        · (intro w hSw; (try dsimp only at hSw); go_simp; first | done | with_reducible rfl)
                        try simp only [Act.put, List.setIfInBounds_toArray, List.set_cons_zero, List.set_cons_succ]
                        refine wpAnyH_take (i := 5) (oi := { dst := some 49, op := _, type := _, pos := _, after := _, guard := _ }) (v := ?_) rfl (by kernel_rfl) (by kernel_rfl) (by kernel_rfl) (fun _ _ _ h => h) (Or.inl ⟨by kernel_rfl, ?_⟩) hH0 ?_
                        rotate_left
                        · (intro w hSw; (try dsimp only at hSw); go_simp; first | done | with_reducible rfl)
                        try simp only [Act.put, List.setIfInBounds_toArray, List.set_cons_zero, List.set_cons_succ]
                        refine wpAnyH_take (i := 6) (oi := { dst := some 50, op := _, type := _, pos := _, after := _, guard := _ }) (v := ?_) rfl (by kernel_rfl) (by kernel_rfl) (by kernel_rfl) (fun _ _ _ h => h) (Or.inl ⟨by kernel_rfl, ?_⟩) hH0 ?_
                        rotate_left
                        · (intro w hSw; (try dsimp only at hSw); go_simp; first | done | with_reducible rfl)
                        try simp only [Act.put, List.setIfInBounds_toArray, List.set_cons_zero, List.set_cons_succ]
                        refine wpAnyH_take (i := 7) (oi := { dst := some 51, op := _, type := _, pos := _, after := _, guard := _ }) (v := ?_) rfl (by kernel_rfl) (by kernel_rfl) (by kernel_rfl) (fun _ _ _ h => h) (Or.inl ⟨by kernel_rfl, ?_⟩) hH0 ?_
                        rotate_left
                        · (intro w hSw; (try dsimp only at hSw); go_simp; first | done | with_reducible rfl)
                        try simp only [Act.put, List.setIfInBounds_toArray, List.set_cons_zero, List.set_cons_succ]
                        refine wpAnyH_take (i := 8) (oi := { dst := some 52, op := _, type := _, pos := _, after := _, guard := _ }) (v := ?_) rfl (by kernel_rfl) (by kernel_rfl) (by kernel_rfl) (fun _ _ _ h => h) (Or.inl ⟨by kernel_rfl, ?_⟩) hH0 ?_
                        rotate_left
                        · (intro w hSw; (try dsimp only at hSw); go_simp; first | done | with_reducible rfl)
                        try simp only [Act.put, List.setIfInBounds_toArray, List.set_cons_zero, List.set_cons_succ]
                        refine wpAnyH_take (i := 9) (oi := { dst := some 53, op := _, type := _, pos := _, after := _, guard := _ }) (v := ?_) rfl (by kernel_rfl) (by kernel_rfl) (by kernel_rfl) (fun _ _ _ h => h) (Or.inl ⟨by kernel_rfl, ?_⟩) hH0 ?_
                        rotate_left
                        · (intro w hSw; (try dsimp only at hSw); go_simp; first | done | with_reducible rfl)
                        try simp only [Act.put, List.setIfInBounds_toArray, List.set_cons_zero, List.set_cons_succ]
                        refine wpAnyH_take (i := 12) (oi := { dst := some 56, op := _, type := _, pos := _, after := _, guard := _ }) (v := ?_) rfl (by kernel_rfl) (by kernel_rfl) (by kernel_rfl) (fun _ _ _ h => h) (Or.inl ⟨by kernel_rfl, ?_⟩) hH0 ?_
                        rotate_left
                        · (intro w hSw; (try dsimp only at hSw); go_simp; first | done | with_reducible rfl)
                        try simp only [Act.put, List.setIfInBounds_toArray, List.set_cons_zero, List.set_cons_succ]
                        refine wpAnyH_take (i := 13) (oi := { dst := some 57, op := _, type := _, pos := _, after := _, guard := _ }) (v := ?_) rfl (by kernel_rfl) (by kernel_rfl) (by kernel_rfl) (fun _ _ _ h => h) (Or.inl ⟨by kernel_rfl, ?_⟩) hH0 ?_
                        rotate_left
                        · (intro w hSw; (try dsimp only at hSw); go_simp; first | done | with_reducible rfl)
                        try simp only [Act.put, List.setIfInBounds_toArray, List.set_cons_zero, List.set_cons_succ]
                        refine wpAnyH_take (i := 14) (oi := { dst := some 58, op := _, type := _, pos := _, after := _, guard := _ }) (v := ?_) rfl (by kernel_rfl) (by kernel_rfl) (by kernel_rfl) (fun _ _ _ h => h) (Or.inl ⟨by kernel_rfl, ?_⟩) hH0 ?_
                        rotate_left
                        · (intro w hSw; (try dsimp only at hSw); go_simp; first | done | with_reducible rfl)
                        try simp only [Act.put, List.setIfInBounds_toArray, List.set_cons_zero, List.set_cons_succ]
                        refine wpAnyH_ready (rs := [10, 18]) (by kernel_rfl) (by simp) ?_
                        refine AllReadyH.cons (o := { dst := some 54, op := _, type := _, pos := _, after := _, guard := _ }) rfl (fun K hK => ?_) ?_
                        · rw [if_pos (by kernel_rfl)]
                          go_simp
                          refine (HLp.out _ hH0.1).mono ?_
                          rintro e wx10 ⟨rfl, hbx10⟩
                          refine hK.out _ _ (⟨hH0.1.trans (hbx10.mono hH0.1.size), cellsAt_below hH0.2.1 hbx10, cellsAt_below hH0.2.2.1 hbx10, cellsAt_below hH0.2.2.2.1 hbx10, cellsAt_below hH0.2.2.2.2 hbx10⟩) (fun hH1 => ?_)
                          clear hK K
                          try simp only [List.setIfInBounds_toArray, List.set_cons_zero, List.set_cons_succ]
                          refine wpAnyH_take (i := 11) (oi := { dst := some 55, op := _, type := _, pos := _, after := _, guard := _ }) (v := ?_) rfl (by kernel_rfl) (by kernel_rfl) (by kernel_rfl) (fun _ _ _ h => h) (Or.inl ⟨by kernel_rfl, ?_⟩) hH1 ?_
                          rotate_left
                          · (intro w hSw; (try dsimp only at hSw); go_simp; first | done | with_reducible rfl)
                          try simp only [Act.put, List.setIfInBounds_toArray, List.set_cons_zero, List.set_cons_succ]
                          refine wpAnyH_ready (rs := [15, 18]) (by kernel_rfl) (by simp) ?_
                          refine AllReadyH.cons (o := { dst := some 59, op := _, type := _, pos := _, after := _, guard := _ }) rfl (fun K hK => ?_) ?_
                          · rw [if_pos (by kernel_rfl)]
                            go_simp
                            refine (HLm.out _ hH1.1).mono ?_
                            rintro e wx15 ⟨rfl, hbx15⟩
                            refine hK.out _ _ (⟨hH1.1.trans (hbx15.mono hH1.1.size), cellsAt_below hH1.2.1 hbx15, cellsAt_below hH1.2.2.1 hbx15, cellsAt_below hH1.2.2.2.1 hbx15, cellsAt_below hH1.2.2.2.2 hbx15⟩) (fun hH2 => ?_)
                            clear hK K
                            try simp only [List.setIfInBounds_toArray, List.set_cons_zero, List.set_cons_succ]
                            refine wpAnyH_take (i := 16) (oi := { dst := some 60, op := _, type := _, pos := _, after := _, guard := _ }) (v := ?_) rfl (by kernel_rfl) (by kernel_rfl) (by kernel_rfl) (fun _ _ _ h => h) (Or.inl ⟨by kernel_rfl, ?_⟩) hH2 ?_
                            rotate_left
                            · (intro w hSw; (try dsimp only at hSw); go_simp; first | done | with_reducible rfl)
                            try simp only [Act.put, List.setIfInBounds_toArray, List.set_cons_zero, List.set_cons_succ]
                            refine wpAnyH_take (i := 17) (oi := { dst := some 61, op := _, type := _, pos := _, after := _, guard := _ }) (v := ?_) rfl (by kernel_rfl) (by kernel_rfl) (by kernel_rfl) (fun _ _ _ h => h) (Or.inl ⟨by kernel_rfl, ?_⟩) hH2 ?_
                            rotate_left
                            · (intro w hSw; (try dsimp only at hSw); go_simp; first | done | with_reducible rfl)
                            try simp only [Act.put, List.setIfInBounds_toArray, List.set_cons_zero, List.set_cons_succ]
                            refine wpAnyH_ready (rs := [18]) (by kernel_rfl) (by simp) ?_
                            refine AllReadyH.cons (o := { dst := some 8, op := _, type := _, pos := _, after := _, guard := _ }) rfl (fun K hK => ?_) ?_
                            · rw [if_pos (by kernel_rfl)]
                              go_simp
                              have hax : (wx15.alloc (.cells #[.int .u8 0, .int .u8 0, .int .u8 0, .int .u8 0, .int .i64 0, .int .i64 0] 41)).heap[wx15.heap.size]? = some (.cells #[.int .u8 0, .int .u8 0, .int .u8 0, .int .u8 0, .int .i64 0, .int .i64 0] 41 (0, 0)) := heap_alloc_new _ _
                              have hal : wx15.heap.size < (wx15.alloc (.cells #[.int .u8 0, .int .u8 0, .int .u8 0, .int .u8 0, .int .i64 0, .int .i64 0] 41)).heap.size := heap_more _ _
                              have haB : wo.heap.size ≤ wx15.heap.size := hH2.1.size
                              refine hK.out _ _ (⟨hH2.1.alloc hH2.1.size _, cells_alloc _ hH2.2.1, cells_alloc _ hH2.2.2.1, cells_alloc _ hH2.2.2.2.1, cells_alloc _ hH2.2.2.2.2⟩) (fun hH3 => ?_)
                              clear hK K
                              try simp only [List.setIfInBounds_toArray, List.set_cons_zero, List.set_cons_succ]
                              refine wpAnyH_ready (rs := [19]) (by kernel_rfl) (by simp) ?_
                              refine AllReadyH.cons (o := { dst := none, op := _, type := _, pos := _, after := _, guard := _ }) rfl (fun K hK => ?_) ?_
                              · rw [if_pos (by kernel_rfl)]
                                have hst := run_storeVar_row (P := Try.prog) _ _ 41 41 _ #[.int .u8 x0, .int .u8 x1, .int .u8 x2, .int .u8 x3, .int .i64 (p : Int), .int .i64 (m : Int)] hax (by kernel_rfl) rfl (by simp [Value.oneCell'])
                                refine wp_store_row' _ _ _ rfl _ _ rfl rfl hst ?_
                                have hbs : Below wo.heap.size (wx15.alloc (.cells #[.int .u8 0, .int .u8 0, .int .u8 0, .int .u8 0, .int .i64 0, .int .i64 0] 41)) ((wx15.alloc (.cells #[.int .u8 0, .int .u8 0, .int .u8 0, .int .u8 0, .int .i64 0, .int .i64 0] 41)).setRow _ #[.int .u8 x0, .int .u8 x1, .int .u8 x2, .int .u8 x3, .int .i64 (p : Int), .int .i64 (m : Int)]) := below_setRow haB
                                have hfin := setRow_heap _ _ _ #[.int .u8 x0, .int .u8 x1, .int .u8 x2, .int .u8 x3, .int .i64 (p : Int), .int .i64 (m : Int)] _ _ hax
                                refine hK.out _ _ (⟨hH3.1.trans hbs, by rw [cell_setRow_other _ _ _ _ (fun e => absurd (Nat.le_trans haB (Nat.le_of_eq e.symm)) (Nat.not_le.2 HGL.out))]; exact hH3.2.1, by rw [cell_setRow_other _ _ _ _ (fun e => absurd (Nat.le_trans haB (Nat.le_of_eq e.symm)) (Nat.not_le.2 HGL.out))]; exact hH3.2.2.1, by rw [cell_setRow_other _ _ _ _ (fun e => absurd (Nat.le_trans haB (Nat.le_of_eq e.symm)) (Nat.not_le.2 HGL.out))]; exact hH3.2.2.2.1, by rw [cell_setRow_other _ _ _ _ (fun e => absurd (Nat.le_trans haB (Nat.le_of_eq e.symm)) (Nat.not_le.2 HGL.out))]; exact hH3.2.2.2.2⟩) (fun hH4 => ?_)
                                clear hK K
                                try simp only [List.setIfInBounds_toArray, List.set_cons_zero, List.set_cons_succ]
                                refine wpAnyH_done (by kernel_rfl) ?_ _
                                go_wp2_with fail
                                go_meet
                                exact ⟨_, rfl, haB, (by first | exact hal | (simp; done) | (simp; exact hal)), hfin, hH4.1⟩
                              exact AllReadyH.nil
                            exact AllReadyH.nil
                          refine AllReadyH.cons (o := { dst := some 8, op := _, type := _, pos := _, after := _, guard := _ }) rfl (fun K hK => ?_) ?_
                          · rw [if_pos (by kernel_rfl)]
                            go_simp
                            have hax : (wx10.alloc (.cells #[.int .u8 0, .int .u8 0, .int .u8 0, .int .u8 0, .int .i64 0, .int .i64 0] 41)).heap[wx10.heap.size]? = some (.cells #[.int .u8 0, .int .u8 0, .int .u8 0, .int .u8 0, .int .i64 0, .int .i64 0] 41 (0, 0)) := heap_alloc_new _ _
                            have hal : wx10.heap.size < (wx10.alloc (.cells #[.int .u8 0, .int .u8 0, .int .u8 0, .int .u8 0, .int .i64 0, .int .i64 0] 41)).heap.size := heap_more _ _
                            have haB : wo.heap.size ≤ wx10.heap.size := hH1.1.size
                            refine hK.out _ _ (⟨hH1.1.alloc hH1.1.size _, cells_alloc _ hH1.2.1, cells_alloc _ hH1.2.2.1, cells_alloc _ hH1.2.2.2.1, cells_alloc _ hH1.2.2.2.2⟩) (fun hH5 => ?_)
                            clear hK K
                            try simp only [List.setIfInBounds_toArray, List.set_cons_zero, List.set_cons_succ]
                            refine wpAnyH_ready (rs := [15]) (by kernel_rfl) (by simp) ?_
                            refine AllReadyH.cons (o := { dst := some 59, op := _, type := _, pos := _, after := _, guard := _ }) rfl (fun K hK => ?_) ?_
                            · rw [if_pos (by kernel_rfl)]
                              go_simp
                              refine (HLm.out _ hH5.1).mono ?_
                              rintro e wx15 ⟨rfl, hbx15⟩
                              have haxn := (hbx15.block _ hal).trans hax
                              have haln := Nat.lt_of_lt_of_le hal hbx15.size
                              clear hax hal
                              have hax := haxn
                              have hal := haln
                              clear haxn haln
                              refine hK.out _ _ (⟨hH5.1.trans (hbx15.mono hH5.1.size), cellsAt_below hH5.2.1 hbx15, cellsAt_below hH5.2.2.1 hbx15, cellsAt_below hH5.2.2.2.1 hbx15, cellsAt_below hH5.2.2.2.2 hbx15⟩) (fun hH6 => ?_)
                              clear hK K
                              try simp only [List.setIfInBounds_toArray, List.set_cons_zero, List.set_cons_succ]
                              refine wpAnyH_take (i := 16) (oi := { dst := some 60, op := _, type := _, pos := _, after := _, guard := _ }) (v := ?_) rfl (by kernel_rfl) (by kernel_rfl) (by kernel_rfl) (fun _ _ _ h => h) (Or.inl ⟨by kernel_rfl, ?_⟩) hH6 ?_
                              rotate_left
                              · (intro w hSw; (try dsimp only at hSw); go_simp; first | done | with_reducible rfl)
                              try simp only [Act.put, List.setIfInBounds_toArray, List.set_cons_zero, List.set_cons_succ]
                              refine wpAnyH_take (i := 17) (oi := { dst := some 61, op := _, type := _, pos := _, after := _, guard := _ }) (v := ?_) rfl (by kernel_rfl) (by kernel_rfl) (by kernel_rfl) (fun _ _ _ h => h) (Or.inl ⟨by kernel_rfl, ?_⟩) hH6 ?_
                              rotate_left
                              · (intro w hSw; (try dsimp only at hSw); go_simp; first | done | with_reducible rfl)
                              try simp only [Act.put, List.setIfInBounds_toArray, List.set_cons_zero, List.set_cons_succ]
                              refine wpAnyH_ready (rs := [19]) (by kernel_rfl) (by simp) ?_
                              refine AllReadyH.cons (o := { dst := none, op := _, type := _, pos := _, after := _, guard := _ }) rfl (fun K hK => ?_) ?_
                              · rw [if_pos (by kernel_rfl)]
                                have hst := run_storeVar_row (P := Try.prog) _ _ 41 41 _ #[.int .u8 x0, .int .u8 x1, .int .u8 x2, .int .u8 x3, .int .i64 (p : Int), .int .i64 (m : Int)] hax (by kernel_rfl) rfl (by simp [Value.oneCell'])
                                refine wp_store_row' _ _ _ rfl _ _ rfl rfl hst ?_
                                have hbs : Below wo.heap.size wx15 (wx15.setRow _ #[.int .u8 x0, .int .u8 x1, .int .u8 x2, .int .u8 x3, .int .i64 (p : Int), .int .i64 (m : Int)]) := below_setRow haB
                                have hfin := setRow_heap _ _ _ #[.int .u8 x0, .int .u8 x1, .int .u8 x2, .int .u8 x3, .int .i64 (p : Int), .int .i64 (m : Int)] _ _ hax
                                refine hK.out _ _ (⟨hH6.1.trans hbs, by rw [cell_setRow_other _ _ _ _ (fun e => absurd (Nat.le_trans haB (Nat.le_of_eq e.symm)) (Nat.not_le.2 HGL.out))]; exact hH6.2.1, by rw [cell_setRow_other _ _ _ _ (fun e => absurd (Nat.le_trans haB (Nat.le_of_eq e.symm)) (Nat.not_le.2 HGL.out))]; exact hH6.2.2.1, by rw [cell_setRow_other _ _ _ _ (fun e => absurd (Nat.le_trans haB (Nat.le_of_eq e.symm)) (Nat.not_le.2 HGL.out))]; exact hH6.2.2.2.1, by rw [cell_setRow_other _ _ _ _ (fun e => absurd (Nat.le_trans haB (Nat.le_of_eq e.symm)) (Nat.not_le.2 HGL.out))]; exact hH6.2.2.2.2⟩) (fun hH7 => ?_)
                                clear hK K
                                try simp only [List.setIfInBounds_toArray, List.set_cons_zero, List.set_cons_succ]
                                refine wpAnyH_done (by kernel_rfl) ?_ _
                                go_wp2_with fail
                                go_meet
                                exact ⟨_, rfl, haB, (by first | exact hal | (simp; done) | (simp; exact hal)), hfin, hH7.1⟩
                              exact AllReadyH.nil
                            exact AllReadyH.nil
                          exact AllReadyH.nil
                        refine AllReadyH.cons (o := { dst := some 8, op := _, type := _, pos := _, after := _, guard := _ }) rfl (fun K hK => ?_) ?_
                        · rw [if_pos (by kernel_rfl)]
                          go_simp
                          have hax : (wo.drew.alloc (.cells #[.int .u8 0, .int .u8 0, .int .u8 0, .int .u8 0, .int .i64 0, .int .i64 0] 41)).heap[wo.drew.heap.size]? = some (.cells #[.int .u8 0, .int .u8 0, .int .u8 0, .int .u8 0, .int .i64 0, .int .i64 0] 41 (0, 0)) := heap_alloc_new _ _
                          have hal : wo.drew.heap.size < (wo.drew.alloc (.cells #[.int .u8 0, .int .u8 0, .int .u8 0, .int .u8 0, .int .i64 0, .int .i64 0] 41)).heap.size := heap_more _ _
                          have haB : wo.heap.size ≤ wo.drew.heap.size := hH0.1.size
                          refine hK.out _ _ (⟨hH0.1.alloc hH0.1.size _, cells_alloc _ hH0.2.1, cells_alloc _ hH0.2.2.1, cells_alloc _ hH0.2.2.2.1, cells_alloc _ hH0.2.2.2.2⟩) (fun hH8 => ?_)
                          clear hK K
                          try simp only [List.setIfInBounds_toArray, List.set_cons_zero, List.set_cons_succ]
                          refine wpAnyH_ready (rs := [10]) (by kernel_rfl) (by simp) ?_
                          refine AllReadyH.cons (o := { dst := some 54, op := _, type := _, pos := _, after := _, guard := _ }) rfl (fun K hK => ?_) ?_
                          · rw [if_pos (by kernel_rfl)]
                            go_simp
                            refine (HLp.out _ hH8.1).mono ?_
                            rintro e wx10 ⟨rfl, hbx10⟩
                            have haxn := (hbx10.block _ hal).trans hax
                            have haln := Nat.lt_of_lt_of_le hal hbx10.size
                            clear hax hal
                            have hax := haxn
                            have hal := haln
                            clear haxn haln
                            refine hK.out _ _ (⟨hH8.1.trans (hbx10.mono hH8.1.size), cellsAt_below hH8.2.1 hbx10, cellsAt_below hH8.2.2.1 hbx10, cellsAt_below hH8.2.2.2.1 hbx10, cellsAt_below hH8.2.2.2.2 hbx10⟩) (fun hH9 => ?_)
                            clear hK K
                            try simp only [List.setIfInBounds_toArray, List.set_cons_zero, List.set_cons_succ]
                            refine wpAnyH_take (i := 11) (oi := { dst := some 55, op := _, type := _, pos := _, after := _, guard := _ }) (v := ?_) rfl (by kernel_rfl) (by kernel_rfl) (by kernel_rfl) (fun _ _ _ h => h) (Or.inl ⟨by kernel_rfl, ?_⟩) hH9 ?_
                            rotate_left
                            · (intro w hSw; (try dsimp only at hSw); go_simp; first | done | with_reducible rfl)
                            try simp only [Act.put, List.setIfInBounds_toArray, List.set_cons_zero, List.set_cons_succ]
                            refine wpAnyH_ready (rs := [15]) (by kernel_rfl) (by simp) ?_
                            refine AllReadyH.cons (o := { dst := some 59, op := _, type := _, pos := _, after := _, guard := _ }) rfl (fun K hK => ?_) ?_
                            · rw [if_pos (by kernel_rfl)]
                              go_simp
                              refine (HLm.out _ hH9.1).mono ?_
                              rintro e wx15 ⟨rfl, hbx15⟩
                              have haxn := (hbx15.block _ hal).trans hax
                              have haln := Nat.lt_of_lt_of_le hal hbx15.size
                              clear hax hal
                              have hax := haxn
                              have hal := haln
                              clear haxn haln
                              refine hK.out _ _ (⟨hH9.1.trans (hbx15.mono hH9.1.size), cellsAt_below hH9.2.1 hbx15, cellsAt_below hH9.2.2.1 hbx15, cellsAt_below hH9.2.2.2.1 hbx15, cellsAt_below hH9.2.2.2.2 hbx15⟩) (fun hH10 => ?_)
                              clear hK K
                              try simp only [List.setIfInBounds_toArray, List.set_cons_zero, List.set_cons_succ]
                              refine wpAnyH_take (i := 16) (oi := { dst := some 60, op := _, type := _, pos := _, after := _, guard := _ }) (v := ?_) rfl (by kernel_rfl) (by kernel_rfl) (by kernel_rfl) (fun _ _ _ h => h) (Or.inl ⟨by kernel_rfl, ?_⟩) hH10 ?_
                              rotate_left
                              · (intro w hSw; (try dsimp only at hSw); go_simp; first | done | with_reducible rfl)
                              try simp only [Act.put, List.setIfInBounds_toArray, List.set_cons_zero, List.set_cons_succ]
                              refine wpAnyH_take (i := 17) (oi := { dst := some 61, op := _, type := _, pos := _, after := _, guard := _ }) (v := ?_) rfl (by kernel_rfl) (by kernel_rfl) (by kernel_rfl) (fun _ _ _ h => h) (Or.inl ⟨by kernel_rfl, ?_⟩) hH10 ?_
                              rotate_left
                              · (intro w hSw; (try dsimp only at hSw); go_simp; first | done | with_reducible rfl)
                              try simp only [Act.put, List.setIfInBounds_toArray, List.set_cons_zero, List.set_cons_succ]
                              refine wpAnyH_ready (rs := [19]) (by kernel_rfl) (by simp) ?_
                              refine AllReadyH.cons (o := { dst := none, op := _, type := _, pos := _, after := _, guard := _ }) rfl (fun K hK => ?_) ?_
                              · rw [if_pos (by kernel_rfl)]
                                have hst := run_storeVar_row (P := Try.prog) _ _ 41 41 _ #[.int .u8 x0, .int .u8 x1, .int .u8 x2, .int .u8 x3, .int .i64 (p : Int), .int .i64 (m : Int)] hax (by kernel_rfl) rfl (by simp [Value.oneCell'])
                                refine wp_store_row' _ _ _ rfl _ _ rfl rfl hst ?_
                                have hbs : Below wo.heap.size wx15 (wx15.setRow _ #[.int .u8 x0, .int .u8 x1, .int .u8 x2, .int .u8 x3, .int .i64 (p : Int), .int .i64 (m : Int)]) := below_setRow haB
                                have hfin := setRow_heap _ _ _ #[.int .u8 x0, .int .u8 x1, .int .u8 x2, .int .u8 x3, .int .i64 (p : Int), .int .i64 (m : Int)] _ _ hax
                                refine hK.out _ _ (⟨hH10.1.trans hbs, by rw [cell_setRow_other _ _ _ _ (fun e => absurd (Nat.le_trans haB (Nat.le_of_eq e.symm)) (Nat.not_le.2 HGL.out))]; exact hH10.2.1, by rw [cell_setRow_other _ _ _ _ (fun e => absurd (Nat.le_trans haB (Nat.le_of_eq e.symm)) (Nat.not_le.2 HGL.out))]; exact hH10.2.2.1, by rw [cell_setRow_other _ _ _ _ (fun e => absurd (Nat.le_trans haB (Nat.le_of_eq e.symm)) (Nat.not_le.2 HGL.out))]; exact hH10.2.2.2.1, by rw [cell_setRow_other _ _ _ _ (fun e => absurd (Nat.le_trans haB (Nat.le_of_eq e.symm)) (Nat.not_le.2 HGL.out))]; exact hH10.2.2.2.2⟩) (fun hH11 => ?_)
                                clear hK K
                                try simp only [List.setIfInBounds_toArray, List.set_cons_zero, List.set_cons_succ]
                                refine wpAnyH_done (by kernel_rfl) ?_ _
                                go_wp2_with fail
                                go_meet
                                exact ⟨_, rfl, haB, (by first | exact hal | (simp; done) | (simp; exact hal)), hfin, hH11.1⟩
                              exact AllReadyH.nil
                            exact AllReadyH.nil
                          exact AllReadyH.nil
                        exact AllReadyH.nil
                      case rest =>
                        obtain ⟨X, rfl, hX1, hX2, hXB, hbc⟩ := hcut
                        rename World => wt
                        have HX1 := Lib.hid hX1
                        have HX2 := Lib.hid hX2
                        have HXB := Lib.hid hXB
                        have HBCR := Lib.hid hbc
                        have HBC := Lib.hid (HBW.out.trans (hbc.mono HBW.out.size))
                        have ht : ∀ j u, (#[.int .u8 x0, .int .u8 x1, .int .u8 x2, .int .u8 x3, .int .i64 (p : Int), .int .i64 (m : Int)] : Array Value)[j]? = some u → wt.cell? ⟨X, j, none⟩ = some u := fun j u hj => by
                          rw [cell_of_row _ X j _ _ _ hXB]; exact hj
                        have t0 := ht 0 _ rfl
                        have t1 := ht 1 _ rfl
                        have t2 := ht 2 _ rfl
                        have t3 := ht 3 _ rfl
                        have t4 := ht 4 _ rfl
                        have t5 := ht 5 _ rfl
                        clear hX1 hX2 hXB hbc ht c0 c1 c2 c3 har hsl
                        have HT0 := Lib.hid (And.intro t0 (And.intro t1 (And.intro t2 (And.intro t3 (And.intro t4 t5)))))
                        go_upto_region 11 with fail
                        go_cut [] from 39 to 131 (fun wx => Below wt.heap.size wt wx ∧ (decide (0 < i) && !lessL (ts.getD (i - 1) ([], 0, 0)).1 (tabAt l i).1) = false)
                        case first =>
                          by_cases h0 : i = 0
                          · have bz : ((i : Int) == 0) = true := by simp [h0]
                            have HZERO : Hid ((decide (0 < i) && !lessL (ts.getD (i - 1) ([], 0, 0)).1 (tabAt l i).1) = false) := Lib.hid (by simp [h0])
                            clear h0 t0 t1 t2 t3 t4 t5
                            refine wp_region_held_drew (S := fun w' => Below wt.heap.size wt w') (by kernel_rfl) ((Below.refl _ wt).drew) (fun hH0 => ?_)
                            change wpAnyH _ _ _ _ _ 14 #[false, false, false, false, false, false, false, false, false, false, false, false, false, false] _ _
                            refine wpAnyH_take (i := 0) (oi := { dst := some 62, op := _, type := _, pos := _, after := _, guard := _ }) (v := ?_) rfl (by kernel_rfl) (by kernel_rfl) (by kernel_rfl) (fun _ _ _ h => h) (Or.inl ⟨by kernel_rfl, ?_⟩) hH0 ?_
                            rotate_left
                            · (intro w hSw; (try dsimp only at hSw); go_simp; first | done | with_reducible rfl)
                            try simp only [Act.put, List.setIfInBounds_toArray, List.set_cons_zero, List.set_cons_succ]
                            refine wpAnyH_take (i := 1) (oi := { dst := some 63, op := _, type := _, pos := _, after := _, guard := _ }) (v := ?_) rfl (by kernel_rfl) (by kernel_rfl) (by kernel_rfl) (fun _ _ _ h => h) (Or.inl ⟨by kernel_rfl, ?_⟩) hH0 ?_
                            rotate_left
                            · (intro w hSw; (try dsimp only at hSw); go_simp; first | done | with_reducible rfl)
                            try simp only [Act.put, List.setIfInBounds_toArray, List.set_cons_zero, List.set_cons_succ]
                            refine wpAnyH_take (i := 2) (oi := { dst := some 64, op := _, type := _, pos := _, after := _, guard := _ }) (v := ?_) rfl (by kernel_rfl) (by kernel_rfl) (by kernel_rfl) (fun _ _ _ h => h) (Or.inl ⟨by kernel_rfl, ?_⟩) hH0 ?_
                            rotate_left
                            · (intro w hSw; (try dsimp only at hSw); go_simp; first | done | with_reducible rfl)
                            try simp only [Act.put, List.setIfInBounds_toArray, List.set_cons_zero, List.set_cons_succ]
                            refine wpAnyH_take (i := 3) (oi := { dst := some 65, op := _, type := _, pos := _, after := _, guard := _ }) (v := undef) rfl (by kernel_rfl) (by kernel_rfl) (by kernel_rfl) (fun _ _ _ h => h) (Or.inr ⟨by kernel_rfl, rfl⟩) hH0 ?_
                            try simp only [Act.put, List.setIfInBounds_toArray, List.set_cons_zero, List.set_cons_succ]
                            refine wpAnyH_take (i := 4) (oi := { dst := some 66, op := _, type := _, pos := _, after := _, guard := _ }) (v := undef) rfl (by kernel_rfl) (by kernel_rfl) (by kernel_rfl) (fun _ _ _ h => h) (Or.inr ⟨by kernel_rfl, rfl⟩) hH0 ?_
                            try simp only [Act.put, List.setIfInBounds_toArray, List.set_cons_zero, List.set_cons_succ]
                            refine wpAnyH_take (i := 5) (oi := { dst := some 67, op := _, type := _, pos := _, after := _, guard := _ }) (v := undef) rfl (by kernel_rfl) (by kernel_rfl) (by kernel_rfl) (fun _ _ _ h => h) (Or.inr ⟨by kernel_rfl, rfl⟩) hH0 ?_
                            try simp only [Act.put, List.setIfInBounds_toArray, List.set_cons_zero, List.set_cons_succ]
                            refine wpAnyH_take (i := 6) (oi := { dst := some 68, op := _, type := _, pos := _, after := _, guard := _ }) (v := undef) rfl (by kernel_rfl) (by kernel_rfl) (by kernel_rfl) (fun _ _ _ h => h) (Or.inr ⟨by kernel_rfl, rfl⟩) hH0 ?_
                            try simp only [Act.put, List.setIfInBounds_toArray, List.set_cons_zero, List.set_cons_succ]
                            refine wpAnyH_take (i := 7) (oi := { dst := some 69, op := _, type := _, pos := _, after := _, guard := _ }) (v := undef) rfl (by kernel_rfl) (by kernel_rfl) (by kernel_rfl) (fun _ _ _ h => h) (Or.inr ⟨by kernel_rfl, rfl⟩) hH0 ?_
                            try simp only [Act.put, List.setIfInBounds_toArray, List.set_cons_zero, List.set_cons_succ]
                            refine wpAnyH_take (i := 8) (oi := { dst := some 70, op := _, type := _, pos := _, after := _, guard := _ }) (v := undef) rfl (by kernel_rfl) (by kernel_rfl) (by kernel_rfl) (fun _ _ _ h => h) (Or.inr ⟨by kernel_rfl, rfl⟩) hH0 ?_
                            try simp only [Act.put, List.setIfInBounds_toArray, List.set_cons_zero, List.set_cons_succ]
                            refine wpAnyH_take (i := 9) (oi := { dst := some 71, op := _, type := _, pos := _, after := _, guard := _ }) (v := undef) rfl (by kernel_rfl) (by kernel_rfl) (by kernel_rfl) (fun _ _ _ h => h) (Or.inr ⟨by kernel_rfl, rfl⟩) hH0 ?_
                            try simp only [Act.put, List.setIfInBounds_toArray, List.set_cons_zero, List.set_cons_succ]
                            refine wpAnyH_take (i := 10) (oi := { dst := some 72, op := _, type := _, pos := _, after := _, guard := _ }) (v := undef) rfl (by kernel_rfl) (by kernel_rfl) (by kernel_rfl) (fun _ _ _ h => h) (Or.inr ⟨by kernel_rfl, rfl⟩) hH0 ?_
                            try simp only [Act.put, List.setIfInBounds_toArray, List.set_cons_zero, List.set_cons_succ]
                            refine wpAnyH_take (i := 11) (oi := { dst := some 73, op := _, type := _, pos := _, after := _, guard := _ }) (v := undef) rfl (by kernel_rfl) (by kernel_rfl) (by kernel_rfl) (fun _ _ _ h => h) (Or.inr ⟨by kernel_rfl, rfl⟩) hH0 ?_
                            try simp only [Act.put, List.setIfInBounds_toArray, List.set_cons_zero, List.set_cons_succ]
                            refine wpAnyH_take (i := 12) (oi := { dst := some 74, op := _, type := _, pos := _, after := _, guard := _ }) (v := ?_) rfl (by kernel_rfl) (by kernel_rfl) (by kernel_rfl) (fun _ _ _ h => h) (Or.inl ⟨by kernel_rfl, ?_⟩) hH0 ?_
                            rotate_left
                            · (intro w hSw; (try dsimp only at hSw); go_simp; first | done | with_reducible rfl)
                            try simp only [Act.put, List.setIfInBounds_toArray, List.set_cons_zero, List.set_cons_succ]
                            refine wpAnyH_ready (rs := [13]) (by kernel_rfl) (by simp) ?_
                            refine AllReadyH.cons (o := { dst := some 75, op := _, type := _, pos := _, after := _, guard := _ }) rfl (fun K hK => ?_) ?_
                            · rw [if_pos (by kernel_rfl)]
                              go_simp
                              refine (HOK.out _).mono ?_
                              rintro e wq ⟨rfl, rfl⟩
                              refine hK.out _ _ (hH0) (fun hH1 => ?_)
                              clear hK K
                              try simp only [List.setIfInBounds_toArray, List.set_cons_zero, List.set_cons_succ]
                              refine wpAnyH_done (by kernel_rfl) ?_ _
                              go_wp2_with fail
                              go_meet
                              exact ⟨hH1, HZERO.out⟩
                            exact AllReadyH.nil
                          · have bz : ((i : Int) == 0) = false := by simp [h0]
                            obtain ⟨i1, hi1⟩ : ∃ i1, i1 = i - 1 := ⟨_, rfl⟩
                            have hil : i1 < ts.length := by have := HLEN.out; omega
                            obtain ⟨A2, c2, e2, _, _, hcs⟩ := (HOW.out.read H4.out).below (HBCR.out)
                            injection e2 with e3 e4 e5
                            subst e3
                            clear e4 e5
                            obtain ⟨gT, rfl, _, hcs⟩ := hcs (by rintro rfl; simp at hil)
                            have hts : ts[i1] = tabAt l i1 := by
                              have h := tabsL_len l n i ts HTAB.out
                              subst h
                              simp
                            obtain ⟨y0, y1, y2, y3, hy⟩ : ∃ y0 y1 y2 y3, (tabAt l i1).1 = [y0, y1, y2, y3] := ⟨_, _, _, _, rfl⟩
                            have hpc : ∀ j u, [Value.int .u8 y0, .int .u8 y1, .int .u8 y2, .int .u8 y3][j]? = some u → wt.cell? ⟨gT, i1 * 6 + j, none⟩ = some u := fun j u hj => by
                              have hj4 : j < 4 := by
                                rcases Nat.lt_or_ge j 4 with h | h
                                · exact h
                                · rw [List.getElem?_eq_none (by simpa using h)] at hj; cases hj
                              rw [Nat.mul_comm i1 6, hcs i1 j hil (by omega), hts]
                              unfold cellsT
                              rw [List.getElem?_append_left (by rw [hy]; simpa using hj4), hy]
                              exact hj
                            have p0 := hpc 0 _ rfl
                            have p1 := hpc 1 _ rfl
                            have p2 := hpc 2 _ rfl
                            have p3 := hpc 3 _ rfl
                            rw [Nat.add_zero] at p0
                            have qi : IntKind.i64.wrap ((i : Int) - 1) = (i1 : Int) := by rw [IntKind.wrap_i64]; have := HIN.out; have := HBN.out; have := HBGE.out; have := HN.out; have := HL.out; omega
                            have j0 : (0 : Int) ≤ (i1 : Int) := Int.natCast_nonneg _
                            have jN : (i1 : Int) < (i : Int) := by omega
                            obtain ⟨lt, hlt⟩ : ∃ lt, lt = lessL [y0, y1, y2, y3] [x0, x1, x2, x3] := ⟨_, rfl⟩
                            have hgd : (ts.getD (i - 1) ([], 0, 0)).1 = [y0, y1, y2, y3] := by
                              rw [← hi1, List.getD_eq_getElem?_getD, List.getElem?_eq_getElem hil, Option.getD_some, hts, hy]
                            have htx : (tabAt l i).1 = [x0, x1, x2, x3] := by rw [HTA.out]
                            have hby : AllB [y0, y1, y2, y3] := by
                              rw [← hy]; intro x hx
                              simp only [tabAt, List.mem_cons, List.not_mem_nil, or_false] at hx
                              rcases hx with rfl | rfl | rfl | rfl <;> exact getD_b HA.out _
                            have hbx : AllB [x0, x1, x2, x3] := by
                              rw [← htx]; intro x hx
                              simp only [tabAt, List.mem_cons, List.not_mem_nil, or_false] at hx
                              rcases hx with rfl | rfl | rfl | rfl <;> exact getD_b HA.out _
                            have HBE : Hid (∀ wx, Below wt.heap.size wt wx → Calls Try.prog 53 #[.agg #[.int .u8 y0, .int .u8 y1, .int .u8 y2, .int .u8 y3], .agg #[.int .u8 x0, .int .u8 x1, .int .u8 x2, .int .u8 x3]] wx fun e w' => e = .returned (.bool lt) ∧ Below wx.heap.size wx w') := Lib.hid (fun wx _ => by rw [hlt]; exact before_any wx _ _ hby hbx rfl rfl)
                            cases lt with
                            | true =>
                              have HLS : Hid ((decide (0 < i) && !lessL (ts.getD (i - 1) ([], 0, 0)).1 (tabAt l i).1) = false) := Lib.hid (by rw [hgd, htx, ← hlt]; simp)
                              clear h0 hi1 hil hcs hts hy hpc hlt hgd htx hby hbx t4 t5
                              refine wp_region_held_drew (S := fun w' => Below wt.heap.size wt w' ∧ w'.cell? ⟨X, 0, none⟩ = some (.int .u8 x0) ∧ w'.cell? ⟨X, 1, none⟩ = some (.int .u8 x1) ∧ w'.cell? ⟨X, 2, none⟩ = some (.int .u8 x2) ∧ w'.cell? ⟨X, 3, none⟩ = some (.int .u8 x3) ∧ w'.cell? ⟨gT, i1 * 6, none⟩ = some (.int .u8 y0) ∧ w'.cell? ⟨gT, i1 * 6 + 1, none⟩ = some (.int .u8 y1) ∧ w'.cell? ⟨gT, i1 * 6 + 2, none⟩ = some (.int .u8 y2) ∧ w'.cell? ⟨gT, i1 * 6 + 3, none⟩ = some (.int .u8 y3)) (by kernel_rfl) (⟨(Below.refl _ wt).drew, t0, t1, t2, t3, p0, p1, p2, p3⟩) (fun hH0 => ?_)
                              change wpAnyH _ _ _ _ _ 14 #[false, false, false, false, false, false, false, false, false, false, false, false, false, false] _ _
                              refine wpAnyH_take (i := 0) (oi := { dst := some 62, op := _, type := _, pos := _, after := _, guard := _ }) (v := ?_) rfl (by kernel_rfl) (by kernel_rfl) (by kernel_rfl) (fun _ _ _ h => h) (Or.inl ⟨by kernel_rfl, ?_⟩) hH0 ?_
                              rotate_left
                              · (intro w hSw; (try dsimp only at hSw); go_simp; first | done | with_reducible rfl)
                              try simp only [Act.put, List.setIfInBounds_toArray, List.set_cons_zero, List.set_cons_succ]
                              refine wpAnyH_take (i := 1) (oi := { dst := some 63, op := _, type := _, pos := _, after := _, guard := _ }) (v := ?_) rfl (by kernel_rfl) (by kernel_rfl) (by kernel_rfl) (fun _ _ _ h => h) (Or.inl ⟨by kernel_rfl, ?_⟩) hH0 ?_
                              rotate_left
                              · (intro w hSw; (try dsimp only at hSw); go_simp; first | done | with_reducible rfl)
                              try simp only [Act.put, List.setIfInBounds_toArray, List.set_cons_zero, List.set_cons_succ]
                              refine wpAnyH_take (i := 2) (oi := { dst := some 64, op := _, type := _, pos := _, after := _, guard := _ }) (v := ?_) rfl (by kernel_rfl) (by kernel_rfl) (by kernel_rfl) (fun _ _ _ h => h) (Or.inl ⟨by kernel_rfl, ?_⟩) hH0 ?_
                              rotate_left
                              · (intro w hSw; (try dsimp only at hSw); go_simp; first | done | with_reducible rfl)
                              try simp only [Act.put, List.setIfInBounds_toArray, List.set_cons_zero, List.set_cons_succ]
                              refine wpAnyH_take (i := 3) (oi := { dst := some 65, op := _, type := _, pos := _, after := _, guard := _ }) (v := ?_) rfl (by kernel_rfl) (by kernel_rfl) (by kernel_rfl) (fun _ _ _ h => h) (Or.inl ⟨by kernel_rfl, ?_⟩) hH0 ?_
                              rotate_left
                              · (intro w hSw; (try dsimp only at hSw); go_simp; first | done | with_reducible rfl)
                              try simp only [Act.put, List.setIfInBounds_toArray, List.set_cons_zero, List.set_cons_succ]
                              refine wpAnyH_take (i := 4) (oi := { dst := some 66, op := _, type := _, pos := _, after := _, guard := _ }) (v := ?_) rfl (by kernel_rfl) (by kernel_rfl) (by kernel_rfl) (fun _ _ _ h => h) (Or.inl ⟨by kernel_rfl, ?_⟩) hH0 ?_
                              rotate_left
                              · (intro w hSw; (try dsimp only at hSw); go_simp; first | done | with_reducible rfl)
                              try simp only [Act.put, List.setIfInBounds_toArray, List.set_cons_zero, List.set_cons_succ]
                              refine wpAnyH_take (i := 5) (oi := { dst := some 67, op := _, type := _, pos := _, after := _, guard := _ }) (v := ?_) rfl (by kernel_rfl) (by kernel_rfl) (by kernel_rfl) (fun _ _ _ h => h) (Or.inl ⟨by kernel_rfl, ?_⟩) hH0 ?_
                              rotate_left
                              · (intro w hSw; (try dsimp only at hSw); go_simp; first | done | with_reducible rfl)
                              try simp only [Act.put, List.setIfInBounds_toArray, List.set_cons_zero, List.set_cons_succ]
                              refine wpAnyH_take (i := 6) (oi := { dst := some 68, op := _, type := _, pos := _, after := _, guard := _ }) (v := ?_) rfl (by kernel_rfl) (by kernel_rfl) (by kernel_rfl) (fun _ _ _ h => h) (Or.inl ⟨by kernel_rfl, ?_⟩) hH0 ?_
                              rotate_left
                              · (intro w hSw; (try dsimp only at hSw); go_simp; first | done | with_reducible rfl)
                              try simp only [Act.put, List.setIfInBounds_toArray, List.set_cons_zero, List.set_cons_succ]
                              refine wpAnyH_take (i := 7) (oi := { dst := some 69, op := _, type := _, pos := _, after := _, guard := _ }) (v := ?_) rfl (by kernel_rfl) (by kernel_rfl) (by kernel_rfl) (fun _ _ _ h => h) (Or.inl ⟨by kernel_rfl, ?_⟩) hH0 ?_
                              rotate_left
                              · (intro w hSw; (try dsimp only at hSw); go_simp; first | done | with_reducible rfl)
                              try simp only [Act.put, List.setIfInBounds_toArray, List.set_cons_zero, List.set_cons_succ]
                              refine wpAnyH_take (i := 8) (oi := { dst := some 70, op := _, type := _, pos := _, after := _, guard := _ }) (v := ?_) rfl (by kernel_rfl) (by kernel_rfl) (by kernel_rfl) (fun _ _ _ h => h) (Or.inl ⟨by kernel_rfl, ?_⟩) hH0 ?_
                              rotate_left
                              · (intro w hSw; (try dsimp only at hSw); go_simp; first | done | with_reducible rfl)
                              try simp only [Act.put, List.setIfInBounds_toArray, List.set_cons_zero, List.set_cons_succ]
                              refine wpAnyH_take (i := 9) (oi := { dst := some 71, op := _, type := _, pos := _, after := _, guard := _ }) (v := ?_) rfl (by kernel_rfl) (by kernel_rfl) (by kernel_rfl) (fun _ _ _ h => h) (Or.inl ⟨by kernel_rfl, ?_⟩) hH0 ?_
                              rotate_left
                              · (intro w hSw; (try dsimp only at hSw); go_simp; first | done | with_reducible rfl)
                              try simp only [Act.put, List.setIfInBounds_toArray, List.set_cons_zero, List.set_cons_succ]
                              refine wpAnyH_take (i := 10) (oi := { dst := some 72, op := _, type := _, pos := _, after := _, guard := _ }) (v := ?_) rfl (by kernel_rfl) (by kernel_rfl) (by kernel_rfl) (fun _ _ _ h => h) (Or.inl ⟨by kernel_rfl, ?_⟩) hH0 ?_
                              rotate_left
                              · (intro w hSw; (try dsimp only at hSw); go_simp; first | done | with_reducible rfl)
                              try simp only [Act.put, List.setIfInBounds_toArray, List.set_cons_zero, List.set_cons_succ]
                              refine wpAnyH_ready (rs := [11]) (by kernel_rfl) (by simp) ?_
                              refine AllReadyH.cons (o := { dst := some 73, op := _, type := _, pos := _, after := _, guard := _ }) rfl (fun K hK => ?_) ?_
                              · rw [if_pos (by kernel_rfl)]
                                go_simp
                                refine (HBE.out _ hH0.1).mono ?_
                                rintro e wy11 ⟨rfl, hby11⟩
                                refine hK.out _ _ (⟨hH0.1.trans (hby11.mono hH0.1.size), cellsAt_below hH0.2.1 hby11, cellsAt_below hH0.2.2.1 hby11, cellsAt_below hH0.2.2.2.1 hby11, cellsAt_below hH0.2.2.2.2.1 hby11, cellsAt_below hH0.2.2.2.2.2.1 hby11, cellsAt_below hH0.2.2.2.2.2.2.1 hby11, cellsAt_below hH0.2.2.2.2.2.2.2.1 hby11, cellsAt_below hH0.2.2.2.2.2.2.2.2 hby11⟩) (fun hH1 => ?_)
                                clear hK K
                                try simp only [List.setIfInBounds_toArray, List.set_cons_zero, List.set_cons_succ]
                                refine wpAnyH_take (i := 12) (oi := { dst := some 74, op := _, type := _, pos := _, after := _, guard := _ }) (v := ?_) rfl (by kernel_rfl) (by kernel_rfl) (by kernel_rfl) (fun _ _ _ h => h) (Or.inl ⟨by kernel_rfl, ?_⟩) hH1 ?_
                                rotate_left
                                · (intro w hSw; (try dsimp only at hSw); go_simp; first | done | with_reducible rfl)
                                try simp only [Act.put, List.setIfInBounds_toArray, List.set_cons_zero, List.set_cons_succ]
                                refine wpAnyH_ready (rs := [13]) (by kernel_rfl) (by simp) ?_
                                refine AllReadyH.cons (o := { dst := some 75, op := _, type := _, pos := _, after := _, guard := _ }) rfl (fun K hK => ?_) ?_
                                · rw [if_pos (by kernel_rfl)]
                                  go_simp
                                  refine (HOK.out _).mono ?_
                                  rintro e wq ⟨rfl, rfl⟩
                                  refine hK.out _ _ (hH1) (fun hH2 => ?_)
                                  clear hK K
                                  try simp only [List.setIfInBounds_toArray, List.set_cons_zero, List.set_cons_succ]
                                  refine wpAnyH_done (by kernel_rfl) ?_ _
                                  go_wp2_with fail
                                  go_meet
                                  exact ⟨hH2.1, HLS.out⟩
                                exact AllReadyH.nil
                              exact AllReadyH.nil
                            | false =>
                              have HQ : Hid (q = ([], 50)) := Lib.hid (HTS.out.2.1 HBF2.out (tabsL_bad l n i HIN.out ts HTAB.out (.inl (by unfold badTab; rw [hgd, htx, ← hlt]; simp [show 0 < i by omega]))))
                              clear h0 hi1 hil hcs hts hy hpc hlt hgd htx hby hbx t4 t5
                              refine wp_region_held_drew (S := fun w' => Below wt.heap.size wt w' ∧ w'.cell? ⟨X, 0, none⟩ = some (.int .u8 x0) ∧ w'.cell? ⟨X, 1, none⟩ = some (.int .u8 x1) ∧ w'.cell? ⟨X, 2, none⟩ = some (.int .u8 x2) ∧ w'.cell? ⟨X, 3, none⟩ = some (.int .u8 x3) ∧ w'.cell? ⟨gT, i1 * 6, none⟩ = some (.int .u8 y0) ∧ w'.cell? ⟨gT, i1 * 6 + 1, none⟩ = some (.int .u8 y1) ∧ w'.cell? ⟨gT, i1 * 6 + 2, none⟩ = some (.int .u8 y2) ∧ w'.cell? ⟨gT, i1 * 6 + 3, none⟩ = some (.int .u8 y3)) (by kernel_rfl) (⟨(Below.refl _ wt).drew, t0, t1, t2, t3, p0, p1, p2, p3⟩) (fun hH0 => ?_)
                              change wpAnyH _ _ _ _ _ 14 #[false, false, false, false, false, false, false, false, false, false, false, false, false, false] _ _
                              refine wpAnyH_take (i := 0) (oi := { dst := some 62, op := _, type := _, pos := _, after := _, guard := _ }) (v := ?_) rfl (by kernel_rfl) (by kernel_rfl) (by kernel_rfl) (fun _ _ _ h => h) (Or.inl ⟨by kernel_rfl, ?_⟩) hH0 ?_
                              rotate_left
                              · (intro w hSw; (try dsimp only at hSw); go_simp; first | done | with_reducible rfl)
                              try simp only [Act.put, List.setIfInBounds_toArray, List.set_cons_zero, List.set_cons_succ]
                              refine wpAnyH_take (i := 1) (oi := { dst := some 63, op := _, type := _, pos := _, after := _, guard := _ }) (v := ?_) rfl (by kernel_rfl) (by kernel_rfl) (by kernel_rfl) (fun _ _ _ h => h) (Or.inl ⟨by kernel_rfl, ?_⟩) hH0 ?_
                              rotate_left
                              · (intro w hSw; (try dsimp only at hSw); go_simp; first | done | with_reducible rfl)
                              try simp only [Act.put, List.setIfInBounds_toArray, List.set_cons_zero, List.set_cons_succ]
                              refine wpAnyH_take (i := 2) (oi := { dst := some 64, op := _, type := _, pos := _, after := _, guard := _ }) (v := ?_) rfl (by kernel_rfl) (by kernel_rfl) (by kernel_rfl) (fun _ _ _ h => h) (Or.inl ⟨by kernel_rfl, ?_⟩) hH0 ?_
                              rotate_left
                              · (intro w hSw; (try dsimp only at hSw); go_simp; first | done | with_reducible rfl)
                              try simp only [Act.put, List.setIfInBounds_toArray, List.set_cons_zero, List.set_cons_succ]
                              refine wpAnyH_take (i := 3) (oi := { dst := some 65, op := _, type := _, pos := _, after := _, guard := _ }) (v := ?_) rfl (by kernel_rfl) (by kernel_rfl) (by kernel_rfl) (fun _ _ _ h => h) (Or.inl ⟨by kernel_rfl, ?_⟩) hH0 ?_
                              rotate_left
                              · (intro w hSw; (try dsimp only at hSw); go_simp; first | done | with_reducible rfl)
                              try simp only [Act.put, List.setIfInBounds_toArray, List.set_cons_zero, List.set_cons_succ]
                              refine wpAnyH_take (i := 4) (oi := { dst := some 66, op := _, type := _, pos := _, after := _, guard := _ }) (v := ?_) rfl (by kernel_rfl) (by kernel_rfl) (by kernel_rfl) (fun _ _ _ h => h) (Or.inl ⟨by kernel_rfl, ?_⟩) hH0 ?_
                              rotate_left
                              · (intro w hSw; (try dsimp only at hSw); go_simp; first | done | with_reducible rfl)
                              try simp only [Act.put, List.setIfInBounds_toArray, List.set_cons_zero, List.set_cons_succ]
                              refine wpAnyH_take (i := 5) (oi := { dst := some 67, op := _, type := _, pos := _, after := _, guard := _ }) (v := ?_) rfl (by kernel_rfl) (by kernel_rfl) (by kernel_rfl) (fun _ _ _ h => h) (Or.inl ⟨by kernel_rfl, ?_⟩) hH0 ?_
                              rotate_left
                              · (intro w hSw; (try dsimp only at hSw); go_simp; first | done | with_reducible rfl)
                              try simp only [Act.put, List.setIfInBounds_toArray, List.set_cons_zero, List.set_cons_succ]
                              refine wpAnyH_take (i := 6) (oi := { dst := some 68, op := _, type := _, pos := _, after := _, guard := _ }) (v := ?_) rfl (by kernel_rfl) (by kernel_rfl) (by kernel_rfl) (fun _ _ _ h => h) (Or.inl ⟨by kernel_rfl, ?_⟩) hH0 ?_
                              rotate_left
                              · (intro w hSw; (try dsimp only at hSw); go_simp; first | done | with_reducible rfl)
                              try simp only [Act.put, List.setIfInBounds_toArray, List.set_cons_zero, List.set_cons_succ]
                              refine wpAnyH_take (i := 7) (oi := { dst := some 69, op := _, type := _, pos := _, after := _, guard := _ }) (v := ?_) rfl (by kernel_rfl) (by kernel_rfl) (by kernel_rfl) (fun _ _ _ h => h) (Or.inl ⟨by kernel_rfl, ?_⟩) hH0 ?_
                              rotate_left
                              · (intro w hSw; (try dsimp only at hSw); go_simp; first | done | with_reducible rfl)
                              try simp only [Act.put, List.setIfInBounds_toArray, List.set_cons_zero, List.set_cons_succ]
                              refine wpAnyH_take (i := 8) (oi := { dst := some 70, op := _, type := _, pos := _, after := _, guard := _ }) (v := ?_) rfl (by kernel_rfl) (by kernel_rfl) (by kernel_rfl) (fun _ _ _ h => h) (Or.inl ⟨by kernel_rfl, ?_⟩) hH0 ?_
                              rotate_left
                              · (intro w hSw; (try dsimp only at hSw); go_simp; first | done | with_reducible rfl)
                              try simp only [Act.put, List.setIfInBounds_toArray, List.set_cons_zero, List.set_cons_succ]
                              refine wpAnyH_take (i := 9) (oi := { dst := some 71, op := _, type := _, pos := _, after := _, guard := _ }) (v := ?_) rfl (by kernel_rfl) (by kernel_rfl) (by kernel_rfl) (fun _ _ _ h => h) (Or.inl ⟨by kernel_rfl, ?_⟩) hH0 ?_
                              rotate_left
                              · (intro w hSw; (try dsimp only at hSw); go_simp; first | done | with_reducible rfl)
                              try simp only [Act.put, List.setIfInBounds_toArray, List.set_cons_zero, List.set_cons_succ]
                              refine wpAnyH_take (i := 10) (oi := { dst := some 72, op := _, type := _, pos := _, after := _, guard := _ }) (v := ?_) rfl (by kernel_rfl) (by kernel_rfl) (by kernel_rfl) (fun _ _ _ h => h) (Or.inl ⟨by kernel_rfl, ?_⟩) hH0 ?_
                              rotate_left
                              · (intro w hSw; (try dsimp only at hSw); go_simp; first | done | with_reducible rfl)
                              try simp only [Act.put, List.setIfInBounds_toArray, List.set_cons_zero, List.set_cons_succ]
                              refine wpAnyH_ready (rs := [11]) (by kernel_rfl) (by simp) ?_
                              refine AllReadyH.cons (o := { dst := some 73, op := _, type := _, pos := _, after := _, guard := _ }) rfl (fun K hK => ?_) ?_
                              · rw [if_pos (by kernel_rfl)]
                                go_simp
                                refine (HBE.out _ hH0.1).mono ?_
                                rintro e wy11 ⟨rfl, hby11⟩
                                refine hK.out _ _ (⟨hH0.1.trans (hby11.mono hH0.1.size), cellsAt_below hH0.2.1 hby11, cellsAt_below hH0.2.2.1 hby11, cellsAt_below hH0.2.2.2.1 hby11, cellsAt_below hH0.2.2.2.2.1 hby11, cellsAt_below hH0.2.2.2.2.2.1 hby11, cellsAt_below hH0.2.2.2.2.2.2.1 hby11, cellsAt_below hH0.2.2.2.2.2.2.2.1 hby11, cellsAt_below hH0.2.2.2.2.2.2.2.2 hby11⟩) (fun hH1 => ?_)
                                clear hK K
                                try simp only [List.setIfInBounds_toArray, List.set_cons_zero, List.set_cons_succ]
                                refine wpAnyH_take (i := 12) (oi := { dst := some 74, op := _, type := _, pos := _, after := _, guard := _ }) (v := ?_) rfl (by kernel_rfl) (by kernel_rfl) (by kernel_rfl) (fun _ _ _ h => h) (Or.inl ⟨by kernel_rfl, ?_⟩) hH1 ?_
                                rotate_left
                                · (intro w hSw; (try dsimp only at hSw); go_simp; first | done | with_reducible rfl)
                                try simp only [Act.put, List.setIfInBounds_toArray, List.set_cons_zero, List.set_cons_succ]
                                refine wpAnyH_ready (rs := [13]) (by kernel_rfl) (by simp) ?_
                                refine AllReadyH.cons (o := { dst := some 75, op := _, type := _, pos := _, after := _, guard := _ }) rfl (fun K hK => ?_) ?_
                                · rw [if_pos (by kernel_rfl)]
                                  go_simp
                                  refine (HNO.out _).mono ?_
                                  rintro e wq ⟨rfl, rfl⟩
                                  exact ⟨rfl, HBC.out.trans (hH1.1.mono HBC.out.size), .inr ⟨HQ.out, rfl⟩⟩
                                exact AllReadyH.nil
                              exact AllReadyH.nil
                        case rest =>
                          obtain ⟨hb2, hord⟩ := hcut
                          have HBT := Lib.hid HBC.out
                          have HBX := Lib.hid hb2
                          have HORD := Lib.hid hord
                          have HBC := Lib.hid (HBT.out.trans (hb2.mono HBT.out.size))
                          obtain ⟨t0, t1, t2, t3, t4, t5⟩ := HT0.out
                          have t0 := cellsAt_below t0 hb2
                          have t1 := cellsAt_below t1 hb2
                          have t2 := cellsAt_below t2 hb2
                          have t3 := cellsAt_below t3 hb2
                          have t4 := cellsAt_below t4 hb2
                          have t5 := cellsAt_below t5 hb2
                          have HT1 := Lib.hid (And.intro t0 (And.intro t1 (And.intro t2 (And.intro t3 (And.intro t4 t5)))))
                          clear hb2 hord
                          obtain ⟨hat, hi16, hN16, hpb, hmb⟩ := HFX.out
                          have HBGN : Hid (bg = 12 + 16 * n) := HBGE
                          obtain ⟨pm, hpm⟩ : ∃ pm, pm = p % 4 := ⟨_, rfl⟩
                          obtain ⟨pe, hpe⟩ : ∃ pe, pe = p + m := ⟨_, rfl⟩
                          have qr : IntKind.i64.wrap ((p : Int).tmod 4) = (pm : Int) := by rw [IntKind.wrap_i64, Int.tmod_eq_emod_of_nonneg (Int.natCast_nonneg _)]; omega
                          have qr2 : ((p : Int).tmod 4) = (pm : Int) := by rw [Int.tmod_eq_emod_of_nonneg (Int.natCast_nonneg _)]; omega
                          have qe : IntKind.i64.wrap ((p : Int) + (m : Int)) = (pe : Int) := by rw [IntKind.wrap_i64]; omega
                          by_cases g1 : pm = 0
                          · have bm : ((pm : Int) == 0) = true := by simp [g1]
                            by_cases g2 : bg ≤ p
                            · have b2 : ((bg : Int) ≤ (p : Int)) = True := eq_true (by omega)
                              by_cases g3 : pe ≤ N
                              · have b3 : ((pe : Int) ≤ (N : Int)) = True := eq_true (by omega)
                                have HOK3 := Lib.hid (And.intro g1 (And.intro g2 (And.intro g3 (And.intro hpm hpe))))
                                clear g1 hpm hpe hat hi16 hN16 hpb hmb g2 g3
                                go_upto_region 12 with fail
                                refine wp_region_held_drew (S := fun w' => Below wc.heap.size wc w' ∧ w'.cell? ⟨X, 4, none⟩ = some (.int .i64 (p : Int)) ∧ w'.cell? ⟨X, 5, none⟩ = some (.int .i64 (m : Int))) (by kernel_rfl) (⟨(Below.refl _ wc).drew, t4, t5⟩) (fun hH0 => ?_)
                                change wpAnyH _ _ _ _ _ 22 #[false, false, false, false, false, false, false, false, false, false, false, false, false, false, false, false, false, false, false, false, false, false] _ _
                                refine wpAnyH_take (i := 0) (oi := { dst := some 76, op := _, type := _, pos := _, after := _, guard := _ }) (v := ?_) rfl (by kernel_rfl) (by kernel_rfl) (by kernel_rfl) (fun _ _ _ h => h) (Or.inl ⟨by kernel_rfl, ?_⟩) hH0 ?_
                                rotate_left
                                · (intro w hSw; (try dsimp only at hSw); go_simp; first | done | with_reducible rfl)
                                try simp only [Act.put, List.setIfInBounds_toArray, List.set_cons_zero, List.set_cons_succ]
                                refine wpAnyH_take (i := 1) (oi := { dst := some 77, op := _, type := _, pos := _, after := _, guard := _ }) (v := ?_) rfl (by kernel_rfl) (by kernel_rfl) (by kernel_rfl) (fun _ _ _ h => h) (Or.inl ⟨by kernel_rfl, ?_⟩) hH0 ?_
                                rotate_left
                                · (intro w hSw; (try dsimp only at hSw); go_simp; first | done | with_reducible rfl)
                                try simp only [Act.put, List.setIfInBounds_toArray, List.set_cons_zero, List.set_cons_succ]
                                refine wpAnyH_take (i := 2) (oi := { dst := some 78, op := _, type := _, pos := _, after := _, guard := _ }) (v := ?_) rfl (by kernel_rfl) (by kernel_rfl) (by kernel_rfl) (fun _ _ _ h => h) (Or.inl ⟨by kernel_rfl, ?_⟩) hH0 ?_
                                rotate_left
                                · (intro w hSw; (try dsimp only at hSw); go_simp; first | done | with_reducible rfl)
                                try simp only [Act.put, List.setIfInBounds_toArray, List.set_cons_zero, List.set_cons_succ]
                                refine wpAnyH_take (i := 3) (oi := { dst := some 79, op := _, type := _, pos := _, after := _, guard := _ }) (v := ?_) rfl (by kernel_rfl) (by kernel_rfl) (by kernel_rfl) (fun _ _ _ h => h) (Or.inl ⟨by kernel_rfl, ?_⟩) hH0 ?_
                                rotate_left
                                · (intro w hSw; (try dsimp only at hSw); go_simp; first | done | with_reducible rfl)
                                try simp only [Act.put, List.setIfInBounds_toArray, List.set_cons_zero, List.set_cons_succ]
                                refine wpAnyH_take (i := 4) (oi := { dst := some 80, op := _, type := _, pos := _, after := _, guard := _ }) (v := ?_) rfl (by kernel_rfl) (by kernel_rfl) (by kernel_rfl) (fun _ _ _ h => h) (Or.inl ⟨by kernel_rfl, ?_⟩) hH0 ?_
                                rotate_left
                                · (intro w hSw; (try dsimp only at hSw); go_simp; first | done | with_reducible rfl)
                                try simp only [Act.put, List.setIfInBounds_toArray, List.set_cons_zero, List.set_cons_succ]
                                refine wpAnyH_take (i := 5) (oi := { dst := some 81, op := _, type := _, pos := _, after := _, guard := _ }) (v := ?_) rfl (by kernel_rfl) (by kernel_rfl) (by kernel_rfl) (fun _ _ _ h => h) (Or.inl ⟨by kernel_rfl, ?_⟩) hH0 ?_
                                rotate_left
                                · (intro w hSw; (try dsimp only at hSw); go_simp; first | done | with_reducible rfl)
                                try simp only [Act.put, List.setIfInBounds_toArray, List.set_cons_zero, List.set_cons_succ]
                                refine wpAnyH_take (i := 6) (oi := { dst := some 82, op := _, type := _, pos := _, after := _, guard := _ }) (v := ?_) rfl (by kernel_rfl) (by kernel_rfl) (by kernel_rfl) (fun _ _ _ h => h) (Or.inl ⟨by kernel_rfl, ?_⟩) hH0 ?_
                                rotate_left
                                · (intro w hSw; (try dsimp only at hSw); go_simp; first | done | with_reducible rfl)
                                try simp only [Act.put, List.setIfInBounds_toArray, List.set_cons_zero, List.set_cons_succ]
                                refine wpAnyH_take (i := 7) (oi := { dst := some 83, op := _, type := _, pos := _, after := _, guard := _ }) (v := ?_) rfl (by kernel_rfl) (by kernel_rfl) (by kernel_rfl) (fun _ _ _ h => h) (Or.inl ⟨by kernel_rfl, ?_⟩) hH0 ?_
                                rotate_left
                                · (intro w hSw; (try dsimp only at hSw); go_simp; first | done | with_reducible rfl)
                                try simp only [Act.put, List.setIfInBounds_toArray, List.set_cons_zero, List.set_cons_succ]
                                refine wpAnyH_ready (rs := [8]) (by kernel_rfl) (by simp) ?_
                                refine AllReadyH.cons (o := { dst := some 84, op := _, type := _, pos := _, after := _, guard := _ }) rfl (fun K hK => ?_) ?_
                                · rw [if_pos (by kernel_rfl)]
                                  go_simp
                                  refine (HBG.out _).mono ?_
                                  rintro e wq ⟨rfl, rfl⟩
                                  refine hK.out _ _ (hH0) (fun hH1 => ?_)
                                  clear hK K
                                  try simp only [List.setIfInBounds_toArray, List.set_cons_zero, List.set_cons_succ]
                                  refine wpAnyH_take (i := 9) (oi := { dst := some 85, op := _, type := _, pos := _, after := _, guard := _ }) (v := ?_) rfl (by kernel_rfl) (by kernel_rfl) (by kernel_rfl) (fun _ _ _ h => h) (Or.inl ⟨by kernel_rfl, ?_⟩) hH1 ?_
                                  rotate_left
                                  · (intro w hSw; (try dsimp only at hSw); go_simp; first | done | with_reducible rfl)
                                  try simp only [Act.put, List.setIfInBounds_toArray, List.set_cons_zero, List.set_cons_succ]
                                  refine wpAnyH_take (i := 10) (oi := { dst := some 86, op := _, type := _, pos := _, after := _, guard := _ }) (v := ?_) rfl (by kernel_rfl) (by kernel_rfl) (by kernel_rfl) (fun _ _ _ h => h) (Or.inl ⟨by kernel_rfl, ?_⟩) hH1 ?_
                                  rotate_left
                                  · (intro w hSw; (try dsimp only at hSw); go_simp; first | done | with_reducible rfl)
                                  try simp only [Act.put, List.setIfInBounds_toArray, List.set_cons_zero, List.set_cons_succ]
                                  refine wpAnyH_take (i := 11) (oi := { dst := some 87, op := _, type := _, pos := _, after := _, guard := _ }) (v := ?_) rfl (by kernel_rfl) (by kernel_rfl) (by kernel_rfl) (fun _ _ _ h => h) (Or.inl ⟨by kernel_rfl, ?_⟩) hH1 ?_
                                  rotate_left
                                  · (intro w hSw; (try dsimp only at hSw); go_simp; first | done | with_reducible rfl)
                                  try simp only [Act.put, List.setIfInBounds_toArray, List.set_cons_zero, List.set_cons_succ]
                                  refine wpAnyH_take (i := 12) (oi := { dst := some 88, op := _, type := _, pos := _, after := _, guard := _ }) (v := ?_) rfl (by kernel_rfl) (by kernel_rfl) (by kernel_rfl) (fun _ _ _ h => h) (Or.inl ⟨by kernel_rfl, ?_⟩) hH1 ?_
                                  rotate_left
                                  · (intro w hSw; (try dsimp only at hSw); go_simp; first | done | with_reducible rfl)
                                  try simp only [Act.put, List.setIfInBounds_toArray, List.set_cons_zero, List.set_cons_succ]
                                  refine wpAnyH_take (i := 13) (oi := { dst := some 89, op := _, type := _, pos := _, after := _, guard := _ }) (v := ?_) rfl (by kernel_rfl) (by kernel_rfl) (by kernel_rfl) (fun _ _ _ h => h) (Or.inl ⟨by kernel_rfl, ?_⟩) hH1 ?_
                                  rotate_left
                                  · (intro w hSw; (try dsimp only at hSw); go_simp; first | done | with_reducible rfl)
                                  try simp only [Act.put, List.setIfInBounds_toArray, List.set_cons_zero, List.set_cons_succ]
                                  refine wpAnyH_take (i := 14) (oi := { dst := some 90, op := _, type := _, pos := _, after := _, guard := _ }) (v := ?_) rfl (by kernel_rfl) (by kernel_rfl) (by kernel_rfl) (fun _ _ _ h => h) (Or.inl ⟨by kernel_rfl, ?_⟩) hH1 ?_
                                  rotate_left
                                  · (intro w hSw; (try dsimp only at hSw); go_simp; first | done | with_reducible rfl)
                                  try simp only [Act.put, List.setIfInBounds_toArray, List.set_cons_zero, List.set_cons_succ]
                                  refine wpAnyH_take (i := 15) (oi := { dst := some 91, op := _, type := _, pos := _, after := _, guard := _ }) (v := ?_) rfl (by kernel_rfl) (by kernel_rfl) (by kernel_rfl) (fun _ _ _ h => h) (Or.inl ⟨by kernel_rfl, ?_⟩) hH1 ?_
                                  rotate_left
                                  · (intro w hSw; (try dsimp only at hSw); go_simp; first | done | with_reducible rfl)
                                  try simp only [Act.put, List.setIfInBounds_toArray, List.set_cons_zero, List.set_cons_succ]
                                  refine wpAnyH_take (i := 16) (oi := { dst := some 92, op := _, type := _, pos := _, after := _, guard := _ }) (v := ?_) rfl (by kernel_rfl) (by kernel_rfl) (by kernel_rfl) (fun _ _ _ h => h) (Or.inl ⟨by kernel_rfl, ?_⟩) hH1 ?_
                                  rotate_left
                                  · (intro w hSw; (try dsimp only at hSw); go_simp; first | done | with_reducible rfl)
                                  try simp only [Act.put, List.setIfInBounds_toArray, List.set_cons_zero, List.set_cons_succ]
                                  refine wpAnyH_take (i := 17) (oi := { dst := some 93, op := _, type := _, pos := _, after := _, guard := _ }) (v := ?_) rfl (by kernel_rfl) (by kernel_rfl) (by kernel_rfl) (fun _ _ _ h => h) (Or.inl ⟨by kernel_rfl, ?_⟩) hH1 ?_
                                  rotate_left
                                  · (intro w hSw; (try dsimp only at hSw); go_simp; first | done | with_reducible rfl)
                                  try simp only [Act.put, List.setIfInBounds_toArray, List.set_cons_zero, List.set_cons_succ]
                                  refine wpAnyH_take (i := 18) (oi := { dst := some 94, op := _, type := _, pos := _, after := _, guard := _ }) (v := ?_) rfl (by kernel_rfl) (by kernel_rfl) (by kernel_rfl) (fun _ _ _ h => h) (Or.inl ⟨by kernel_rfl, ?_⟩) hH1 ?_
                                  rotate_left
                                  · (intro w hSw; (try dsimp only at hSw); go_simp; first | done | with_reducible rfl)
                                  try simp only [Act.put, List.setIfInBounds_toArray, List.set_cons_zero, List.set_cons_succ]
                                  refine wpAnyH_take (i := 19) (oi := { dst := some 95, op := _, type := _, pos := _, after := _, guard := _ }) (v := ?_) rfl (by kernel_rfl) (by kernel_rfl) (by kernel_rfl) (fun _ _ _ h => h) (Or.inl ⟨by kernel_rfl, ?_⟩) hH1 ?_
                                  rotate_left
                                  · (intro w hSw; (try dsimp only at hSw); go_simp; first | done | with_reducible rfl)
                                  try simp only [Act.put, List.setIfInBounds_toArray, List.set_cons_zero, List.set_cons_succ]
                                  refine wpAnyH_take (i := 20) (oi := { dst := some 96, op := _, type := _, pos := _, after := _, guard := _ }) (v := ?_) rfl (by kernel_rfl) (by kernel_rfl) (by kernel_rfl) (fun _ _ _ h => h) (Or.inl ⟨by kernel_rfl, ?_⟩) hH1 ?_
                                  rotate_left
                                  · (intro w hSw; (try dsimp only at hSw); go_simp; first | done | with_reducible rfl)
                                  try simp only [Act.put, List.setIfInBounds_toArray, List.set_cons_zero, List.set_cons_succ]
                                  refine wpAnyH_ready (rs := [21]) (by kernel_rfl) (by simp) ?_
                                  refine AllReadyH.cons (o := { dst := some 97, op := _, type := _, pos := _, after := _, guard := _ }) rfl (fun K hK => ?_) ?_
                                  · rw [if_pos (by kernel_rfl)]
                                    go_simp
                                    refine (HOK.out _).mono ?_
                                    rintro e wq ⟨rfl, rfl⟩
                                    refine hK.out _ _ (hH1) (fun hH2 => ?_)
                                    clear hK K
                                    try simp only [List.setIfInBounds_toArray, List.set_cons_zero, List.set_cons_succ]
                                    refine wpAnyH_done (by kernel_rfl) ?_ _
                                    have HBRC := Lib.hid (HBCR.out.trans (HBX.out.mono HBCR.out.size))
                                    have HROW := Lib.hid ((HOW.out.read H4.out).below HBRC.out)
                                    have HWD := Lib.hid (hH2.1)
                                    clear hH2 t4 t5 t0 t1 t2 t3
                                    go_wp2_with fail
                                    have HN6 : Hid (i ≤ 64) := Lib.hid (by have := HIN.out; have := HNL.out; omega)
                                    go_loopg [100] i (fun k vi wq => ∃ j : Nat, j + k = i ∧ vi = .int .i64 (j : Int) ∧ (ts.take j).any (overTab (tabAt l i)) = false ∧ Below wc.heap.size wc wq)
                                    case atStart => exact ⟨0, by omega, rfl, rfl, HWD.out⟩
                                    case round =>
                                      rename World => wq
                                      obtain ⟨j, hjk, rfl, hany, hbq⟩ := hrel
                                      have HBQ := Lib.hid hbq
                                      have HANY := Lib.hid hany
                                      have HJK := Lib.hid hjk
                                      obtain ⟨t0, t1, t2, t3, t4, t5⟩ := HT1.out
                                      have t0 := cellsAt_below t0 hbq
                                      have t1 := cellsAt_below t1 hbq
                                      have t2 := cellsAt_below t2 hbq
                                      have t3 := cellsAt_below t3 hbq
                                      have t4 := cellsAt_below t4 hbq
                                      have t5 := cellsAt_below t5 hbq
                                      clear hany hjk
                                      by_cases hj : j = i
                                      · have bj : ((j : Int) < (i : Int)) = False := eq_false (by omega)
                                        have HNOV : Hid (ts.any (overTab (tabAt l i)) = false) := Lib.hid (by have := HANY.out; rw [hj, List.take_of_length_le (by have := HLEN.out; omega)] at this; exact this)
                                        have HBCQ := Lib.hid (HBC.out.trans (hbq.mono HBC.out.size))
                                        clear hj
                                        go_wp2_with fail
                                        obtain ⟨hp4, hbgp, hpeN, hpm, hpe⟩ := HOK3.out
                                        have HBQR := Lib.hid (HB.out.trans ((HBRC.out.trans (HBQ.out.mono HBRC.out.size)).mono HB.out.size))
                                        have hat4w := HAT4.out
                                        have hat := HFX.out.1
                                        have hi16 := HFX.out.2.1
                                        have hN16 := HFX.out.2.2.1
                                        have hmb := HFX.out.2.2.2.2
                                        have hpb := HFX.out.2.2.2.1
                                        have hNl := HN.out
                                        have hN6b := HL.out
                                        obtain ⟨Y, hY⟩ : ∃ Y, Y = numAt l (at4 : Int) 4 := ⟨_, rfl⟩
                                        obtain ⟨Z, hZ⟩ : ∃ Z, Z = sumTag [x0, x1, x2, x3] ((l.drop p).take (pe - p)) := ⟨_, rfl⟩
                                        obtain ⟨V, hV⟩ : ∃ V, V = cutV (some ⟨g, off, none⟩) p pe c := ⟨_, rfl⟩
                                        have hslV : ∀ W, (Instr.slice 22 (.slice (some ⟨g, off, none⟩) N c) (some (.int .i64 (p : Int))) (some (.int .i64 (pe : Int))) none).run Try.prog W = .ok V W := fun W => by rw [hV]; exact run_cut_lh W _ N c p pe (by omega) (by have := HC.out; omega)
                                        have htx : (tabAt l i).1 = [x0, x1, x2, x3] := by rw [HTA.out]
                                        have hbx : AllB [x0, x1, x2, x3] := by
                                          rw [← htx]; intro x hx
                                          simp only [tabAt, List.mem_cons, List.not_mem_nil, or_false] at hx
                                          rcases hx with rfl | rfl | rfl | rfl <;> exact getD_b HA.out _
                                        have HSU : Hid (∀ wx, Below wq.heap.size wq wx → Calls Try.prog 55 #[.agg #[.int .u8 x0, .int .u8 x1, .int .u8 x2, .int .u8 x3], V] wx fun e w' => e = .returned (.int .u32 Z) ∧ Below wx.heap.size wx w') := Lib.hid (fun wx hx => by
                                          rw [hZ, hV]
                                          exact sumP_any wx _ hbx rfl _ _ (cut_num (HV.out.below (HBCQ.out.trans (hx.mono HBCQ.out.size))) p pe (by omega) (by omega)) (piece_b HA.out _ _) (by simp; omega))
                                        have HLS : Hid (∀ wx, Below wq.heap.size wq wx → Calls Try.prog 52 #[r, .int .i64 (at4 : Int)] wx fun e w' => e = .returned (.int .u32 Y) ∧ Below wx.heap.size wx w') := Lib.hid (fun wx hx => by
                                          rw [hY]
                                          exact rdL wx r l (HR2.out.below (HBQR.out.trans (hx.mono HBQR.out.size))) HA.out (by omega) at4 (by omega))
                                        have HBT6 : Hid (badTab l n i ts = (decide (Z ≠ Y) || (decide (0 < i) && !lessL (ts.getD (i - 1) ([], 0, 0)).1 (tabAt l i).1))) := Lib.hid (by
                                          unfold badTab
                                          have e1 : (tabAt l i).2.1 = (p : Int) := by rw [HTA.out]
                                          have e2 : (tabAt l i).2.2 = (m : Int) := by rw [HTA.out]
                                          have e3 : decide ((p : Int) % 4 ≠ 0) = false := decide_eq_false (by omega)
                                          have e4 : decide ((p : Int) < 12 + 16 * (n : Int)) = false := decide_eq_false (by have := HBGE.out; omega)
                                          have e5 : allB l.length (p : Int) (m : Int) = true := by unfold allB; rw [decide_eq_true_eq]; omega
                                          rw [e1, e2, e3, e4, e5, htx, hZ, hY, hpe, hat4w, hat, hi16]
                                          simp only [Int.toNat_natCast, Nat.add_sub_cancel_left, Bool.false_or, Bool.not_true, Nat.mul_comm i 16])
                                        clear hp4 hbgp hpeN hpm hpe hat hi16 hN16 hmb hpb hNl hN6b hat4w hY hZ hV htx hbx
                                        go_upto_region 18 with fail
                                        by_cases hYZ : Z = Y
                                        · have bs : (Z == Y) = true := by simp [hYZ]
                                          have HBAD : Hid (badTab l n i ts = false) := Lib.hid (by rw [HBT6.out, HORD.out, hYZ]; simp)
                                          clear hYZ
                                          go_cut [] from 39 to 131 (fun wx => Below wq.heap.size wq wx)
                                          case first =>
                                            refine wp_region_held_drew (S := fun w' => Below wq.heap.size wq w' ∧ w'.cell? ⟨X, 0, none⟩ = some (.int .u8 x0) ∧ w'.cell? ⟨X, 1, none⟩ = some (.int .u8 x1) ∧ w'.cell? ⟨X, 2, none⟩ = some (.int .u8 x2) ∧ w'.cell? ⟨X, 3, none⟩ = some (.int .u8 x3) ∧ w'.cell? ⟨X, 4, none⟩ = some (.int .i64 (p : Int)) ∧ w'.cell? ⟨X, 5, none⟩ = some (.int .i64 (m : Int))) (by kernel_rfl) (⟨(Below.refl _ wq).drew, t0, t1, t2, t3, t4, t5⟩) (fun hH0 => ?_)
                                            change wpAnyH _ _ _ _ _ 18 #[false, false, false, false, false, false, false, false, false, false, false, false, false, false, false, false, false, false] _ _
                                            refine wpAnyH_take (i := 0) (oi := { dst := some 109, op := _, type := _, pos := _, after := _, guard := _ }) (v := ?_) rfl (by kernel_rfl) (by kernel_rfl) (by kernel_rfl) (fun _ _ _ h => h) (Or.inl ⟨by kernel_rfl, ?_⟩) hH0 ?_
                                            rotate_left
                                            · (intro w hSw; (try dsimp only at hSw); go_simp; first | done | with_reducible rfl)
                                            try simp only [Act.put, List.setIfInBounds_toArray, List.set_cons_zero, List.set_cons_succ]
                                            refine wpAnyH_take (i := 1) (oi := { dst := some 110, op := _, type := _, pos := _, after := _, guard := _ }) (v := ?_) rfl (by kernel_rfl) (by kernel_rfl) (by kernel_rfl) (fun _ _ _ h => h) (Or.inl ⟨by kernel_rfl, ?_⟩) hH0 ?_
                                            rotate_left
                                            · (intro w hSw; (try dsimp only at hSw); go_simp; first | done | with_reducible rfl)
                                            try simp only [Act.put, List.setIfInBounds_toArray, List.set_cons_zero, List.set_cons_succ]
                                            refine wpAnyH_take (i := 2) (oi := { dst := some 111, op := _, type := _, pos := _, after := _, guard := _ }) (v := ?_) rfl (by kernel_rfl) (by kernel_rfl) (by kernel_rfl) (fun _ _ _ h => h) (Or.inl ⟨by kernel_rfl, ?_⟩) hH0 ?_
                                            rotate_left
                                            · (intro w hSw; (try dsimp only at hSw); go_simp; first | done | with_reducible rfl)
                                            try simp only [Act.put, List.setIfInBounds_toArray, List.set_cons_zero, List.set_cons_succ]
                                            refine wpAnyH_take (i := 3) (oi := { dst := some 112, op := _, type := _, pos := _, after := _, guard := _ }) (v := ?_) rfl (by kernel_rfl) (by kernel_rfl) (by kernel_rfl) (fun _ _ _ h => h) (Or.inl ⟨by kernel_rfl, ?_⟩) hH0 ?_
                                            rotate_left
                                            · (intro w hSw; (try dsimp only at hSw); go_simp; first | done | with_reducible rfl)
                                            try simp only [Act.put, List.setIfInBounds_toArray, List.set_cons_zero, List.set_cons_succ]
                                            refine wpAnyH_take (i := 4) (oi := { dst := some 113, op := _, type := _, pos := _, after := _, guard := _ }) (v := ?_) rfl (by kernel_rfl) (by kernel_rfl) (by kernel_rfl) (fun _ _ _ h => h) (Or.inl ⟨by kernel_rfl, ?_⟩) hH0 ?_
                                            rotate_left
                                            · (intro w hSw; (try dsimp only at hSw); go_simp; first | done | with_reducible rfl)
                                            try simp only [Act.put, List.setIfInBounds_toArray, List.set_cons_zero, List.set_cons_succ]
                                            refine wpAnyH_take (i := 5) (oi := { dst := some 114, op := _, type := _, pos := _, after := _, guard := _ }) (v := ?_) rfl (by kernel_rfl) (by kernel_rfl) (by kernel_rfl) (fun _ _ _ h => h) (Or.inl ⟨by kernel_rfl, ?_⟩) hH0 ?_
                                            rotate_left
                                            · (intro w hSw; (try dsimp only at hSw); go_simp; first | done | with_reducible rfl)
                                            try simp only [Act.put, List.setIfInBounds_toArray, List.set_cons_zero, List.set_cons_succ]
                                            refine wpAnyH_take (i := 6) (oi := { dst := some 115, op := _, type := _, pos := _, after := _, guard := _ }) (v := ?_) rfl (by kernel_rfl) (by kernel_rfl) (by kernel_rfl) (fun _ _ _ h => h) (Or.inl ⟨by kernel_rfl, ?_⟩) hH0 ?_
                                            rotate_left
                                            · (intro w hSw; (try dsimp only at hSw); go_simp; first | done | with_reducible rfl)
                                            try simp only [Act.put, List.setIfInBounds_toArray, List.set_cons_zero, List.set_cons_succ]
                                            refine wpAnyH_take (i := 7) (oi := { dst := some 116, op := _, type := _, pos := _, after := _, guard := _ }) (v := ?_) rfl (by kernel_rfl) (by kernel_rfl) (by kernel_rfl) (fun _ _ _ h => h) (Or.inl ⟨by kernel_rfl, ?_⟩) hH0 ?_
                                            rotate_left
                                            · (intro w hSw; (try dsimp only at hSw); go_simp; first | done | with_reducible rfl)
                                            try simp only [Act.put, List.setIfInBounds_toArray, List.set_cons_zero, List.set_cons_succ]
                                            refine wpAnyH_take (i := 8) (oi := { dst := some 117, op := _, type := _, pos := _, after := _, guard := _ }) (v := ?_) rfl (by kernel_rfl) (by kernel_rfl) (by kernel_rfl) (fun _ _ _ h => h) (Or.inl ⟨by kernel_rfl, ?_⟩) hH0 ?_
                                            rotate_left
                                            · (intro w hSw; (try dsimp only at hSw); go_simp; first | done | with_reducible rfl)
                                            try simp only [Act.put, List.setIfInBounds_toArray, List.set_cons_zero, List.set_cons_succ]
                                            refine wpAnyH_take (i := 9) (oi := { dst := some 118, op := _, type := _, pos := _, after := _, guard := _ }) (v := ?_) rfl (by kernel_rfl) (by kernel_rfl) (by kernel_rfl) (fun _ _ _ h => h) (Or.inl ⟨by kernel_rfl, ?_⟩) hH0 ?_
                                            rotate_left
                                            · (intro w hSw; (try dsimp only at hSw); go_simp; first | done | with_reducible rfl)
                                            try simp only [Act.put, List.setIfInBounds_toArray, List.set_cons_zero, List.set_cons_succ]
                                            refine wpAnyH_take (i := 10) (oi := { dst := some 119, op := _, type := _, pos := _, after := _, guard := _ }) (v := ?_) rfl (by kernel_rfl) (by kernel_rfl) (by kernel_rfl) (fun _ _ _ h => h) (Or.inl ⟨by kernel_rfl, ?_⟩) hH0 ?_
                                            rotate_left
                                            · (intro w hSw; (try dsimp only at hSw); go_simp; first | done | with_reducible rfl)
                                            try simp only [Act.put, List.setIfInBounds_toArray, List.set_cons_zero, List.set_cons_succ]
                                            refine wpAnyH_take (i := 12) (oi := { dst := some 121, op := _, type := _, pos := _, after := _, guard := _ }) (v := ?_) rfl (by kernel_rfl) (by kernel_rfl) (by kernel_rfl) (fun _ _ _ h => h) (Or.inl ⟨by kernel_rfl, ?_⟩) hH0 ?_
                                            rotate_left
                                            · (intro w hSw; (try dsimp only at hSw); go_simp; first | done | with_reducible rfl)
                                            try simp only [Act.put, List.setIfInBounds_toArray, List.set_cons_zero, List.set_cons_succ]
                                            refine wpAnyH_take (i := 13) (oi := { dst := some 122, op := _, type := _, pos := _, after := _, guard := _ }) (v := ?_) rfl (by kernel_rfl) (by kernel_rfl) (by kernel_rfl) (fun _ _ _ h => h) (Or.inl ⟨by kernel_rfl, ?_⟩) hH0 ?_
                                            rotate_left
                                            · (intro w hSw; (try dsimp only at hSw); go_simp; first | done | with_reducible rfl)
                                            try simp only [Act.put, List.setIfInBounds_toArray, List.set_cons_zero, List.set_cons_succ]
                                            refine wpAnyH_take (i := 14) (oi := { dst := some 123, op := _, type := _, pos := _, after := _, guard := _ }) (v := ?_) rfl (by kernel_rfl) (by kernel_rfl) (by kernel_rfl) (fun _ _ _ h => h) (Or.inl ⟨by kernel_rfl, ?_⟩) hH0 ?_
                                            rotate_left
                                            · (intro w hSw; (try dsimp only at hSw); go_simp; first | done | with_reducible rfl)
                                            try simp only [Act.put, List.setIfInBounds_toArray, List.set_cons_zero, List.set_cons_succ]
                                            refine wpAnyH_ready (rs := [11]) (by kernel_rfl) (by simp) ?_
                                            refine AllReadyH.cons (o := { dst := some 120, op := _, type := _, pos := _, after := _, guard := _ }) rfl (fun K hK => ?_) ?_
                                            · rw [if_pos (by kernel_rfl)]
                                              go_simp
                                              refine (HSU.out _ hH0.1).mono ?_
                                              rintro e wz11 ⟨rfl, hbz11⟩
                                              refine hK.out _ _ (⟨hH0.1.trans (hbz11.mono hH0.1.size), cellsAt_below hH0.2.1 hbz11, cellsAt_below hH0.2.2.1 hbz11, cellsAt_below hH0.2.2.2.1 hbz11, cellsAt_below hH0.2.2.2.2.1 hbz11, cellsAt_below hH0.2.2.2.2.2.1 hbz11, cellsAt_below hH0.2.2.2.2.2.2 hbz11⟩) (fun hH1 => ?_)
                                              clear hK K
                                              try simp only [List.setIfInBounds_toArray, List.set_cons_zero, List.set_cons_succ]
                                              refine wpAnyH_ready (rs := [15]) (by kernel_rfl) (by simp) ?_
                                              refine AllReadyH.cons (o := { dst := some 124, op := _, type := _, pos := _, after := _, guard := _ }) rfl (fun K hK => ?_) ?_
                                              · rw [if_pos (by kernel_rfl)]
                                                go_simp
                                                refine (HLS.out _ hH1.1).mono ?_
                                                rintro e wz15 ⟨rfl, hbz15⟩
                                                refine hK.out _ _ (⟨hH1.1.trans (hbz15.mono hH1.1.size), cellsAt_below hH1.2.1 hbz15, cellsAt_below hH1.2.2.1 hbz15, cellsAt_below hH1.2.2.2.1 hbz15, cellsAt_below hH1.2.2.2.2.1 hbz15, cellsAt_below hH1.2.2.2.2.2.1 hbz15, cellsAt_below hH1.2.2.2.2.2.2 hbz15⟩) (fun hH2 => ?_)
                                                clear hK K
                                                try simp only [List.setIfInBounds_toArray, List.set_cons_zero, List.set_cons_succ]
                                                refine wpAnyH_take (i := 16) (oi := { dst := some 125, op := _, type := _, pos := _, after := _, guard := _ }) (v := ?_) rfl (by kernel_rfl) (by kernel_rfl) (by kernel_rfl) (fun _ _ _ h => h) (Or.inl ⟨by kernel_rfl, ?_⟩) hH2 ?_
                                                rotate_left
                                                · (intro w hSw; (try dsimp only at hSw); go_simp; first | done | with_reducible rfl)
                                                try simp only [Act.put, List.setIfInBounds_toArray, List.set_cons_zero, List.set_cons_succ]
                                                refine wpAnyH_ready (rs := [17]) (by kernel_rfl) (by simp) ?_
                                                refine AllReadyH.cons (o := { dst := some 126, op := _, type := _, pos := _, after := _, guard := _ }) rfl (fun K hK => ?_) ?_
                                                · rw [if_pos (by kernel_rfl)]
                                                  go_simp
                                                  refine (HOK.out _).mono ?_
                                                  rintro e wq ⟨rfl, rfl⟩
                                                  refine hK.out _ _ (hH2) (fun hH3 => ?_)
                                                  clear hK K
                                                  try simp only [List.setIfInBounds_toArray, List.set_cons_zero, List.set_cons_succ]
                                                  refine wpAnyH_done (by kernel_rfl) ?_ _
                                                  go_wp2_with fail
                                                  go_meet
                                                  exact hH3.1
                                                exact AllReadyH.nil
                                              exact AllReadyH.nil
                                            exact AllReadyH.nil
                                          case rest =>
                                            rename World => wE
                                            have HBE := Lib.hid hcut
                                            have t0 := cellsAt_below t0 hcut
                                            have t1 := cellsAt_below t1 hcut
                                            have t2 := cellsAt_below t2 hcut
                                            have t3 := cellsAt_below t3 hcut
                                            have t4 := cellsAt_below t4 hcut
                                            have t5 := cellsAt_below t5 hcut
                                            clear hcut hslV
                                            have HOE := Lib.hid (ownT_stays HOW.out (HBRC.out.trans ((HBQ.out.trans (HBE.out.mono HBQ.out.size)).mono HBRC.out.size)))
                                            have HBEW := Lib.hid (HBQR.out.trans (HBE.out.mono HBQR.out.size))
                                            have HCT6 : Hid (∀ k, k < 6 → (wE.alloc (.cells #[.int .u8 x0, .int .u8 x1, .int .u8 x2, .int .u8 x3, .int .i64 (p : Int), .int .i64 (m : Int)] 41)).cell? ⟨wE.heap.size, k, none⟩ = (cellsT ([x0, x1, x2, x3], (p : Int), (m : Int)))[k]?) := Lib.hid (fun k hk => by
                                              rw [cell_of_row _ wE.heap.size k _ _ _ (heap_alloc_new wE _)]
                                              rw [← Array.getElem?_toList]; rfl)
                                            have HSZE := Lib.hid (Nat.le_trans HBEW.out.size (Nat.le_of_lt (heap_more wE (.cells #[.int .u8 x0, .int .u8 x1, .int .u8 x2, .int .u8 x3, .int .i64 (p : Int), .int .i64 (m : Int)] 41))))
                                            have HNX : Hid (tabsL l n (i + 1) = some (ts ++ [([x0, x1, x2, x3], (p : Int), (m : Int))])) := Lib.hid (by rw [tabsL_step l n i ts HTAB.out HBAD.out HNOV.out, HTA.out])
                                            go_wp2_with (at_builtin; refine wp_append_t rfl _ _ rfl w2.heap.size _ ts rfl (ownT_stays HOE.out (below_alloc _ (Below.refl _ _))) wE.heap.size ([x0, x1, x2, x3], (p : Int), (m : Int)) rfl rfl HCT6.out (by have := HLEN.out; have := HN6.out; omega) HSZE.out ?_)
                                            intro v7 w7 how7 hk7
                                            have HNEW : Hid (TRel w2 l n (kk - 1) v7 (.int .i64 ((i + 1 : Nat) : Int)) w7) := Lib.hid ⟨v7, i + 1, _, rfl, by have := HIK.out; have := HKK.out; have := HIN.out; omega, rfl, how7, HNX.out, hk7 _ (HBEW.out.alloc HBEW.out.size _)⟩
                                            clear how7 hk7 t0 t1 t2 t3 t4 t5
                                            go_wp2_with fail
                                            go_roundg (kk - 1)
                                            case measure => have := HIK.out; have := HKK.out; have := HIN.out; omega
                                            case rel => exact HNEW.out
                                        · have bs : (Z == Y) = false := by simp [hYZ]
                                          have HQ : Hid (q = ([], 50)) := Lib.hid (HTS.out.2.1 HBF2.out (tabsL_bad l n i HIN.out ts HTAB.out (.inl (by rw [HBT6.out]; simp [hYZ]))))
                                          clear hYZ
                                          refine wp_region_held_drew (S := fun w' => Below wq.heap.size wq w' ∧ w'.cell? ⟨X, 0, none⟩ = some (.int .u8 x0) ∧ w'.cell? ⟨X, 1, none⟩ = some (.int .u8 x1) ∧ w'.cell? ⟨X, 2, none⟩ = some (.int .u8 x2) ∧ w'.cell? ⟨X, 3, none⟩ = some (.int .u8 x3) ∧ w'.cell? ⟨X, 4, none⟩ = some (.int .i64 (p : Int)) ∧ w'.cell? ⟨X, 5, none⟩ = some (.int .i64 (m : Int))) (by kernel_rfl) (⟨(Below.refl _ wq).drew, t0, t1, t2, t3, t4, t5⟩) (fun hH0 => ?_)
                                          change wpAnyH _ _ _ _ _ 18 #[false, false, false, false, false, false, false, false, false, false, false, false, false, false, false, false, false, false] _ _
                                          refine wpAnyH_take (i := 0) (oi := { dst := some 109, op := _, type := _, pos := _, after := _, guard := _ }) (v := ?_) rfl (by kernel_rfl) (by kernel_rfl) (by kernel_rfl) (fun _ _ _ h => h) (Or.inl ⟨by kernel_rfl, ?_⟩) hH0 ?_
                                          rotate_left
                                          · (intro w hSw; (try dsimp only at hSw); go_simp; first | done | with_reducible rfl)
                                          try simp only [Act.put, List.setIfInBounds_toArray, List.set_cons_zero, List.set_cons_succ]
                                          refine wpAnyH_take (i := 1) (oi := { dst := some 110, op := _, type := _, pos := _, after := _, guard := _ }) (v := ?_) rfl (by kernel_rfl) (by kernel_rfl) (by kernel_rfl) (fun _ _ _ h => h) (Or.inl ⟨by kernel_rfl, ?_⟩) hH0 ?_
                                          rotate_left
                                          · (intro w hSw; (try dsimp only at hSw); go_simp; first | done | with_reducible rfl)
                                          try simp only [Act.put, List.setIfInBounds_toArray, List.set_cons_zero, List.set_cons_succ]
                                          refine wpAnyH_take (i := 2) (oi := { dst := some 111, op := _, type := _, pos := _, after := _, guard := _ }) (v := ?_) rfl (by kernel_rfl) (by kernel_rfl) (by kernel_rfl) (fun _ _ _ h => h) (Or.inl ⟨by kernel_rfl, ?_⟩) hH0 ?_
                                          rotate_left
                                          · (intro w hSw; (try dsimp only at hSw); go_simp; first | done | with_reducible rfl)
                                          try simp only [Act.put, List.setIfInBounds_toArray, List.set_cons_zero, List.set_cons_succ]
                                          refine wpAnyH_take (i := 3) (oi := { dst := some 112, op := _, type := _, pos := _, after := _, guard := _ }) (v := ?_) rfl (by kernel_rfl) (by kernel_rfl) (by kernel_rfl) (fun _ _ _ h => h) (Or.inl ⟨by kernel_rfl, ?_⟩) hH0 ?_
                                          rotate_left
                                          · (intro w hSw; (try dsimp only at hSw); go_simp; first | done | with_reducible rfl)
                                          try simp only [Act.put, List.setIfInBounds_toArray, List.set_cons_zero, List.set_cons_succ]
                                          refine wpAnyH_take (i := 4) (oi := { dst := some 113, op := _, type := _, pos := _, after := _, guard := _ }) (v := ?_) rfl (by kernel_rfl) (by kernel_rfl) (by kernel_rfl) (fun _ _ _ h => h) (Or.inl ⟨by kernel_rfl, ?_⟩) hH0 ?_
                                          rotate_left
                                          · (intro w hSw; (try dsimp only at hSw); go_simp; first | done | with_reducible rfl)
                                          try simp only [Act.put, List.setIfInBounds_toArray, List.set_cons_zero, List.set_cons_succ]
                                          refine wpAnyH_take (i := 5) (oi := { dst := some 114, op := _, type := _, pos := _, after := _, guard := _ }) (v := ?_) rfl (by kernel_rfl) (by kernel_rfl) (by kernel_rfl) (fun _ _ _ h => h) (Or.inl ⟨by kernel_rfl, ?_⟩) hH0 ?_
                                          rotate_left
                                          · (intro w hSw; (try dsimp only at hSw); go_simp; first | done | with_reducible rfl)
                                          try simp only [Act.put, List.setIfInBounds_toArray, List.set_cons_zero, List.set_cons_succ]
                                          refine wpAnyH_take (i := 6) (oi := { dst := some 115, op := _, type := _, pos := _, after := _, guard := _ }) (v := ?_) rfl (by kernel_rfl) (by kernel_rfl) (by kernel_rfl) (fun _ _ _ h => h) (Or.inl ⟨by kernel_rfl, ?_⟩) hH0 ?_
                                          rotate_left
                                          · (intro w hSw; (try dsimp only at hSw); go_simp; first | done | with_reducible rfl)
                                          try simp only [Act.put, List.setIfInBounds_toArray, List.set_cons_zero, List.set_cons_succ]
                                          refine wpAnyH_take (i := 7) (oi := { dst := some 116, op := _, type := _, pos := _, after := _, guard := _ }) (v := ?_) rfl (by kernel_rfl) (by kernel_rfl) (by kernel_rfl) (fun _ _ _ h => h) (Or.inl ⟨by kernel_rfl, ?_⟩) hH0 ?_
                                          rotate_left
                                          · (intro w hSw; (try dsimp only at hSw); go_simp; first | done | with_reducible rfl)
                                          try simp only [Act.put, List.setIfInBounds_toArray, List.set_cons_zero, List.set_cons_succ]
                                          refine wpAnyH_take (i := 8) (oi := { dst := some 117, op := _, type := _, pos := _, after := _, guard := _ }) (v := ?_) rfl (by kernel_rfl) (by kernel_rfl) (by kernel_rfl) (fun _ _ _ h => h) (Or.inl ⟨by kernel_rfl, ?_⟩) hH0 ?_
                                          rotate_left
                                          · (intro w hSw; (try dsimp only at hSw); go_simp; first | done | with_reducible rfl)
                                          try simp only [Act.put, List.setIfInBounds_toArray, List.set_cons_zero, List.set_cons_succ]
                                          refine wpAnyH_take (i := 9) (oi := { dst := some 118, op := _, type := _, pos := _, after := _, guard := _ }) (v := ?_) rfl (by kernel_rfl) (by kernel_rfl) (by kernel_rfl) (fun _ _ _ h => h) (Or.inl ⟨by kernel_rfl, ?_⟩) hH0 ?_
                                          rotate_left
                                          · (intro w hSw; (try dsimp only at hSw); go_simp; first | done | with_reducible rfl)
                                          try simp only [Act.put, List.setIfInBounds_toArray, List.set_cons_zero, List.set_cons_succ]
                                          refine wpAnyH_take (i := 10) (oi := { dst := some 119, op := _, type := _, pos := _, after := _, guard := _ }) (v := ?_) rfl (by kernel_rfl) (by kernel_rfl) (by kernel_rfl) (fun _ _ _ h => h) (Or.inl ⟨by kernel_rfl, ?_⟩) hH0 ?_
                                          rotate_left
                                          · (intro w hSw; (try dsimp only at hSw); go_simp; first | done | with_reducible rfl)
                                          try simp only [Act.put, List.setIfInBounds_toArray, List.set_cons_zero, List.set_cons_succ]
                                          refine wpAnyH_take (i := 12) (oi := { dst := some 121, op := _, type := _, pos := _, after := _, guard := _ }) (v := ?_) rfl (by kernel_rfl) (by kernel_rfl) (by kernel_rfl) (fun _ _ _ h => h) (Or.inl ⟨by kernel_rfl, ?_⟩) hH0 ?_
                                          rotate_left
                                          · (intro w hSw; (try dsimp only at hSw); go_simp; first | done | with_reducible rfl)
                                          try simp only [Act.put, List.setIfInBounds_toArray, List.set_cons_zero, List.set_cons_succ]
                                          refine wpAnyH_take (i := 13) (oi := { dst := some 122, op := _, type := _, pos := _, after := _, guard := _ }) (v := ?_) rfl (by kernel_rfl) (by kernel_rfl) (by kernel_rfl) (fun _ _ _ h => h) (Or.inl ⟨by kernel_rfl, ?_⟩) hH0 ?_
                                          rotate_left
                                          · (intro w hSw; (try dsimp only at hSw); go_simp; first | done | with_reducible rfl)
                                          try simp only [Act.put, List.setIfInBounds_toArray, List.set_cons_zero, List.set_cons_succ]
                                          refine wpAnyH_take (i := 14) (oi := { dst := some 123, op := _, type := _, pos := _, after := _, guard := _ }) (v := ?_) rfl (by kernel_rfl) (by kernel_rfl) (by kernel_rfl) (fun _ _ _ h => h) (Or.inl ⟨by kernel_rfl, ?_⟩) hH0 ?_
                                          rotate_left
                                          · (intro w hSw; (try dsimp only at hSw); go_simp; first | done | with_reducible rfl)
                                          try simp only [Act.put, List.setIfInBounds_toArray, List.set_cons_zero, List.set_cons_succ]
                                          refine wpAnyH_ready (rs := [11]) (by kernel_rfl) (by simp) ?_
                                          refine AllReadyH.cons (o := { dst := some 120, op := _, type := _, pos := _, after := _, guard := _ }) rfl (fun K hK => ?_) ?_
                                          · rw [if_pos (by kernel_rfl)]
                                            go_simp
                                            refine (HSU.out _ hH0.1).mono ?_
                                            rintro e wz11 ⟨rfl, hbz11⟩
                                            refine hK.out _ _ (⟨hH0.1.trans (hbz11.mono hH0.1.size), cellsAt_below hH0.2.1 hbz11, cellsAt_below hH0.2.2.1 hbz11, cellsAt_below hH0.2.2.2.1 hbz11, cellsAt_below hH0.2.2.2.2.1 hbz11, cellsAt_below hH0.2.2.2.2.2.1 hbz11, cellsAt_below hH0.2.2.2.2.2.2 hbz11⟩) (fun hH1 => ?_)
                                            clear hK K
                                            try simp only [List.setIfInBounds_toArray, List.set_cons_zero, List.set_cons_succ]
                                            refine wpAnyH_ready (rs := [15]) (by kernel_rfl) (by simp) ?_
                                            refine AllReadyH.cons (o := { dst := some 124, op := _, type := _, pos := _, after := _, guard := _ }) rfl (fun K hK => ?_) ?_
                                            · rw [if_pos (by kernel_rfl)]
                                              go_simp
                                              refine (HLS.out _ hH1.1).mono ?_
                                              rintro e wz15 ⟨rfl, hbz15⟩
                                              refine hK.out _ _ (⟨hH1.1.trans (hbz15.mono hH1.1.size), cellsAt_below hH1.2.1 hbz15, cellsAt_below hH1.2.2.1 hbz15, cellsAt_below hH1.2.2.2.1 hbz15, cellsAt_below hH1.2.2.2.2.1 hbz15, cellsAt_below hH1.2.2.2.2.2.1 hbz15, cellsAt_below hH1.2.2.2.2.2.2 hbz15⟩) (fun hH2 => ?_)
                                              clear hK K
                                              try simp only [List.setIfInBounds_toArray, List.set_cons_zero, List.set_cons_succ]
                                              refine wpAnyH_take (i := 16) (oi := { dst := some 125, op := _, type := _, pos := _, after := _, guard := _ }) (v := ?_) rfl (by kernel_rfl) (by kernel_rfl) (by kernel_rfl) (fun _ _ _ h => h) (Or.inl ⟨by kernel_rfl, ?_⟩) hH2 ?_
                                              rotate_left
                                              · (intro w hSw; (try dsimp only at hSw); go_simp; first | done | with_reducible rfl)
                                              try simp only [Act.put, List.setIfInBounds_toArray, List.set_cons_zero, List.set_cons_succ]
                                              refine wpAnyH_ready (rs := [17]) (by kernel_rfl) (by simp) ?_
                                              refine AllReadyH.cons (o := { dst := some 126, op := _, type := _, pos := _, after := _, guard := _ }) rfl (fun K hK => ?_) ?_
                                              · rw [if_pos (by kernel_rfl)]
                                                go_simp
                                                refine (HNO.out _).mono ?_
                                                rintro e wq2 ⟨rfl, rfl⟩
                                                exact ⟨rfl, HBCQ.out.trans (hH2.1.mono HBCQ.out.size), .inr ⟨HQ.out, rfl⟩⟩
                                              exact AllReadyH.nil
                                            exact AllReadyH.nil
                                          exact AllReadyH.nil
                                      · have bj : ((j : Int) < (i : Int)) = True := eq_true (by have := HJK.out; omega)
                                        have j0 : (0 : Int) ≤ (j : Int) := Int.natCast_nonneg _
                                        have jN : (j : Int) < (i : Int) := by have := HJK.out; omega
                                        have qj : IntKind.i64.wrap ((j : Int) + 1) = ((j + 1 : Nat) : Int) := by rw [IntKind.wrap_i64]; have := HN6.out; omega
                                        have hjl : j < ts.length := by have := HLEN.out; omega
                                        obtain ⟨A2, c2, e2, _, _, hcs⟩ := HROW.out.below hbq
                                        injection e2 with e3 e4 e5
                                        subst e3
                                        clear e4 e5
                                        obtain ⟨gT, rfl, _, hcs⟩ := hcs (by rintro rfl; simp at hjl)
                                        have hts : ts[j] = tabAt l j := by
                                          have h := tabsL_len l n i ts HTAB.out
                                          subst h
                                          simp
                                        obtain ⟨u0, u1, u2, u3, hu⟩ : ∃ u0 u1 u2 u3, (tabAt l j).1 = [u0, u1, u2, u3] := ⟨_, _, _, _, rfl⟩
                                        have hqb := numAt_b HA.out ((12 + 16 * j + 8 : Nat) : Int) 4
                                        have hnb := numAt_b HA.out ((12 + 16 * j + 12 : Nat) : Int) 4
                                        obtain ⟨q2, hq2⟩ : ∃ q2 : Nat, (q2 : Int) = (tabAt l j).2.1 := ⟨(numAt l ((12 + 16 * j + 8 : Nat) : Int) 4).toNat, by show _ = numAt l ((12 + 16 * j + 8 : Nat) : Int) 4; omega⟩
                                        obtain ⟨m2, hm2⟩ : ∃ m2 : Nat, (m2 : Int) = (tabAt l j).2.2 := ⟨(numAt l ((12 + 16 * j + 12 : Nat) : Int) 4).toNat, by show _ = numAt l ((12 + 16 * j + 12 : Nat) : Int) 4; omega⟩
                                        have hq2b : (q2 : Int) < 4294967296 := by have h : (tabAt l j).2.1 = numAt l ((12 + 16 * j + 8 : Nat) : Int) 4 := rfl; omega
                                        have hm2b : (m2 : Int) < 4294967296 := by have h : (tabAt l j).2.2 = numAt l ((12 + 16 * j + 12 : Nat) : Int) 4 := rfl; omega
                                        have htj : tabAt l j = ([u0, u1, u2, u3], (q2 : Int), (m2 : Int)) := by rw [← hu, hq2, hm2]
                                        have hpc : ∀ k u, (#[.int .u8 u0, .int .u8 u1, .int .u8 u2, .int .u8 u3, .int .i64 (q2 : Int), .int .i64 (m2 : Int)] : Array Value)[k]? = some u → wq.cell? ⟨gT, j * 6 + k, none⟩ = some u := fun k u hk => by
                                          have hk6 : k < 6 := by
                                            rcases Nat.lt_or_ge k 6 with h | h
                                            · exact h
                                            · rw [Array.getElem?_eq_none (by simpa using h)] at hk; cases hk
                                          rw [Nat.mul_comm j 6, hcs j k hjl hk6, hts, htj]
                                          rw [← Array.getElem?_toList] at hk
                                          exact hk
                                        have v0 := hpc 0 _ rfl
                                        rw [Nat.add_zero] at v0
                                        have v1 := hpc 1 _ rfl
                                        have v2 := hpc 2 _ rfl
                                        have v3 := hpc 3 _ rfl
                                        have v4 := hpc 4 _ rfl
                                        have v5 := hpc 5 _ rfl
                                        obtain ⟨ap, hap⟩ : ∃ ap, ap = !overTab ([x0, x1, x2, x3], (p : Int), (m : Int)) ([u0, u1, u2, u3], (q2 : Int), (m2 : Int)) := ⟨_, rfl⟩
                                        have HAP : Hid (∀ wx, Calls Try.prog 54 #[.agg #[.int .u8 x0, .int .u8 x1, .int .u8 x2, .int .u8 x3, .int .i64 (p : Int), .int .i64 (m : Int)], .agg #[.int .u8 u0, .int .u8 u1, .int .u8 u2, .int .u8 u3, .int .i64 (q2 : Int), .int .i64 (m2 : Int)]] wx fun e w' => e = .returned (.bool ap) ∧ Below wx.heap.size wx w') := Lib.hid (fun wx => by rw [hap]; exact apart_any wx x0 x1 x2 x3 u0 u1 u2 u3 p m q2 m2 (by have := HFX.out.2.2.2.2; omega) (by omega) (by have := HFX.out.2.2.2.1; omega) (by omega))
                                        have HTJ : Hid (ts.take (j + 1) = ts.take j ++ [([u0, u1, u2, u3], (q2 : Int), (m2 : Int))]) := Lib.hid (by rw [List.take_succ_eq_append_getElem hjl, hts, htj])
                                        have HAPV := Lib.hid hap
                                        have HJN := Lib.hid hj
                                        have HJL := Lib.hid hjl
                                        obtain ⟨wA, hwA⟩ : ∃ wA, wq.alloc (.cells #[.int .u8 u0, .int .u8 u1, .int .u8 u2, .int .u8 u3, .int .i64 (q2 : Int), .int .i64 (m2 : Int)] 41) = wA := ⟨_, rfl⟩
                                        have HBA : Hid (Below wq.heap.size wq wA) := Lib.hid (by rw [← hwA]; exact below_alloc _ (Below.refl _ wq))
                                        have s0 := cellsAt_below t0 HBA.out
                                        have s1 := cellsAt_below t1 HBA.out
                                        have s2 := cellsAt_below t2 HBA.out
                                        have s3 := cellsAt_below t3 HBA.out
                                        have s4 := cellsAt_below t4 HBA.out
                                        have s5 := cellsAt_below t5 HBA.out
                                        have hnw : ∀ k u, (#[.int .u8 u0, .int .u8 u1, .int .u8 u2, .int .u8 u3, .int .i64 (q2 : Int), .int .i64 (m2 : Int)] : Array Value)[k]? = some u → wA.cell? ⟨wq.heap.size, k, none⟩ = some u := fun k u hk => by
                                          rw [← hwA, cell_of_row _ wq.heap.size k _ _ _ (heap_alloc_new wq _)]; exact hk
                                        have n0 := hnw 0 _ rfl
                                        have n1 := hnw 1 _ rfl
                                        have n2 := hnw 2 _ rfl
                                        have n3 := hnw 3 _ rfl
                                        have n4 := hnw 4 _ rfl
                                        have n5 := hnw 5 _ rfl
                                        clear hap hj hjl hcs hts hu hqb hnb hq2 hm2 hq2b hm2b htj hpc hnw t0 t1 t2 t3 t4 t5
                                        go_wp2_with fail
                                        refine (HAP.out _).mono ?_
                                        rintro e wB ⟨rfl, hbB⟩
                                        have HBB := Lib.hid (HBQ.out.trans ((HBA.out.trans (hbB.mono HBA.out.size)).mono HBQ.out.size))
                                        clear hbB s0 s1 s2 s3 s4 s5 n0 n1 n2 n3 n4 n5 hwA v0 v1 v2 v3 v4 v5
                                        cases ap with
                                        | true =>
                                          have HANX : Hid ((ts.take (j + 1)).any (overTab (tabAt l i)) = false) := Lib.hid (by
                                            rw [HTJ.out, List.any_append, HANY.out, HTA.out]
                                            have h := HAPV.out
                                            simpa using h.symm)
                                          go_wp2_with fail
                                          refine (HOK.out _).mono ?_
                                          rintro e wq2 ⟨rfl, rfl⟩
                                          go_wp2_with fail
                                          go_roundg (gk - 1)
                                          case measure => have := HJK.out; have := HJN.out; omega
                                          case rel => exact ⟨j + 1, by have := HJK.out; have := HJN.out; omega, rfl, HANX.out, HBB.out⟩
                                        | false =>
                                          have HQ : Hid (q = ([], 50)) := Lib.hid (HTS.out.2.1 HBF2.out (tabsL_bad l n i HIN.out ts HTAB.out (.inr (by
                                            rw [← List.take_append_drop (j + 1) ts, List.any_append, HTJ.out, List.any_append, HTA.out]
                                            have h := HAPV.out
                                            have h2 : overTab ([x0, x1, x2, x3], (p : Int), (m : Int)) ([u0, u1, u2, u3], (q2 : Int), (m2 : Int)) = true := by simpa using h
                                            simp [h2]))))
                                          go_wp2_with fail
                                          refine (HNO.out _).mono ?_
                                          rintro e wq2 ⟨rfl, rfl⟩
                                          exact ⟨rfl, HBC.out.trans (HBB.out.mono HBC.out.size), .inr ⟨HQ.out, rfl⟩⟩
                                  exact AllReadyH.nil
                                exact AllReadyH.nil
                              · have b3 : ((pe : Int) ≤ (N : Int)) = False := eq_false (by omega)
                                have HQ : Hid (q = ([], 50)) := Lib.hid (HTS.out.2.1 HBF2.out (tabsL_bad l n i HIN.out ts HTAB.out (.inl (by unfold badTab; rw [HTA.out]; have : allB l.length ((p : Nat) : Int) ((m : Nat) : Int) = false := (by unfold allB; rw [decide_eq_false_iff_not]; have := HN.out; omega); simp [this]))))
                                clear g1 hpm hpe hat hi16 hN16 hpb hmb g2 g3
                                go_upto_region 12 with fail
                                refine wp_region_held_drew (S := fun w' => Below wc.heap.size wc w' ∧ w'.cell? ⟨X, 4, none⟩ = some (.int .i64 (p : Int)) ∧ w'.cell? ⟨X, 5, none⟩ = some (.int .i64 (m : Int))) (by kernel_rfl) (⟨(Below.refl _ wc).drew, t4, t5⟩) (fun hH0 => ?_)
                                change wpAnyH _ _ _ _ _ 22 #[false, false, false, false, false, false, false, false, false, false, false, false, false, false, false, false, false, false, false, false, false, false] _ _
                                refine wpAnyH_take (i := 0) (oi := { dst := some 76, op := _, type := _, pos := _, after := _, guard := _ }) (v := ?_) rfl (by kernel_rfl) (by kernel_rfl) (by kernel_rfl) (fun _ _ _ h => h) (Or.inl ⟨by kernel_rfl, ?_⟩) hH0 ?_
                                rotate_left
                                · (intro w hSw; (try dsimp only at hSw); go_simp; first | done | with_reducible rfl)
                                try simp only [Act.put, List.setIfInBounds_toArray, List.set_cons_zero, List.set_cons_succ]
                                refine wpAnyH_take (i := 1) (oi := { dst := some 77, op := _, type := _, pos := _, after := _, guard := _ }) (v := ?_) rfl (by kernel_rfl) (by kernel_rfl) (by kernel_rfl) (fun _ _ _ h => h) (Or.inl ⟨by kernel_rfl, ?_⟩) hH0 ?_
                                rotate_left
                                · (intro w hSw; (try dsimp only at hSw); go_simp; first | done | with_reducible rfl)
                                try simp only [Act.put, List.setIfInBounds_toArray, List.set_cons_zero, List.set_cons_succ]
                                refine wpAnyH_take (i := 2) (oi := { dst := some 78, op := _, type := _, pos := _, after := _, guard := _ }) (v := ?_) rfl (by kernel_rfl) (by kernel_rfl) (by kernel_rfl) (fun _ _ _ h => h) (Or.inl ⟨by kernel_rfl, ?_⟩) hH0 ?_
                                rotate_left
                                · (intro w hSw; (try dsimp only at hSw); go_simp; first | done | with_reducible rfl)
                                try simp only [Act.put, List.setIfInBounds_toArray, List.set_cons_zero, List.set_cons_succ]
                                refine wpAnyH_take (i := 3) (oi := { dst := some 79, op := _, type := _, pos := _, after := _, guard := _ }) (v := ?_) rfl (by kernel_rfl) (by kernel_rfl) (by kernel_rfl) (fun _ _ _ h => h) (Or.inl ⟨by kernel_rfl, ?_⟩) hH0 ?_
                                rotate_left
                                · (intro w hSw; (try dsimp only at hSw); go_simp; first | done | with_reducible rfl)
                                try simp only [Act.put, List.setIfInBounds_toArray, List.set_cons_zero, List.set_cons_succ]
                                refine wpAnyH_take (i := 4) (oi := { dst := some 80, op := _, type := _, pos := _, after := _, guard := _ }) (v := ?_) rfl (by kernel_rfl) (by kernel_rfl) (by kernel_rfl) (fun _ _ _ h => h) (Or.inl ⟨by kernel_rfl, ?_⟩) hH0 ?_
                                rotate_left
                                · (intro w hSw; (try dsimp only at hSw); go_simp; first | done | with_reducible rfl)
                                try simp only [Act.put, List.setIfInBounds_toArray, List.set_cons_zero, List.set_cons_succ]
                                refine wpAnyH_take (i := 5) (oi := { dst := some 81, op := _, type := _, pos := _, after := _, guard := _ }) (v := ?_) rfl (by kernel_rfl) (by kernel_rfl) (by kernel_rfl) (fun _ _ _ h => h) (Or.inl ⟨by kernel_rfl, ?_⟩) hH0 ?_
                                rotate_left
                                · (intro w hSw; (try dsimp only at hSw); go_simp; first | done | with_reducible rfl)
                                try simp only [Act.put, List.setIfInBounds_toArray, List.set_cons_zero, List.set_cons_succ]
                                refine wpAnyH_take (i := 6) (oi := { dst := some 82, op := _, type := _, pos := _, after := _, guard := _ }) (v := ?_) rfl (by kernel_rfl) (by kernel_rfl) (by kernel_rfl) (fun _ _ _ h => h) (Or.inl ⟨by kernel_rfl, ?_⟩) hH0 ?_
                                rotate_left
                                · (intro w hSw; (try dsimp only at hSw); go_simp; first | done | with_reducible rfl)
                                try simp only [Act.put, List.setIfInBounds_toArray, List.set_cons_zero, List.set_cons_succ]
                                refine wpAnyH_take (i := 7) (oi := { dst := some 83, op := _, type := _, pos := _, after := _, guard := _ }) (v := ?_) rfl (by kernel_rfl) (by kernel_rfl) (by kernel_rfl) (fun _ _ _ h => h) (Or.inl ⟨by kernel_rfl, ?_⟩) hH0 ?_
                                rotate_left
                                · (intro w hSw; (try dsimp only at hSw); go_simp; first | done | with_reducible rfl)
                                try simp only [Act.put, List.setIfInBounds_toArray, List.set_cons_zero, List.set_cons_succ]
                                refine wpAnyH_ready (rs := [8]) (by kernel_rfl) (by simp) ?_
                                refine AllReadyH.cons (o := { dst := some 84, op := _, type := _, pos := _, after := _, guard := _ }) rfl (fun K hK => ?_) ?_
                                · rw [if_pos (by kernel_rfl)]
                                  go_simp
                                  refine (HBG.out _).mono ?_
                                  rintro e wq ⟨rfl, rfl⟩
                                  refine hK.out _ _ (hH0) (fun hH1 => ?_)
                                  clear hK K
                                  try simp only [List.setIfInBounds_toArray, List.set_cons_zero, List.set_cons_succ]
                                  refine wpAnyH_take (i := 9) (oi := { dst := some 85, op := _, type := _, pos := _, after := _, guard := _ }) (v := ?_) rfl (by kernel_rfl) (by kernel_rfl) (by kernel_rfl) (fun _ _ _ h => h) (Or.inl ⟨by kernel_rfl, ?_⟩) hH1 ?_
                                  rotate_left
                                  · (intro w hSw; (try dsimp only at hSw); go_simp; first | done | with_reducible rfl)
                                  try simp only [Act.put, List.setIfInBounds_toArray, List.set_cons_zero, List.set_cons_succ]
                                  refine wpAnyH_take (i := 10) (oi := { dst := some 86, op := _, type := _, pos := _, after := _, guard := _ }) (v := ?_) rfl (by kernel_rfl) (by kernel_rfl) (by kernel_rfl) (fun _ _ _ h => h) (Or.inl ⟨by kernel_rfl, ?_⟩) hH1 ?_
                                  rotate_left
                                  · (intro w hSw; (try dsimp only at hSw); go_simp; first | done | with_reducible rfl)
                                  try simp only [Act.put, List.setIfInBounds_toArray, List.set_cons_zero, List.set_cons_succ]
                                  refine wpAnyH_take (i := 11) (oi := { dst := some 87, op := _, type := _, pos := _, after := _, guard := _ }) (v := ?_) rfl (by kernel_rfl) (by kernel_rfl) (by kernel_rfl) (fun _ _ _ h => h) (Or.inl ⟨by kernel_rfl, ?_⟩) hH1 ?_
                                  rotate_left
                                  · (intro w hSw; (try dsimp only at hSw); go_simp; first | done | with_reducible rfl)
                                  try simp only [Act.put, List.setIfInBounds_toArray, List.set_cons_zero, List.set_cons_succ]
                                  refine wpAnyH_take (i := 12) (oi := { dst := some 88, op := _, type := _, pos := _, after := _, guard := _ }) (v := ?_) rfl (by kernel_rfl) (by kernel_rfl) (by kernel_rfl) (fun _ _ _ h => h) (Or.inl ⟨by kernel_rfl, ?_⟩) hH1 ?_
                                  rotate_left
                                  · (intro w hSw; (try dsimp only at hSw); go_simp; first | done | with_reducible rfl)
                                  try simp only [Act.put, List.setIfInBounds_toArray, List.set_cons_zero, List.set_cons_succ]
                                  refine wpAnyH_take (i := 13) (oi := { dst := some 89, op := _, type := _, pos := _, after := _, guard := _ }) (v := ?_) rfl (by kernel_rfl) (by kernel_rfl) (by kernel_rfl) (fun _ _ _ h => h) (Or.inl ⟨by kernel_rfl, ?_⟩) hH1 ?_
                                  rotate_left
                                  · (intro w hSw; (try dsimp only at hSw); go_simp; first | done | with_reducible rfl)
                                  try simp only [Act.put, List.setIfInBounds_toArray, List.set_cons_zero, List.set_cons_succ]
                                  refine wpAnyH_take (i := 14) (oi := { dst := some 90, op := _, type := _, pos := _, after := _, guard := _ }) (v := ?_) rfl (by kernel_rfl) (by kernel_rfl) (by kernel_rfl) (fun _ _ _ h => h) (Or.inl ⟨by kernel_rfl, ?_⟩) hH1 ?_
                                  rotate_left
                                  · (intro w hSw; (try dsimp only at hSw); go_simp; first | done | with_reducible rfl)
                                  try simp only [Act.put, List.setIfInBounds_toArray, List.set_cons_zero, List.set_cons_succ]
                                  refine wpAnyH_take (i := 15) (oi := { dst := some 91, op := _, type := _, pos := _, after := _, guard := _ }) (v := ?_) rfl (by kernel_rfl) (by kernel_rfl) (by kernel_rfl) (fun _ _ _ h => h) (Or.inl ⟨by kernel_rfl, ?_⟩) hH1 ?_
                                  rotate_left
                                  · (intro w hSw; (try dsimp only at hSw); go_simp; first | done | with_reducible rfl)
                                  try simp only [Act.put, List.setIfInBounds_toArray, List.set_cons_zero, List.set_cons_succ]
                                  refine wpAnyH_take (i := 16) (oi := { dst := some 92, op := _, type := _, pos := _, after := _, guard := _ }) (v := ?_) rfl (by kernel_rfl) (by kernel_rfl) (by kernel_rfl) (fun _ _ _ h => h) (Or.inl ⟨by kernel_rfl, ?_⟩) hH1 ?_
                                  rotate_left
                                  · (intro w hSw; (try dsimp only at hSw); go_simp; first | done | with_reducible rfl)
                                  try simp only [Act.put, List.setIfInBounds_toArray, List.set_cons_zero, List.set_cons_succ]
                                  refine wpAnyH_take (i := 17) (oi := { dst := some 93, op := _, type := _, pos := _, after := _, guard := _ }) (v := ?_) rfl (by kernel_rfl) (by kernel_rfl) (by kernel_rfl) (fun _ _ _ h => h) (Or.inl ⟨by kernel_rfl, ?_⟩) hH1 ?_
                                  rotate_left
                                  · (intro w hSw; (try dsimp only at hSw); go_simp; first | done | with_reducible rfl)
                                  try simp only [Act.put, List.setIfInBounds_toArray, List.set_cons_zero, List.set_cons_succ]
                                  refine wpAnyH_take (i := 18) (oi := { dst := some 94, op := _, type := _, pos := _, after := _, guard := _ }) (v := ?_) rfl (by kernel_rfl) (by kernel_rfl) (by kernel_rfl) (fun _ _ _ h => h) (Or.inl ⟨by kernel_rfl, ?_⟩) hH1 ?_
                                  rotate_left
                                  · (intro w hSw; (try dsimp only at hSw); go_simp; first | done | with_reducible rfl)
                                  try simp only [Act.put, List.setIfInBounds_toArray, List.set_cons_zero, List.set_cons_succ]
                                  refine wpAnyH_take (i := 19) (oi := { dst := some 95, op := _, type := _, pos := _, after := _, guard := _ }) (v := ?_) rfl (by kernel_rfl) (by kernel_rfl) (by kernel_rfl) (fun _ _ _ h => h) (Or.inl ⟨by kernel_rfl, ?_⟩) hH1 ?_
                                  rotate_left
                                  · (intro w hSw; (try dsimp only at hSw); go_simp; first | done | with_reducible rfl)
                                  try simp only [Act.put, List.setIfInBounds_toArray, List.set_cons_zero, List.set_cons_succ]
                                  refine wpAnyH_take (i := 20) (oi := { dst := some 96, op := _, type := _, pos := _, after := _, guard := _ }) (v := ?_) rfl (by kernel_rfl) (by kernel_rfl) (by kernel_rfl) (fun _ _ _ h => h) (Or.inl ⟨by kernel_rfl, ?_⟩) hH1 ?_
                                  rotate_left
                                  · (intro w hSw; (try dsimp only at hSw); go_simp; first | done | with_reducible rfl)
                                  try simp only [Act.put, List.setIfInBounds_toArray, List.set_cons_zero, List.set_cons_succ]
                                  refine wpAnyH_ready (rs := [21]) (by kernel_rfl) (by simp) ?_
                                  refine AllReadyH.cons (o := { dst := some 97, op := _, type := _, pos := _, after := _, guard := _ }) rfl (fun K hK => ?_) ?_
                                  · rw [if_pos (by kernel_rfl)]
                                    go_simp
                                    refine (HNO.out _).mono ?_
                                    rintro e wq ⟨rfl, rfl⟩
                                    exact ⟨rfl, HBC.out.trans (hH1.1.mono HBC.out.size), .inr ⟨HQ.out, rfl⟩⟩
                                  exact AllReadyH.nil
                                exact AllReadyH.nil
                            · have b2 : ((bg : Int) ≤ (p : Int)) = False := eq_false (by omega)
                              have HQ : Hid (q = ([], 50)) := Lib.hid (HTS.out.2.1 HBF2.out (tabsL_bad l n i HIN.out ts HTAB.out (.inl (by unfold badTab; rw [HTA.out]; have : decide (((p : Nat) : Int) < 12 + 16 * (n : Int)) = true := decide_eq_true (by have := HBGN.out; omega); simp only [this]; simp))))
                              clear g1 hpm hpe hat hi16 hN16 hpb hmb g2
                              go_upto_region 12 with fail
                              refine wp_region_held_drew (S := fun w' => Below wc.heap.size wc w' ∧ w'.cell? ⟨X, 4, none⟩ = some (.int .i64 (p : Int)) ∧ w'.cell? ⟨X, 5, none⟩ = some (.int .i64 (m : Int))) (by kernel_rfl) (⟨(Below.refl _ wc).drew, t4, t5⟩) (fun hH0 => ?_)
                              change wpAnyH _ _ _ _ _ 22 #[false, false, false, false, false, false, false, false, false, false, false, false, false, false, false, false, false, false, false, false, false, false] _ _
                              refine wpAnyH_take (i := 0) (oi := { dst := some 76, op := _, type := _, pos := _, after := _, guard := _ }) (v := ?_) rfl (by kernel_rfl) (by kernel_rfl) (by kernel_rfl) (fun _ _ _ h => h) (Or.inl ⟨by kernel_rfl, ?_⟩) hH0 ?_
                              rotate_left
                              · (intro w hSw; (try dsimp only at hSw); go_simp; first | done | with_reducible rfl)
                              try simp only [Act.put, List.setIfInBounds_toArray, List.set_cons_zero, List.set_cons_succ]
                              refine wpAnyH_take (i := 1) (oi := { dst := some 77, op := _, type := _, pos := _, after := _, guard := _ }) (v := ?_) rfl (by kernel_rfl) (by kernel_rfl) (by kernel_rfl) (fun _ _ _ h => h) (Or.inl ⟨by kernel_rfl, ?_⟩) hH0 ?_
                              rotate_left
                              · (intro w hSw; (try dsimp only at hSw); go_simp; first | done | with_reducible rfl)
                              try simp only [Act.put, List.setIfInBounds_toArray, List.set_cons_zero, List.set_cons_succ]
                              refine wpAnyH_take (i := 2) (oi := { dst := some 78, op := _, type := _, pos := _, after := _, guard := _ }) (v := ?_) rfl (by kernel_rfl) (by kernel_rfl) (by kernel_rfl) (fun _ _ _ h => h) (Or.inl ⟨by kernel_rfl, ?_⟩) hH0 ?_
                              rotate_left
                              · (intro w hSw; (try dsimp only at hSw); go_simp; first | done | with_reducible rfl)
                              try simp only [Act.put, List.setIfInBounds_toArray, List.set_cons_zero, List.set_cons_succ]
                              refine wpAnyH_take (i := 3) (oi := { dst := some 79, op := _, type := _, pos := _, after := _, guard := _ }) (v := ?_) rfl (by kernel_rfl) (by kernel_rfl) (by kernel_rfl) (fun _ _ _ h => h) (Or.inl ⟨by kernel_rfl, ?_⟩) hH0 ?_
                              rotate_left
                              · (intro w hSw; (try dsimp only at hSw); go_simp; first | done | with_reducible rfl)
                              try simp only [Act.put, List.setIfInBounds_toArray, List.set_cons_zero, List.set_cons_succ]
                              refine wpAnyH_take (i := 4) (oi := { dst := some 80, op := _, type := _, pos := _, after := _, guard := _ }) (v := ?_) rfl (by kernel_rfl) (by kernel_rfl) (by kernel_rfl) (fun _ _ _ h => h) (Or.inl ⟨by kernel_rfl, ?_⟩) hH0 ?_
                              rotate_left
                              · (intro w hSw; (try dsimp only at hSw); go_simp; first | done | with_reducible rfl)
                              try simp only [Act.put, List.setIfInBounds_toArray, List.set_cons_zero, List.set_cons_succ]
                              refine wpAnyH_take (i := 5) (oi := { dst := some 81, op := _, type := _, pos := _, after := _, guard := _ }) (v := ?_) rfl (by kernel_rfl) (by kernel_rfl) (by kernel_rfl) (fun _ _ _ h => h) (Or.inl ⟨by kernel_rfl, ?_⟩) hH0 ?_
                              rotate_left
                              · (intro w hSw; (try dsimp only at hSw); go_simp; first | done | with_reducible rfl)
                              try simp only [Act.put, List.setIfInBounds_toArray, List.set_cons_zero, List.set_cons_succ]
                              refine wpAnyH_take (i := 6) (oi := { dst := some 82, op := _, type := _, pos := _, after := _, guard := _ }) (v := ?_) rfl (by kernel_rfl) (by kernel_rfl) (by kernel_rfl) (fun _ _ _ h => h) (Or.inl ⟨by kernel_rfl, ?_⟩) hH0 ?_
                              rotate_left
                              · (intro w hSw; (try dsimp only at hSw); go_simp; first | done | with_reducible rfl)
                              try simp only [Act.put, List.setIfInBounds_toArray, List.set_cons_zero, List.set_cons_succ]
                              refine wpAnyH_take (i := 7) (oi := { dst := some 83, op := _, type := _, pos := _, after := _, guard := _ }) (v := ?_) rfl (by kernel_rfl) (by kernel_rfl) (by kernel_rfl) (fun _ _ _ h => h) (Or.inl ⟨by kernel_rfl, ?_⟩) hH0 ?_
                              rotate_left
                              · (intro w hSw; (try dsimp only at hSw); go_simp; first | done | with_reducible rfl)
                              try simp only [Act.put, List.setIfInBounds_toArray, List.set_cons_zero, List.set_cons_succ]
                              refine wpAnyH_ready (rs := [8]) (by kernel_rfl) (by simp) ?_
                              refine AllReadyH.cons (o := { dst := some 84, op := _, type := _, pos := _, after := _, guard := _ }) rfl (fun K hK => ?_) ?_
                              · rw [if_pos (by kernel_rfl)]
                                go_simp
                                refine (HBG.out _).mono ?_
                                rintro e wq ⟨rfl, rfl⟩
                                refine hK.out _ _ (hH0) (fun hH1 => ?_)
                                clear hK K
                                try simp only [List.setIfInBounds_toArray, List.set_cons_zero, List.set_cons_succ]
                                refine wpAnyH_take (i := 9) (oi := { dst := some 85, op := _, type := _, pos := _, after := _, guard := _ }) (v := ?_) rfl (by kernel_rfl) (by kernel_rfl) (by kernel_rfl) (fun _ _ _ h => h) (Or.inl ⟨by kernel_rfl, ?_⟩) hH1 ?_
                                rotate_left
                                · (intro w hSw; (try dsimp only at hSw); go_simp; first | done | with_reducible rfl)
                                try simp only [Act.put, List.setIfInBounds_toArray, List.set_cons_zero, List.set_cons_succ]
                                refine wpAnyH_take (i := 10) (oi := { dst := some 86, op := _, type := _, pos := _, after := _, guard := _ }) (v := ?_) rfl (by kernel_rfl) (by kernel_rfl) (by kernel_rfl) (fun _ _ _ h => h) (Or.inl ⟨by kernel_rfl, ?_⟩) hH1 ?_
                                rotate_left
                                · (intro w hSw; (try dsimp only at hSw); go_simp; first | done | with_reducible rfl)
                                try simp only [Act.put, List.setIfInBounds_toArray, List.set_cons_zero, List.set_cons_succ]
                                refine wpAnyH_take (i := 11) (oi := { dst := some 87, op := _, type := _, pos := _, after := _, guard := _ }) (v := ?_) rfl (by kernel_rfl) (by kernel_rfl) (by kernel_rfl) (fun _ _ _ h => h) (Or.inl ⟨by kernel_rfl, ?_⟩) hH1 ?_
                                rotate_left
                                · (intro w hSw; (try dsimp only at hSw); go_simp; first | done | with_reducible rfl)
                                try simp only [Act.put, List.setIfInBounds_toArray, List.set_cons_zero, List.set_cons_succ]
                                refine wpAnyH_take (i := 12) (oi := { dst := some 88, op := _, type := _, pos := _, after := _, guard := _ }) (v := undef) rfl (by kernel_rfl) (by kernel_rfl) (by kernel_rfl) (fun _ _ _ h => h) (Or.inr ⟨by kernel_rfl, rfl⟩) hH1 ?_
                                try simp only [Act.put, List.setIfInBounds_toArray, List.set_cons_zero, List.set_cons_succ]
                                refine wpAnyH_take (i := 13) (oi := { dst := some 89, op := _, type := _, pos := _, after := _, guard := _ }) (v := undef) rfl (by kernel_rfl) (by kernel_rfl) (by kernel_rfl) (fun _ _ _ h => h) (Or.inr ⟨by kernel_rfl, rfl⟩) hH1 ?_
                                try simp only [Act.put, List.setIfInBounds_toArray, List.set_cons_zero, List.set_cons_succ]
                                refine wpAnyH_take (i := 14) (oi := { dst := some 90, op := _, type := _, pos := _, after := _, guard := _ }) (v := undef) rfl (by kernel_rfl) (by kernel_rfl) (by kernel_rfl) (fun _ _ _ h => h) (Or.inr ⟨by kernel_rfl, rfl⟩) hH1 ?_
                                try simp only [Act.put, List.setIfInBounds_toArray, List.set_cons_zero, List.set_cons_succ]
                                refine wpAnyH_take (i := 15) (oi := { dst := some 91, op := _, type := _, pos := _, after := _, guard := _ }) (v := undef) rfl (by kernel_rfl) (by kernel_rfl) (by kernel_rfl) (fun _ _ _ h => h) (Or.inr ⟨by kernel_rfl, rfl⟩) hH1 ?_
                                try simp only [Act.put, List.setIfInBounds_toArray, List.set_cons_zero, List.set_cons_succ]
                                refine wpAnyH_take (i := 16) (oi := { dst := some 92, op := _, type := _, pos := _, after := _, guard := _ }) (v := undef) rfl (by kernel_rfl) (by kernel_rfl) (by kernel_rfl) (fun _ _ _ h => h) (Or.inr ⟨by kernel_rfl, rfl⟩) hH1 ?_
                                try simp only [Act.put, List.setIfInBounds_toArray, List.set_cons_zero, List.set_cons_succ]
                                refine wpAnyH_take (i := 17) (oi := { dst := some 93, op := _, type := _, pos := _, after := _, guard := _ }) (v := undef) rfl (by kernel_rfl) (by kernel_rfl) (by kernel_rfl) (fun _ _ _ h => h) (Or.inr ⟨by kernel_rfl, rfl⟩) hH1 ?_
                                try simp only [Act.put, List.setIfInBounds_toArray, List.set_cons_zero, List.set_cons_succ]
                                refine wpAnyH_take (i := 18) (oi := { dst := some 94, op := _, type := _, pos := _, after := _, guard := _ }) (v := undef) rfl (by kernel_rfl) (by kernel_rfl) (by kernel_rfl) (fun _ _ _ h => h) (Or.inr ⟨by kernel_rfl, rfl⟩) hH1 ?_
                                try simp only [Act.put, List.setIfInBounds_toArray, List.set_cons_zero, List.set_cons_succ]
                                refine wpAnyH_take (i := 19) (oi := { dst := some 95, op := _, type := _, pos := _, after := _, guard := _ }) (v := undef) rfl (by kernel_rfl) (by kernel_rfl) (by kernel_rfl) (fun _ _ _ h => h) (Or.inr ⟨by kernel_rfl, rfl⟩) hH1 ?_
                                try simp only [Act.put, List.setIfInBounds_toArray, List.set_cons_zero, List.set_cons_succ]
                                refine wpAnyH_take (i := 20) (oi := { dst := some 96, op := _, type := _, pos := _, after := _, guard := _ }) (v := ?_) rfl (by kernel_rfl) (by kernel_rfl) (by kernel_rfl) (fun _ _ _ h => h) (Or.inl ⟨by kernel_rfl, ?_⟩) hH1 ?_
                                rotate_left
                                · (intro w hSw; (try dsimp only at hSw); go_simp; first | done | with_reducible rfl)
                                try simp only [Act.put, List.setIfInBounds_toArray, List.set_cons_zero, List.set_cons_succ]
                                refine wpAnyH_ready (rs := [21]) (by kernel_rfl) (by simp) ?_
                                refine AllReadyH.cons (o := { dst := some 97, op := _, type := _, pos := _, after := _, guard := _ }) rfl (fun K hK => ?_) ?_
                                · rw [if_pos (by kernel_rfl)]
                                  go_simp
                                  refine (HNO.out _).mono ?_
                                  rintro e wq ⟨rfl, rfl⟩
                                  exact ⟨rfl, HBC.out.trans (hH1.1.mono HBC.out.size), .inr ⟨HQ.out, rfl⟩⟩
                                exact AllReadyH.nil
                              exact AllReadyH.nil
                          · have bm : ((pm : Int) == 0) = false := by simp [g1]
                            have HQ : Hid (q = ([], 50)) := Lib.hid (HTS.out.2.1 HBF2.out (tabsL_bad l n i HIN.out ts HTAB.out (.inl (by unfold badTab; rw [HTA.out]; have : decide (((p : Nat) : Int) % 4 ≠ 0) = true := decide_eq_true (by omega); simp only [this]; simp))))
                            clear g1 hpm hpe hat hi16 hN16 hpb hmb
                            go_upto_region 12 with fail
                            refine wp_region_held_drew (S := fun w' => Below wc.heap.size wc w' ∧ w'.cell? ⟨X, 4, none⟩ = some (.int .i64 (p : Int)) ∧ w'.cell? ⟨X, 5, none⟩ = some (.int .i64 (m : Int))) (by kernel_rfl) (⟨(Below.refl _ wc).drew, t4, t5⟩) (fun hH0 => ?_)
                            change wpAnyH _ _ _ _ _ 22 #[false, false, false, false, false, false, false, false, false, false, false, false, false, false, false, false, false, false, false, false, false, false] _ _
                            refine wpAnyH_take (i := 0) (oi := { dst := some 76, op := _, type := _, pos := _, after := _, guard := _ }) (v := ?_) rfl (by kernel_rfl) (by kernel_rfl) (by kernel_rfl) (fun _ _ _ h => h) (Or.inl ⟨by kernel_rfl, ?_⟩) hH0 ?_
                            rotate_left
                            · (intro w hSw; (try dsimp only at hSw); go_simp; first | done | with_reducible rfl)
                            try simp only [Act.put, List.setIfInBounds_toArray, List.set_cons_zero, List.set_cons_succ]
                            refine wpAnyH_take (i := 1) (oi := { dst := some 77, op := _, type := _, pos := _, after := _, guard := _ }) (v := ?_) rfl (by kernel_rfl) (by kernel_rfl) (by kernel_rfl) (fun _ _ _ h => h) (Or.inl ⟨by kernel_rfl, ?_⟩) hH0 ?_
                            rotate_left
                            · (intro w hSw; (try dsimp only at hSw); go_simp; first | done | with_reducible rfl)
                            try simp only [Act.put, List.setIfInBounds_toArray, List.set_cons_zero, List.set_cons_succ]
                            refine wpAnyH_take (i := 2) (oi := { dst := some 78, op := _, type := _, pos := _, after := _, guard := _ }) (v := ?_) rfl (by kernel_rfl) (by kernel_rfl) (by kernel_rfl) (fun _ _ _ h => h) (Or.inl ⟨by kernel_rfl, ?_⟩) hH0 ?_
                            rotate_left
                            · (intro w hSw; (try dsimp only at hSw); go_simp; first | done | with_reducible rfl)
                            try simp only [Act.put, List.setIfInBounds_toArray, List.set_cons_zero, List.set_cons_succ]
                            refine wpAnyH_take (i := 3) (oi := { dst := some 79, op := _, type := _, pos := _, after := _, guard := _ }) (v := ?_) rfl (by kernel_rfl) (by kernel_rfl) (by kernel_rfl) (fun _ _ _ h => h) (Or.inl ⟨by kernel_rfl, ?_⟩) hH0 ?_
                            rotate_left
                            · (intro w hSw; (try dsimp only at hSw); go_simp; first | done | with_reducible rfl)
                            try simp only [Act.put, List.setIfInBounds_toArray, List.set_cons_zero, List.set_cons_succ]
                            refine wpAnyH_take (i := 4) (oi := { dst := some 80, op := _, type := _, pos := _, after := _, guard := _ }) (v := ?_) rfl (by kernel_rfl) (by kernel_rfl) (by kernel_rfl) (fun _ _ _ h => h) (Or.inl ⟨by kernel_rfl, ?_⟩) hH0 ?_
                            rotate_left
                            · (intro w hSw; (try dsimp only at hSw); go_simp; first | done | with_reducible rfl)
                            try simp only [Act.put, List.setIfInBounds_toArray, List.set_cons_zero, List.set_cons_succ]
                            refine wpAnyH_take (i := 5) (oi := { dst := some 81, op := _, type := _, pos := _, after := _, guard := _ }) (v := undef) rfl (by kernel_rfl) (by kernel_rfl) (by kernel_rfl) (fun _ _ _ h => h) (Or.inr ⟨by kernel_rfl, rfl⟩) hH0 ?_
                            try simp only [Act.put, List.setIfInBounds_toArray, List.set_cons_zero, List.set_cons_succ]
                            refine wpAnyH_take (i := 6) (oi := { dst := some 82, op := _, type := _, pos := _, after := _, guard := _ }) (v := undef) rfl (by kernel_rfl) (by kernel_rfl) (by kernel_rfl) (fun _ _ _ h => h) (Or.inr ⟨by kernel_rfl, rfl⟩) hH0 ?_
                            try simp only [Act.put, List.setIfInBounds_toArray, List.set_cons_zero, List.set_cons_succ]
                            refine wpAnyH_take (i := 7) (oi := { dst := some 83, op := _, type := _, pos := _, after := _, guard := _ }) (v := undef) rfl (by kernel_rfl) (by kernel_rfl) (by kernel_rfl) (fun _ _ _ h => h) (Or.inr ⟨by kernel_rfl, rfl⟩) hH0 ?_
                            try simp only [Act.put, List.setIfInBounds_toArray, List.set_cons_zero, List.set_cons_succ]
                            refine wpAnyH_take (i := 8) (oi := { dst := some 84, op := _, type := _, pos := _, after := _, guard := _ }) (v := undef) rfl (by kernel_rfl) (by kernel_rfl) (by kernel_rfl) (fun _ _ _ h => h) (Or.inr ⟨by kernel_rfl, rfl⟩) hH0 ?_
                            try simp only [Act.put, List.setIfInBounds_toArray, List.set_cons_zero, List.set_cons_succ]
                            refine wpAnyH_take (i := 9) (oi := { dst := some 85, op := _, type := _, pos := _, after := _, guard := _ }) (v := undef) rfl (by kernel_rfl) (by kernel_rfl) (by kernel_rfl) (fun _ _ _ h => h) (Or.inr ⟨by kernel_rfl, rfl⟩) hH0 ?_
                            try simp only [Act.put, List.setIfInBounds_toArray, List.set_cons_zero, List.set_cons_succ]
                            refine wpAnyH_take (i := 10) (oi := { dst := some 86, op := _, type := _, pos := _, after := _, guard := _ }) (v := ?_) rfl (by kernel_rfl) (by kernel_rfl) (by kernel_rfl) (fun _ _ _ h => h) (Or.inl ⟨by kernel_rfl, ?_⟩) hH0 ?_
                            rotate_left
                            · (intro w hSw; (try dsimp only at hSw); go_simp; first | done | with_reducible rfl)
                            try simp only [Act.put, List.setIfInBounds_toArray, List.set_cons_zero, List.set_cons_succ]
                            refine wpAnyH_take (i := 11) (oi := { dst := some 87, op := _, type := _, pos := _, after := _, guard := _ }) (v := ?_) rfl (by kernel_rfl) (by kernel_rfl) (by kernel_rfl) (fun _ _ _ h => h) (Or.inl ⟨by kernel_rfl, ?_⟩) hH0 ?_
                            rotate_left
                            · (intro w hSw; (try dsimp only at hSw); go_simp; first | done | with_reducible rfl)
                            try simp only [Act.put, List.setIfInBounds_toArray, List.set_cons_zero, List.set_cons_succ]
                            refine wpAnyH_take (i := 12) (oi := { dst := some 88, op := _, type := _, pos := _, after := _, guard := _ }) (v := undef) rfl (by kernel_rfl) (by kernel_rfl) (by kernel_rfl) (fun _ _ _ h => h) (Or.inr ⟨by kernel_rfl, rfl⟩) hH0 ?_
                            try simp only [Act.put, List.setIfInBounds_toArray, List.set_cons_zero, List.set_cons_succ]
                            refine wpAnyH_take (i := 13) (oi := { dst := some 89, op := _, type := _, pos := _, after := _, guard := _ }) (v := undef) rfl (by kernel_rfl) (by kernel_rfl) (by kernel_rfl) (fun _ _ _ h => h) (Or.inr ⟨by kernel_rfl, rfl⟩) hH0 ?_
                            try simp only [Act.put, List.setIfInBounds_toArray, List.set_cons_zero, List.set_cons_succ]
                            refine wpAnyH_take (i := 14) (oi := { dst := some 90, op := _, type := _, pos := _, after := _, guard := _ }) (v := undef) rfl (by kernel_rfl) (by kernel_rfl) (by kernel_rfl) (fun _ _ _ h => h) (Or.inr ⟨by kernel_rfl, rfl⟩) hH0 ?_
                            try simp only [Act.put, List.setIfInBounds_toArray, List.set_cons_zero, List.set_cons_succ]
                            refine wpAnyH_take (i := 15) (oi := { dst := some 91, op := _, type := _, pos := _, after := _, guard := _ }) (v := undef) rfl (by kernel_rfl) (by kernel_rfl) (by kernel_rfl) (fun _ _ _ h => h) (Or.inr ⟨by kernel_rfl, rfl⟩) hH0 ?_
                            try simp only [Act.put, List.setIfInBounds_toArray, List.set_cons_zero, List.set_cons_succ]
                            refine wpAnyH_take (i := 16) (oi := { dst := some 92, op := _, type := _, pos := _, after := _, guard := _ }) (v := undef) rfl (by kernel_rfl) (by kernel_rfl) (by kernel_rfl) (fun _ _ _ h => h) (Or.inr ⟨by kernel_rfl, rfl⟩) hH0 ?_
                            try simp only [Act.put, List.setIfInBounds_toArray, List.set_cons_zero, List.set_cons_succ]
                            refine wpAnyH_take (i := 17) (oi := { dst := some 93, op := _, type := _, pos := _, after := _, guard := _ }) (v := undef) rfl (by kernel_rfl) (by kernel_rfl) (by kernel_rfl) (fun _ _ _ h => h) (Or.inr ⟨by kernel_rfl, rfl⟩) hH0 ?_
                            try simp only [Act.put, List.setIfInBounds_toArray, List.set_cons_zero, List.set_cons_succ]
                            refine wpAnyH_take (i := 18) (oi := { dst := some 94, op := _, type := _, pos := _, after := _, guard := _ }) (v := undef) rfl (by kernel_rfl) (by kernel_rfl) (by kernel_rfl) (fun _ _ _ h => h) (Or.inr ⟨by kernel_rfl, rfl⟩) hH0 ?_
                            try simp only [Act.put, List.setIfInBounds_toArray, List.set_cons_zero, List.set_cons_succ]
                            refine wpAnyH_take (i := 19) (oi := { dst := some 95, op := _, type := _, pos := _, after := _, guard := _ }) (v := undef) rfl (by kernel_rfl) (by kernel_rfl) (by kernel_rfl) (fun _ _ _ h => h) (Or.inr ⟨by kernel_rfl, rfl⟩) hH0 ?_
                            try simp only [Act.put, List.setIfInBounds_toArray, List.set_cons_zero, List.set_cons_succ]
                            refine wpAnyH_take (i := 20) (oi := { dst := some 96, op := _, type := _, pos := _, after := _, guard := _ }) (v := ?_) rfl (by kernel_rfl) (by kernel_rfl) (by kernel_rfl) (fun _ _ _ h => h) (Or.inl ⟨by kernel_rfl, ?_⟩) hH0 ?_
                            rotate_left
                            · (intro w hSw; (try dsimp only at hSw); go_simp; first | done | with_reducible rfl)
                            try simp only [Act.put, List.setIfInBounds_toArray, List.set_cons_zero, List.set_cons_succ]
                            refine wpAnyH_ready (rs := [21]) (by kernel_rfl) (by simp) ?_
                            refine AllReadyH.cons (o := { dst := some 97, op := _, type := _, pos := _, after := _, guard := _ }) rfl (fun K hK => ?_) ?_
                            · rw [if_pos (by kernel_rfl)]
                              go_simp
                              refine (HNO.out _).mono ?_
                              rintro e wq ⟨rfl, rfl⟩
                              exact ⟨rfl, HBC.out.trans (hH0.1.mono HBC.out.size), .inr ⟨HQ.out, rfl⟩⟩
                            exact AllReadyH.nil
                exact AllReadyH.nil
              exact AllReadyH.nil
            exact AllReadyH.nil
          exact AllReadyH.nil
        exact AllReadyH.nil
      · rw [decide_eq_false h3] at HEQ
        have HQ : Hid (q = ([], 50)) := Lib.hid (HTS.out.1 (by rw [HBF.out]; simp [h3]))
        clear h1 h2 h3 e1 hbg
        go_upto_region 4 with fail
        refine wp_region_held_drew (S := fun w' => Below w2.heap.size w2 w') (by kernel_rfl) ((Below.refl _ w2).drew) (fun hH0 => ?_)
        change wpAnyH _ _ _ _ _ 17 #[false, false, false, false, false, false, false, false, false, false, false, false, false, false, false, false, false] _ _
        refine wpAnyH_take (i := 0) (oi := { dst := some 20, op := _, type := _, pos := _, after := _, guard := _ }) (v := ?_) rfl (by kernel_rfl) (by kernel_rfl) (by kernel_rfl) (fun _ _ _ h => h) (Or.inl ⟨by kernel_rfl, ?_⟩) hH0 ?_
        rotate_left
        · (intro w hSw; (try dsimp only at hSw); go_simp; first | done | with_reducible rfl)
        try simp only [Act.put, List.setIfInBounds_toArray, List.set_cons_zero, List.set_cons_succ]
        refine wpAnyH_ready (rs := [1]) (by kernel_rfl) (by simp) ?_
        refine AllReadyH.cons (o := { dst := some 21, op := _, type := _, pos := _, after := _, guard := _ }) rfl (fun K hK => ?_) ?_
        · rw [if_pos (by kernel_rfl)]
          go_simp
          refine (HCT.out _).mono ?_
          rintro e wx ⟨rfl, rfl⟩
          refine hK.out _ _ (by assumption) (fun hH1 => ?_)
          clear hK K
          try simp only [List.setIfInBounds_toArray, List.set_cons_zero, List.set_cons_succ]
          refine wpAnyH_take (i := 2) (oi := { dst := some 22, op := _, type := _, pos := _, after := _, guard := _ }) (v := ?_) rfl (by kernel_rfl) (by kernel_rfl) (by kernel_rfl) (fun _ _ _ h => h) (Or.inl ⟨by kernel_rfl, ?_⟩) hH1 ?_
          rotate_left
          · (intro w hSw; (try dsimp only at hSw); go_simp; first | done | with_reducible rfl)
          try simp only [Act.put, List.setIfInBounds_toArray, List.set_cons_zero, List.set_cons_succ]
          refine wpAnyH_take (i := 3) (oi := { dst := some 23, op := _, type := _, pos := _, after := _, guard := _ }) (v := ?_) rfl (by kernel_rfl) (by kernel_rfl) (by kernel_rfl) (fun _ _ _ h => h) (Or.inl ⟨by kernel_rfl, ?_⟩) hH1 ?_
          rotate_left
          · (intro w hSw; (try dsimp only at hSw); go_simp; first | done | with_reducible rfl)
          try simp only [Act.put, List.setIfInBounds_toArray, List.set_cons_zero, List.set_cons_succ]
          refine wpAnyH_take (i := 4) (oi := { dst := some 24, op := _, type := _, pos := _, after := _, guard := _ }) (v := ?_) rfl (by kernel_rfl) (by kernel_rfl) (by kernel_rfl) (fun _ _ _ h => h) (Or.inl ⟨by kernel_rfl, ?_⟩) hH1 ?_
          rotate_left
          · (intro w hSw; (try dsimp only at hSw); go_simp; first | done | with_reducible rfl)
          try simp only [Act.put, List.setIfInBounds_toArray, List.set_cons_zero, List.set_cons_succ]
          refine wpAnyH_take (i := 5) (oi := { dst := some 25, op := _, type := _, pos := _, after := _, guard := _ }) (v := ?_) rfl (by kernel_rfl) (by kernel_rfl) (by kernel_rfl) (fun _ _ _ h => h) (Or.inl ⟨by kernel_rfl, ?_⟩) hH1 ?_
          rotate_left
          · (intro w hSw; (try dsimp only at hSw); go_simp; first | done | with_reducible rfl)
          try simp only [Act.put, List.setIfInBounds_toArray, List.set_cons_zero, List.set_cons_succ]
          refine wpAnyH_ready (rs := [6]) (by kernel_rfl) (by simp) ?_
          refine AllReadyH.cons (o := { dst := some 26, op := _, type := _, pos := _, after := _, guard := _ }) rfl (fun K hK => ?_) ?_
          · rw [if_pos (by kernel_rfl)]
            go_simp
            refine (HBG.out _).mono ?_
            rintro e wx ⟨rfl, rfl⟩
            refine hK.out _ _ (by assumption) (fun hH2 => ?_)
            clear hK K
            try simp only [List.setIfInBounds_toArray, List.set_cons_zero, List.set_cons_succ]
            refine wpAnyH_take (i := 7) (oi := { dst := some 27, op := _, type := _, pos := _, after := _, guard := _ }) (v := ?_) rfl (by kernel_rfl) (by kernel_rfl) (by kernel_rfl) (fun _ _ _ h => h) (Or.inl ⟨by kernel_rfl, ?_⟩) hH2 ?_
            rotate_left
            · (intro w hSw; (try dsimp only at hSw); go_simp; first | done | with_reducible rfl)
            try simp only [Act.put, List.setIfInBounds_toArray, List.set_cons_zero, List.set_cons_succ]
            refine wpAnyH_take (i := 8) (oi := { dst := some 28, op := _, type := _, pos := _, after := _, guard := _ }) (v := ?_) rfl (by kernel_rfl) (by kernel_rfl) (by kernel_rfl) (fun _ _ _ h => h) (Or.inl ⟨by kernel_rfl, ?_⟩) hH2 ?_
            rotate_left
            · (intro w hSw; (try dsimp only at hSw); go_simp; first | done | with_reducible rfl)
            try simp only [Act.put, List.setIfInBounds_toArray, List.set_cons_zero, List.set_cons_succ]
            refine wpAnyH_take (i := 9) (oi := { dst := some 29, op := _, type := _, pos := _, after := _, guard := _ }) (v := ?_) rfl (by kernel_rfl) (by kernel_rfl) (by kernel_rfl) (fun _ _ _ h => h) (Or.inl ⟨by kernel_rfl, ?_⟩) hH2 ?_
            rotate_left
            · (intro w hSw; (try dsimp only at hSw); go_simp; first | done | with_reducible rfl)
            try simp only [Act.put, List.setIfInBounds_toArray, List.set_cons_zero, List.set_cons_succ]
            refine wpAnyH_take (i := 10) (oi := { dst := some 30, op := _, type := _, pos := _, after := _, guard := _ }) (v := ?_) rfl (by kernel_rfl) (by kernel_rfl) (by kernel_rfl) (fun _ _ _ h => h) (Or.inl ⟨by kernel_rfl, ?_⟩) hH2 ?_
            rotate_left
            · (intro w hSw; (try dsimp only at hSw); go_simp; first | done | with_reducible rfl)
            try simp only [Act.put, List.setIfInBounds_toArray, List.set_cons_zero, List.set_cons_succ]
            refine wpAnyH_take (i := 11) (oi := { dst := some 31, op := _, type := _, pos := _, after := _, guard := _ }) (v := ?_) rfl (by kernel_rfl) (by kernel_rfl) (by kernel_rfl) (fun _ _ _ h => h) (Or.inl ⟨by kernel_rfl, ?_⟩) hH2 ?_
            rotate_left
            · (intro w hSw; (try dsimp only at hSw); go_simp; first | done | with_reducible rfl)
            try simp only [Act.put, List.setIfInBounds_toArray, List.set_cons_zero, List.set_cons_succ]
            refine wpAnyH_take (i := 12) (oi := { dst := some 32, op := _, type := _, pos := _, after := _, guard := _ }) (v := ?_) rfl (by kernel_rfl) (by kernel_rfl) (by kernel_rfl) (fun _ _ _ h => h) (Or.inl ⟨by kernel_rfl, ?_⟩) hH2 ?_
            rotate_left
            · (intro w hSw; (try dsimp only at hSw); go_simp; first | done | with_reducible rfl)
            try simp only [Act.put, List.setIfInBounds_toArray, List.set_cons_zero, List.set_cons_succ]
            refine wpAnyH_ready (rs := [13]) (by kernel_rfl) (by simp) ?_
            refine AllReadyH.cons (o := { dst := some 33, op := _, type := _, pos := _, after := _, guard := _ }) rfl (fun K hK => ?_) ?_
            · rw [if_pos (by kernel_rfl)]
              go_simp
              refine (HOP.out _).mono ?_
              rintro e wx ⟨hbx, ro, Bo, rfl, hBo, how⟩
              have hbx2 := hbx
              refine hK.out _ _ (by first | assumption | exact Below.trans (by assumption) (hbx.mono (Below.size (by assumption)))) (fun hH3 => ?_)
              clear hK K
              try simp only [List.setIfInBounds_toArray, List.set_cons_zero, List.set_cons_succ]
              refine wpAnyH_ready (rs := [14]) (by kernel_rfl) (by simp) ?_
              refine AllReadyH.cons (o := { dst := some 34, op := _, type := _, pos := _, after := _, guard := _ }) rfl (fun K hK => ?_) ?_
              · rw [if_pos (by kernel_rfl)]
                go_simp
                refine (HEQ.out _ _ (by assumption) how.read).mono ?_
                rintro e wx ⟨rfl, rfl⟩
                refine hK.out _ _ (by assumption) (fun hH4 => ?_)
                clear hK K
                try simp only [List.setIfInBounds_toArray, List.set_cons_zero, List.set_cons_succ]
                refine wpAnyH_take (i := 15) (oi := { dst := some 35, op := _, type := _, pos := _, after := _, guard := _ }) (v := ?_) rfl (by kernel_rfl) (by kernel_rfl) (by kernel_rfl) (fun _ _ _ h => h) (Or.inl ⟨by kernel_rfl, ?_⟩) hH4 ?_
                rotate_left
                · (intro w hSw; (try dsimp only at hSw); go_simp; first | done | with_reducible rfl)
                try simp only [Act.put, List.setIfInBounds_toArray, List.set_cons_zero, List.set_cons_succ]
                refine wpAnyH_ready (rs := [16]) (by kernel_rfl) (by simp) ?_
                refine AllReadyH.cons (o := { dst := some 36, op := _, type := _, pos := _, after := _, guard := _ }) rfl (fun K hK => ?_) ?_
                · rw [if_pos (by kernel_rfl)]
                  go_simp
                  refine (HNO.out _).mono ?_
                  rintro e wx ⟨rfl, rfl⟩
                  exact ⟨rfl, HB2.out.trans (Below.mono (by assumption) HB2.out.size), .inr ⟨HQ.out, rfl⟩⟩
                exact AllReadyH.nil
              exact AllReadyH.nil
            exact AllReadyH.nil
          exact AllReadyH.nil
        exact AllReadyH.nil
    · have b1 : ((bg : Int) ≤ (N : Int)) = False := eq_false (by omega)
      have HQ : Hid (q = ([], 50)) := Lib.hid (HTS.out.1 (by rw [HBF.out]; simp; omega))
      clear h1 h2 e1 hbg
      go_upto_region 4 with fail
      refine wp_region_held_drew (S := fun w' => Below w2.heap.size w2 w') (by kernel_rfl) ((Below.refl _ w2).drew) (fun hH0 => ?_)
      change wpAnyH _ _ _ _ _ 17 #[false, false, false, false, false, false, false, false, false, false, false, false, false, false, false, false, false] _ _
      refine wpAnyH_take (i := 0) (oi := { dst := some 20, op := _, type := _, pos := _, after := _, guard := _ }) (v := ?_) rfl (by kernel_rfl) (by kernel_rfl) (by kernel_rfl) (fun _ _ _ h => h) (Or.inl ⟨by kernel_rfl, ?_⟩) hH0 ?_
      rotate_left
      · (intro w hSw; (try dsimp only at hSw); go_simp; first | done | with_reducible rfl)
      try simp only [Act.put, List.setIfInBounds_toArray, List.set_cons_zero, List.set_cons_succ]
      refine wpAnyH_ready (rs := [1]) (by kernel_rfl) (by simp) ?_
      refine AllReadyH.cons (o := { dst := some 21, op := _, type := _, pos := _, after := _, guard := _ }) rfl (fun K hK => ?_) ?_
      · rw [if_pos (by kernel_rfl)]
        go_simp
        refine (HCT.out _).mono ?_
        rintro e wx ⟨rfl, rfl⟩
        refine hK.out _ _ (by assumption) (fun hH1 => ?_)
        clear hK K
        try simp only [List.setIfInBounds_toArray, List.set_cons_zero, List.set_cons_succ]
        refine wpAnyH_take (i := 2) (oi := { dst := some 22, op := _, type := _, pos := _, after := _, guard := _ }) (v := ?_) rfl (by kernel_rfl) (by kernel_rfl) (by kernel_rfl) (fun _ _ _ h => h) (Or.inl ⟨by kernel_rfl, ?_⟩) hH1 ?_
        rotate_left
        · (intro w hSw; (try dsimp only at hSw); go_simp; first | done | with_reducible rfl)
        try simp only [Act.put, List.setIfInBounds_toArray, List.set_cons_zero, List.set_cons_succ]
        refine wpAnyH_take (i := 3) (oi := { dst := some 23, op := _, type := _, pos := _, after := _, guard := _ }) (v := ?_) rfl (by kernel_rfl) (by kernel_rfl) (by kernel_rfl) (fun _ _ _ h => h) (Or.inl ⟨by kernel_rfl, ?_⟩) hH1 ?_
        rotate_left
        · (intro w hSw; (try dsimp only at hSw); go_simp; first | done | with_reducible rfl)
        try simp only [Act.put, List.setIfInBounds_toArray, List.set_cons_zero, List.set_cons_succ]
        refine wpAnyH_take (i := 4) (oi := { dst := some 24, op := _, type := _, pos := _, after := _, guard := _ }) (v := ?_) rfl (by kernel_rfl) (by kernel_rfl) (by kernel_rfl) (fun _ _ _ h => h) (Or.inl ⟨by kernel_rfl, ?_⟩) hH1 ?_
        rotate_left
        · (intro w hSw; (try dsimp only at hSw); go_simp; first | done | with_reducible rfl)
        try simp only [Act.put, List.setIfInBounds_toArray, List.set_cons_zero, List.set_cons_succ]
        refine wpAnyH_take (i := 5) (oi := { dst := some 25, op := _, type := _, pos := _, after := _, guard := _ }) (v := ?_) rfl (by kernel_rfl) (by kernel_rfl) (by kernel_rfl) (fun _ _ _ h => h) (Or.inl ⟨by kernel_rfl, ?_⟩) hH1 ?_
        rotate_left
        · (intro w hSw; (try dsimp only at hSw); go_simp; first | done | with_reducible rfl)
        try simp only [Act.put, List.setIfInBounds_toArray, List.set_cons_zero, List.set_cons_succ]
        refine wpAnyH_ready (rs := [6]) (by kernel_rfl) (by simp) ?_
        refine AllReadyH.cons (o := { dst := some 26, op := _, type := _, pos := _, after := _, guard := _ }) rfl (fun K hK => ?_) ?_
        · rw [if_pos (by kernel_rfl)]
          go_simp
          refine (HBG.out _).mono ?_
          rintro e wx ⟨rfl, rfl⟩
          refine hK.out _ _ (by assumption) (fun hH2 => ?_)
          clear hK K
          try simp only [List.setIfInBounds_toArray, List.set_cons_zero, List.set_cons_succ]
          refine wpAnyH_take (i := 7) (oi := { dst := some 27, op := _, type := _, pos := _, after := _, guard := _ }) (v := ?_) rfl (by kernel_rfl) (by kernel_rfl) (by kernel_rfl) (fun _ _ _ h => h) (Or.inl ⟨by kernel_rfl, ?_⟩) hH2 ?_
          rotate_left
          · (intro w hSw; (try dsimp only at hSw); go_simp; first | done | with_reducible rfl)
          try simp only [Act.put, List.setIfInBounds_toArray, List.set_cons_zero, List.set_cons_succ]
          refine wpAnyH_take (i := 8) (oi := { dst := some 28, op := _, type := _, pos := _, after := _, guard := _ }) (v := ?_) rfl (by kernel_rfl) (by kernel_rfl) (by kernel_rfl) (fun _ _ _ h => h) (Or.inl ⟨by kernel_rfl, ?_⟩) hH2 ?_
          rotate_left
          · (intro w hSw; (try dsimp only at hSw); go_simp; first | done | with_reducible rfl)
          try simp only [Act.put, List.setIfInBounds_toArray, List.set_cons_zero, List.set_cons_succ]
          refine wpAnyH_take (i := 9) (oi := { dst := some 29, op := _, type := _, pos := _, after := _, guard := _ }) (v := ?_) rfl (by kernel_rfl) (by kernel_rfl) (by kernel_rfl) (fun _ _ _ h => h) (Or.inl ⟨by kernel_rfl, ?_⟩) hH2 ?_
          rotate_left
          · (intro w hSw; (try dsimp only at hSw); go_simp; first | done | with_reducible rfl)
          try simp only [Act.put, List.setIfInBounds_toArray, List.set_cons_zero, List.set_cons_succ]
          refine wpAnyH_take (i := 10) (oi := { dst := some 30, op := _, type := _, pos := _, after := _, guard := _ }) (v := undef) rfl (by kernel_rfl) (by kernel_rfl) (by kernel_rfl) (fun _ _ _ h => h) (Or.inr ⟨by kernel_rfl, rfl⟩) hH2 ?_
          try simp only [Act.put, List.setIfInBounds_toArray, List.set_cons_zero, List.set_cons_succ]
          refine wpAnyH_take (i := 11) (oi := { dst := some 31, op := _, type := _, pos := _, after := _, guard := _ }) (v := undef) rfl (by kernel_rfl) (by kernel_rfl) (by kernel_rfl) (fun _ _ _ h => h) (Or.inr ⟨by kernel_rfl, rfl⟩) hH2 ?_
          try simp only [Act.put, List.setIfInBounds_toArray, List.set_cons_zero, List.set_cons_succ]
          refine wpAnyH_take (i := 12) (oi := { dst := some 32, op := _, type := _, pos := _, after := _, guard := _ }) (v := undef) rfl (by kernel_rfl) (by kernel_rfl) (by kernel_rfl) (fun _ _ _ h => h) (Or.inr ⟨by kernel_rfl, rfl⟩) hH2 ?_
          try simp only [Act.put, List.setIfInBounds_toArray, List.set_cons_zero, List.set_cons_succ]
          refine wpAnyH_take (i := 13) (oi := { dst := some 33, op := _, type := _, pos := _, after := _, guard := _ }) (v := undef) rfl (by kernel_rfl) (by kernel_rfl) (by kernel_rfl) (fun _ _ _ h => h) (Or.inr ⟨by kernel_rfl, rfl⟩) hH2 ?_
          try simp only [Act.put, List.setIfInBounds_toArray, List.set_cons_zero, List.set_cons_succ]
          refine wpAnyH_take (i := 14) (oi := { dst := some 34, op := _, type := _, pos := _, after := _, guard := _ }) (v := undef) rfl (by kernel_rfl) (by kernel_rfl) (by kernel_rfl) (fun _ _ _ h => h) (Or.inr ⟨by kernel_rfl, rfl⟩) hH2 ?_
          try simp only [Act.put, List.setIfInBounds_toArray, List.set_cons_zero, List.set_cons_succ]
          refine wpAnyH_take (i := 15) (oi := { dst := some 35, op := _, type := _, pos := _, after := _, guard := _ }) (v := ?_) rfl (by kernel_rfl) (by kernel_rfl) (by kernel_rfl) (fun _ _ _ h => h) (Or.inl ⟨by kernel_rfl, ?_⟩) hH2 ?_
          rotate_left
          · (intro w hSw; (try dsimp only at hSw); go_simp; first | done | with_reducible rfl)
          try simp only [Act.put, List.setIfInBounds_toArray, List.set_cons_zero, List.set_cons_succ]
          refine wpAnyH_ready (rs := [16]) (by kernel_rfl) (by simp) ?_
          refine AllReadyH.cons (o := { dst := some 36, op := _, type := _, pos := _, after := _, guard := _ }) rfl (fun K hK => ?_) ?_
          · rw [if_pos (by kernel_rfl)]
            go_simp
            refine (HNO.out _).mono ?_
            rintro e wx ⟨rfl, rfl⟩
            exact ⟨rfl, HB2.out.trans (Below.mono (by assumption) HB2.out.size), .inr ⟨HQ.out, rfl⟩⟩
          exact AllReadyH.nil
        exact AllReadyH.nil
      exact AllReadyH.nil
  · have e1 : (decide (1 ≤ (n : Int)) && decide ((n : Int) ≤ 64)) = false := by
      rw [Bool.and_eq_false_iff, decide_eq_false_iff_not, decide_eq_false_iff_not]; omega
    rw [e1] at HCT
    have HQ : Hid (q = ([], 50)) := Lib.hid (HTS.out.1 (by rw [HBF.out]; simp; omega))
    clear h1 e1
    go_upto_region 4 with fail
    refine wp_region_held_drew (S := fun w' => Below w2.heap.size w2 w') (by kernel_rfl) ((Below.refl _ w2).drew) (fun hH0 => ?_)
    change wpAnyH _ _ _ _ _ 17 #[false, false, false, false, false, false, false, false, false, false, false, false, false, false, false, false, false] _ _
    refine wpAnyH_take (i := 0) (oi := { dst := some 20, op := _, type := _, pos := _, after := _, guard := _ }) (v := ?_) rfl (by kernel_rfl) (by kernel_rfl) (by kernel_rfl) (fun _ _ _ h => h) (Or.inl ⟨by kernel_rfl, ?_⟩) hH0 ?_
    rotate_left
    · (intro w hSw; (try dsimp only at hSw); go_simp; first | done | with_reducible rfl)
    try simp only [Act.put, List.setIfInBounds_toArray, List.set_cons_zero, List.set_cons_succ]
    refine wpAnyH_ready (rs := [1]) (by kernel_rfl) (by simp) ?_
    refine AllReadyH.cons (o := { dst := some 21, op := _, type := _, pos := _, after := _, guard := _ }) rfl (fun K hK => ?_) ?_
    · rw [if_pos (by kernel_rfl)]
      go_simp
      refine (HCT.out _).mono ?_
      rintro e wx ⟨rfl, rfl⟩
      refine hK.out _ _ (by assumption) (fun hH1 => ?_)
      clear hK K
      try simp only [List.setIfInBounds_toArray, List.set_cons_zero, List.set_cons_succ]
      refine wpAnyH_take (i := 2) (oi := { dst := some 22, op := _, type := _, pos := _, after := _, guard := _ }) (v := ?_) rfl (by kernel_rfl) (by kernel_rfl) (by kernel_rfl) (fun _ _ _ h => h) (Or.inl ⟨by kernel_rfl, ?_⟩) hH1 ?_
      rotate_left
      · (intro w hSw; (try dsimp only at hSw); go_simp; first | done | with_reducible rfl)
      try simp only [Act.put, List.setIfInBounds_toArray, List.set_cons_zero, List.set_cons_succ]
      refine wpAnyH_take (i := 3) (oi := { dst := some 23, op := _, type := _, pos := _, after := _, guard := _ }) (v := undef) rfl (by kernel_rfl) (by kernel_rfl) (by kernel_rfl) (fun _ _ _ h => h) (Or.inr ⟨by kernel_rfl, rfl⟩) hH1 ?_
      try simp only [Act.put, List.setIfInBounds_toArray, List.set_cons_zero, List.set_cons_succ]
      refine wpAnyH_take (i := 4) (oi := { dst := some 24, op := _, type := _, pos := _, after := _, guard := _ }) (v := undef) rfl (by kernel_rfl) (by kernel_rfl) (by kernel_rfl) (fun _ _ _ h => h) (Or.inr ⟨by kernel_rfl, rfl⟩) hH1 ?_
      try simp only [Act.put, List.setIfInBounds_toArray, List.set_cons_zero, List.set_cons_succ]
      refine wpAnyH_take (i := 5) (oi := { dst := some 25, op := _, type := _, pos := _, after := _, guard := _ }) (v := undef) rfl (by kernel_rfl) (by kernel_rfl) (by kernel_rfl) (fun _ _ _ h => h) (Or.inr ⟨by kernel_rfl, rfl⟩) hH1 ?_
      try simp only [Act.put, List.setIfInBounds_toArray, List.set_cons_zero, List.set_cons_succ]
      refine wpAnyH_take (i := 6) (oi := { dst := some 26, op := _, type := _, pos := _, after := _, guard := _ }) (v := undef) rfl (by kernel_rfl) (by kernel_rfl) (by kernel_rfl) (fun _ _ _ h => h) (Or.inr ⟨by kernel_rfl, rfl⟩) hH1 ?_
      try simp only [Act.put, List.setIfInBounds_toArray, List.set_cons_zero, List.set_cons_succ]
      refine wpAnyH_take (i := 7) (oi := { dst := some 27, op := _, type := _, pos := _, after := _, guard := _ }) (v := undef) rfl (by kernel_rfl) (by kernel_rfl) (by kernel_rfl) (fun _ _ _ h => h) (Or.inr ⟨by kernel_rfl, rfl⟩) hH1 ?_
      try simp only [Act.put, List.setIfInBounds_toArray, List.set_cons_zero, List.set_cons_succ]
      refine wpAnyH_take (i := 8) (oi := { dst := some 28, op := _, type := _, pos := _, after := _, guard := _ }) (v := ?_) rfl (by kernel_rfl) (by kernel_rfl) (by kernel_rfl) (fun _ _ _ h => h) (Or.inl ⟨by kernel_rfl, ?_⟩) hH1 ?_
      rotate_left
      · (intro w hSw; (try dsimp only at hSw); go_simp; first | done | with_reducible rfl)
      try simp only [Act.put, List.setIfInBounds_toArray, List.set_cons_zero, List.set_cons_succ]
      refine wpAnyH_take (i := 9) (oi := { dst := some 29, op := _, type := _, pos := _, after := _, guard := _ }) (v := ?_) rfl (by kernel_rfl) (by kernel_rfl) (by kernel_rfl) (fun _ _ _ h => h) (Or.inl ⟨by kernel_rfl, ?_⟩) hH1 ?_
      rotate_left
      · (intro w hSw; (try dsimp only at hSw); go_simp; first | done | with_reducible rfl)
      try simp only [Act.put, List.setIfInBounds_toArray, List.set_cons_zero, List.set_cons_succ]
      refine wpAnyH_take (i := 10) (oi := { dst := some 30, op := _, type := _, pos := _, after := _, guard := _ }) (v := undef) rfl (by kernel_rfl) (by kernel_rfl) (by kernel_rfl) (fun _ _ _ h => h) (Or.inr ⟨by kernel_rfl, rfl⟩) hH1 ?_
      try simp only [Act.put, List.setIfInBounds_toArray, List.set_cons_zero, List.set_cons_succ]
      refine wpAnyH_take (i := 11) (oi := { dst := some 31, op := _, type := _, pos := _, after := _, guard := _ }) (v := undef) rfl (by kernel_rfl) (by kernel_rfl) (by kernel_rfl) (fun _ _ _ h => h) (Or.inr ⟨by kernel_rfl, rfl⟩) hH1 ?_
      try simp only [Act.put, List.setIfInBounds_toArray, List.set_cons_zero, List.set_cons_succ]
      refine wpAnyH_take (i := 12) (oi := { dst := some 32, op := _, type := _, pos := _, after := _, guard := _ }) (v := undef) rfl (by kernel_rfl) (by kernel_rfl) (by kernel_rfl) (fun _ _ _ h => h) (Or.inr ⟨by kernel_rfl, rfl⟩) hH1 ?_
      try simp only [Act.put, List.setIfInBounds_toArray, List.set_cons_zero, List.set_cons_succ]
      refine wpAnyH_take (i := 13) (oi := { dst := some 33, op := _, type := _, pos := _, after := _, guard := _ }) (v := undef) rfl (by kernel_rfl) (by kernel_rfl) (by kernel_rfl) (fun _ _ _ h => h) (Or.inr ⟨by kernel_rfl, rfl⟩) hH1 ?_
      try simp only [Act.put, List.setIfInBounds_toArray, List.set_cons_zero, List.set_cons_succ]
      refine wpAnyH_take (i := 14) (oi := { dst := some 34, op := _, type := _, pos := _, after := _, guard := _ }) (v := undef) rfl (by kernel_rfl) (by kernel_rfl) (by kernel_rfl) (fun _ _ _ h => h) (Or.inr ⟨by kernel_rfl, rfl⟩) hH1 ?_
      try simp only [Act.put, List.setIfInBounds_toArray, List.set_cons_zero, List.set_cons_succ]
      refine wpAnyH_take (i := 15) (oi := { dst := some 35, op := _, type := _, pos := _, after := _, guard := _ }) (v := ?_) rfl (by kernel_rfl) (by kernel_rfl) (by kernel_rfl) (fun _ _ _ h => h) (Or.inl ⟨by kernel_rfl, ?_⟩) hH1 ?_
      rotate_left
      · (intro w hSw; (try dsimp only at hSw); go_simp; first | done | with_reducible rfl)
      try simp only [Act.put, List.setIfInBounds_toArray, List.set_cons_zero, List.set_cons_succ]
      refine wpAnyH_ready (rs := [16]) (by kernel_rfl) (by simp) ?_
      refine AllReadyH.cons (o := { dst := some 36, op := _, type := _, pos := _, after := _, guard := _ }) rfl (fun K hK => ?_) ?_
      · rw [if_pos (by kernel_rfl)]
        go_simp
        refine (HNO.out _).mono ?_
        rintro e wx ⟨rfl, rfl⟩
        exact ⟨rfl, HB2.out.trans (Below.mono (by assumption) HB2.out.size), .inr ⟨HQ.out, rfl⟩⟩
      exact AllReadyH.nil
    exact AllReadyH.nil
end Go.Proofs.Ytijmponhkabeiaa
