/-
  ClusterBehind.
-/
import Derived.Test.YtjlencmoobanoaaBehind
import Derived.Test.YtjlencmoobanoaaCopy2
import Derived.Test.YtjlencmoobanoaaCBounds
import Derived.Deep.CutRange
namespace Go.Proofs.Ytjlencmoobanoaa
open Go Go.RowKit

def CHRel (w1 : World) (k : Nat) (vi : Value) (wr : World) : Prop := ∃ t : Nat, t + k = 2 ∧ vi = .int .i64 (t : Int) ∧ Below w1.heap.size w1 wr

def XLRel (B : Nat) (w5 : World) (W D : List Nat) (d1 : Nat) (Ax : Option Addr) (k : Nat) (vs vi : Value) (wr : World) : Prop :=
  ∃ (v : Value) (i : Nat), v = vs ∧ i + k = D.length ∧ vi = .int .i64 (i : Int) ∧ OwnI B wr v (W ++ (D.take i).map (· + d1)) ∧ Below B w5 wr ∧
    (D ≠ [] → ∃ g, Ax = some ⟨g, 0, none⟩ ∧ v.ownBlock ≠ some g ∧ g < wr.heap.size ∧ ∀ (j : Nat) (h : j < D.length), wr.cell? ⟨g, j, none⟩ = some (.int .i64 ((D[j] : Nat) : Int)))

theorem take_next (W D : List Nat) (d1 i : Nat) (h : i < D.length) : W ++ (D.take i).map (· + d1) ++ [D[i] + d1] = W ++ (D.take (i + 1)).map (· + d1) := by
  rw [List.take_succ_eq_append_getElem h, List.map_append, List.append_assoc]; rfl

set_option maxHeartbeats 40000000 in
set_option maxRecDepth 20000 in
theorem clusterBehind_some (T : List (Int × Int × Int)) (hT : TabB T) (la lb : List Int) (hla : AllR la) (hlb : AllR lb) (Aa Ab : Option Addr) (Na Nb ca cb : Nat) (hNa : Na = la.length) (hNb : Nb = lb.length) (ha200 : Na ≤ 200) (hb200 : Nb ≤ 200) (w : World)
    (hva : RunesZ w (.slice Aa Na ca) la) (hvb : RunesZ w (.slice Ab Nb cb) lb) (hna : ∀ n c, Value.slice Aa Na ca = .slice none n c → n = 0 ∧ c = 0) (hnb : ∀ n c, Value.slice Ab Nb cb = .slice none n c → n = 0 ∧ c = 0) :
    Calls Try.prog 6 #[.slice Aa Na ca, .slice Ab Nb cb] w fun e w' => e = .returned (.bool true) ∧ Below w.heap.size w w' := by
  have HW := Lib.hid (fun w => works3_any w)
  have HS : Hid (∀ (D : List Nat), D.length ≤ 1000000 → ∀ (a b : Value) w, IntsR w a D → IntsR w b D → Calls Try.prog 11 #[a, b] w fun e w' => e = .returned (.bool true) ∧ Below w.heap.size w w') := Lib.hid (fun D hD a b w ha hb => sameI_any D a b w ha hb hD)
  obtain ⟨CA, hCA⟩ : ∃ C, C = clsL T la := ⟨_, rfl⟩
  obtain ⟨CB, hCB⟩ : ∃ C, C = clsL T lb := ⟨_, rfl⟩
  have hCAl : CA.length = Na := by rw [hCA, hNa]; simp [clsL]
  have hCBl : CB.length = Nb := by rw [hCB, hNb]; simp [clsL]
  have h14 : ∀ l : List Int, ∀ c ∈ clsL T l, c < 14 := by
    intro l c hc
    obtain ⟨x, _, rfl⟩ := List.mem_map.1 hc
    exact cls_lt hT.tab.ok x
  obtain ⟨DA, hDA⟩ : ∃ D, D = boundsL CA := ⟨_, rfl⟩
  obtain ⟨DB, hDB⟩ : ∃ D, D = boundsL CB := ⟨_, rfl⟩
  have HBA : Hid (∀ wx, Below w.heap.size w wx → Calls Try.prog 10 #[.slice Aa Na ca] wx fun e w' => Below wx.heap.size wx w' ∧ ∃ r, e = .returned r ∧ OwnI wx.heap.size w' r DA) := Lib.hid (fun wx hx => by
    have := bounds_any T hT.tab la _ wx (hva.below hx) (by omega)
    rw [hDA, hCA]; exact this)
  have HBB : Hid (∀ wx, Below w.heap.size w wx → Calls Try.prog 10 #[.slice Ab Nb cb] wx fun e w' => Below wx.heap.size wx w' ∧ ∃ r, e = .returned r ∧ OwnI wx.heap.size w' r DB) := Lib.hid (fun wx hx => by
    have := bounds_any T hT.tab lb _ wx (hvb.below hx) (by omega)
    rw [hDB, hCB]; exact this)
  have HBL : Hid (∀ β m v wx, clsN T β = m → Sep CA CB m → RunesZ wx v (la ++ [β] ++ lb) → Calls Try.prog 10 #[v] wx fun e w' => Below wx.heap.size wx w' ∧ ∃ r, e = .returned r ∧ OwnI wx.heap.size w' r (DA ++ midL CA m ++ DB.map (· + (Na + 1)))) := Lib.hid (fun β m v wx hm hs hz => by
    have := bounds_any T hT.tab _ _ wx hz (by simp; omega)
    have e : (la ++ [β] ++ lb).map (clsN T) = CA ++ m :: CB := by rw [hCA, hCB, ← hm]; simp [clsL]
    rw [e, behind CA CB m (by rw [hCA]; exact h14 la) (by rw [hCB]; exact h14 lb) hs, ← hDA, ← hDB, hCAl] at this
    exact this)
  have HDA : Hid (∀ (j : Nat) (h : j < la.length) w1, Calls Try.prog 14 #[.int .i32 la[j]] w1 fun e w' => e = .returned (.int .u8 ((CA.getD j 0 : Nat) : Int)) ∧ Below w1.heap.size w1 w') := Lib.hid (fun j h w1 => by
    have := hT.tab.doc la[j] (hla _ (List.getElem_mem _)) w1
    have e : CA.getD j 0 = clsN T la[j] := by rw [hCA]; simp [clsL, h]
    rw [e]; exact this)
  have HDB : Hid (∀ (j : Nat) (h : j < lb.length) w1, Calls Try.prog 14 #[.int .i32 lb[j]] w1 fun e w' => e = .returned (.int .u8 ((CB.getD j 0 : Nat) : Int)) ∧ Below w1.heap.size w1 w') := Lib.hid (fun j h w1 => by
    have := hT.tab.doc lb[j] (hlb _ (List.getElem_mem _)) w1
    have e : CB.getD j 0 = clsN T lb[j] := by rw [hCB]; simp [clsL, h]
    rw [e]; exact this)
  have HANE : Hid (¬ Na = 0 → la ≠ []) := Lib.hid (by rintro h rfl; exact h hNa)
  have HBNE : Hid (¬ Nb = 0 → lb ≠ []) := Lib.hid (by rintro h rfl; exact h hNb)
  have HAN0 : Hid (Na = 0 → CA.getLast? = none) := Lib.hid (fun h => by rw [List.getLast?_eq_none_iff]; exact List.length_eq_zero_iff.1 (by rw [hCAl]; exact h))
  have HBN0 : Hid (Nb = 0 → (decide (CB.head? = some 4) || decide (CB.head? = some 5)) = false) := Lib.hid (fun h => by
    have : CB = [] := List.length_eq_zero_iff.1 (by rw [hCBl]; exact h)
    rw [this]; rfl)
  have HBHD : Hid (¬ Nb = 0 → ∀ d, d = CB.getD 0 0 → CB.head? = some d) := Lib.hid (fun h d hd => by
    cases hc : CB with
    | nil => rw [hc] at hCBl; exact absurd hCBl.symm h
    | cons x L => rw [hd, hc]; rfl)
  have HALA : Hid (¬ Na = 0 → ∀ k, k = Na - 1 → ∀ c, c = CA.getD k 0 → CA.getLast? = some c) := Lib.hid (fun h k hk c hc => by
    have hk' : k < CA.length := by omega
    rw [List.getLast?_eq_getElem?, hCAl, ← hk, List.getElem?_eq_getElem hk', hc]; simp [hk'])
  have HCR : Hid (∀ (j : Nat) (h : j < la.length), CA.getD j 0 = 1 ↔ la[j] = 13) := Lib.hid (fun j h => by
    have e : CA.getD j 0 = clsN T la[j] := by rw [hCA]; simp [clsL, h]
    rw [e]; exact hT.cr _)
  have HLF : Hid (clsN T 10 = 2) := Lib.hid hT.lf
  have HXX : Hid (clsN T 120 = 0) := Lib.hid hT.x
  have HDBL : Hid (∀ z ∈ DB, z ≤ 200) := Lib.hid (fun z hz => by rw [hDB] at hz; have := bounds_lt CB z hz; omega)
  have HDAN : Hid (DA.length ≤ 200) := Lib.hid (by rw [hDA]; have := bounds_len CA; omega)
  have HDBN : Hid (DB.length ≤ 200) := Lib.hid (by rw [hDB]; have := bounds_len CB; omega)
  have HCAL := Lib.hid hCAl
  have HVA := Lib.hid hva
  have HVB := Lib.hid hvb
  have HNA := Lib.hid hna
  have HNB := Lib.hid hnb
  have HLA := Lib.hid hNa
  have HLB := Lib.hid hNb
  have H200A := Lib.hid ha200
  have H200B := Lib.hid hb200
  have ba : (200 < (Na : Int)) = False := eq_false (by omega)
  have bb : (200 < (Nb : Int)) = False := eq_false (by omega)
  obtain ⟨w1, hw1⟩ : ∃ w1, w.alloc (.cells #[Value.int .i32 10, Value.int .i32 120] 21) = w1 := ⟨_, rfl⟩
  have HB1 : Hid (Below w.heap.size w w1) := Lib.hid (by rw [← hw1]; exact (Below.refl _ _).alloc (Nat.le_refl _) _)
  have HLIT : Hid (∀ wx, Below w1.heap.size w1 wx → ∀ (t : Nat) (β : Int), t < 2 → β = [(10 : Int), 120].getD t 0 → wx.cell? ⟨w.heap.size, t, none⟩ = some (.int .i32 β)) := Lib.hid (fun wx hx t β ht hβ => by
    have hlt : w.heap.size < w1.heap.size := by rw [← hw1]; exact heap_more _ _
    rw [hx.cell (by exact hlt), ← hw1, cell_of_row _ w.heap.size t _ _ _ (heap_alloc_new w _), hβ]
    rcases (show t = 0 ∨ t = 1 by omega) with rfl | rfl <;> rfl)
  clear hCA hCB hCAl hCBl h14 hDA hDB hva hvb hna hnb hNa hNb ha200 hb200 hla hlb hT
  go_enter Try.func6, Try.ntmps6
  go_wp2_with fail
  clear hw1
  go_loopg [22] 2 (fun k vi wr => CHRel w1 k vi wr)
  case atStart => exact ⟨0, by omega, rfl, Below.refl _ _⟩
  case round =>
    obtain ⟨t, htk, rfl, hb⟩ := hrel
    have HBW := Lib.hid hb
    clear hb
    obtain ⟨kk, hkk⟩ : ∃ kk, kk = gk := ⟨_, rfl⟩
    by_cases ht : t = 2
    · have bt : ((t : Int) < 2) = False := eq_false (by omega)
      clear ht htk hkk
      go_wp2_with fail
      refine (HW.out _).mono ?_
      rintro e w6 ⟨rfl, hb6⟩
      have HB6 := Lib.hid (HB1.out.trans ((HBW.out.trans (hb6.mono HBW.out.size)).mono HB1.out.size))
      clear hb6
      go_wp2_with fail
      go_ret
      exact ⟨rfl, HB6.out⟩
    · have bt : ((t : Int) < 2) = True := eq_true (by omega)
      have t0 : (0 : Int) ≤ (t : Int) := Int.natCast_nonneg _
      have t2 : (t : Int) < 2 := by omega
      have ht2 : t < 2 := by omega
      obtain ⟨t1, ht1⟩ : ∃ t1, t1 = t + 1 := ⟨_, rfl⟩
      have q1 : IntKind.i64.wrap ((t : Int) + 1) = (t1 : Int) := by rw [IntKind.wrap_i64]; omega
      obtain ⟨β, hβ⟩ : ∃ β, β = [(10 : Int), 120].getD t 0 := ⟨_, rfl⟩
      obtain ⟨m, hm⟩ : ∃ m, m = [(2 : Nat), 0].getD t 0 := ⟨_, rfl⟩
      obtain ⟨sk, hsk⟩ : ∃ sk, sk = (decide (t = 1) && (decide (CA.getLast? = some 7) || (decide (CB.head? = some 4) || decide (CB.head? = some 5)))) := ⟨_, rfl⟩
      have cl := HLIT.out _ HBW.out t β ht2 hβ
      have HCLS : Hid (clsN T β = m) := Lib.hid (by
        rw [hβ, hm]
        rcases (show t = 0 ∨ t = 1 by omega) with h | h
        · rw [h]; exact HLF.out
        · rw [h]; exact HXX.out)
      have HSEP : sk = false → Hid (Sep CA CB m) := fun h => Lib.hid (by
        rw [hsk] at h
        rcases (show t = 0 ∨ t = 1 by omega) with h0 | h0
        · subst h0; exact .inl hm
        · subst h0
          refine .inr ⟨hm, ?_⟩
          simpa using h)
      have HM : Hid ((β = 10 ∧ m = 2) ∨ (β = 120 ∧ m = 0)) := Lib.hid (by
        rw [hβ, hm]
        rcases (show t = 0 ∨ t = 1 by omega) with h | h
        · subst h; exact .inl ⟨rfl, rfl⟩
        · subst h; exact .inr ⟨rfl, rfl⟩)
      have HT1 := Lib.hid ht1
      have HTK := Lib.hid htk
      have HKK := Lib.hid hkk
      have HBETA := Lib.hid hβ
      have HSKD := Lib.hid hsk
      clear ht ht1 hm hkk htk hβ hsk
      go_upto_region 6 with fail
      go_cut [65] from 23 to 124 (fun s wx => s = .bool sk ∧ Below w1.heap.size w1 wx)
      case first =>
        have HBX := HBW
        clear HSEP HCLS
        rcases Nat.eq_zero_or_pos t with ht0 | ht0
        · subst ht0
          have HSK : Hid (sk = false) := Lib.hid (by rw [HSKD.out]; rfl)
          have HBE : Hid (β = 10) := Lib.hid (by rw [HBETA.out]; rfl)
          have bx : (β == 120) = false := by rw [HBE.out]; rfl
          clear ht2
          go_wp2_with fail
          go_meet
          exact ⟨by rw [HSK.out], HBX.out⟩
        · obtain rfl : t = 1 := by omega
          have HSK : Hid (sk = (decide (CA.getLast? = some 7) || (decide (CB.head? = some 4) || decide (CB.head? = some 5)))) := Lib.hid (by rw [HSKD.out]; rfl)
          have HBE : Hid (β = 120) := Lib.hid (by rw [HBETA.out]; rfl)
          have bx : (β == 120) = true := by rw [HBE.out]; rfl
          clear ht2 ht0
          by_cases ha0 : Na = 0
          · have ba0 : (0 < Na) = False := eq_false (by omega)
            have HAF : Hid (decide (CA.getLast? = some 7) = false) := Lib.hid (by rw [HAN0.out ha0]; rfl)
            clear ha0
            by_cases hb0 : Nb = 0
            · have bb0 : (0 < Nb) = False := eq_false (by omega)
              have HSF : Hid (sk = false) := Lib.hid (by rw [HSK.out, HAF.out, HBN0.out hb0]; rfl)
              clear hb0
              go_wp2_with fail
              go_meet
              exact ⟨by rw [HSF.out], HBX.out⟩
            · have bb0 : (0 < Nb) = True := eq_true (by omega)
              have bbI : (0 : Int) < (Nb : Int) := by omega
              obtain ⟨gb, ob, rfl, _, hcb⟩ := (HVB.out.below (HB1.out.trans (HBX.out.mono HB1.out.size))).cells (HBNE.out hb0)
              have cb := hcb 0 (by have := HLB.out; omega)
              obtain ⟨y, hy⟩ : ∃ y, y = lb[0]'(by have := HLB.out; omega) := ⟨_, rfl⟩
              rw [← hy] at cb
              obtain ⟨d, hd⟩ : ∃ d, d = CB.getD 0 0 := ⟨_, rfl⟩
              have HY := Lib.hid (HDB.out 0 (by have := HLB.out; omega))
              rw [← hy, ← hd] at HY
              have HHD : Hid (CB.head? = some d) := Lib.hid (HBHD.out hb0 d hd)
              rw [Nat.add_zero] at cb
              have HYC : Hid (∀ wz, Below w.heap.size w wz → wz.cell? ⟨gb, ob, none⟩ = some (.int .i32 y)) := Lib.hid (fun wz hz => by
                obtain ⟨g', o', e, _, hc'⟩ := (HVB.out.below hz).cells (HBNE.out hb0)
                injection e with e; injection e with e1 e2; subst e1; subst e2
                have := hc' 0 (by have := HLB.out; omega)
                rw [hy]; exact this)
              clear hcb hy hd hb0
              go_wp2_with fail
              refine (HY.out _).mono ?_
              rintro e wy ⟨rfl, hby⟩
              have HBY := Lib.hid (HBX.out.trans (hby.mono HBX.out.size))
              clear hby cb
              by_cases h4 : d = 4
              · have b4 : ((d : Int) == 4) = true := by simp; omega
                have HSF : Hid (sk = true) := Lib.hid (by rw [HSK.out, HHD.out, h4]; simp)
                clear h4
                go_wp2_with fail
                go_meet
                exact ⟨by rw [HSF.out], HBY.out⟩
              · have b4 : ((d : Int) == 4) = false := by simp; omega
                have cb := HYC.out _ (HB1.out.trans (HBY.out.mono HB1.out.size))
                have HN4 := Lib.hid h4
                clear h4
                go_wp2_with fail
                refine (HY.out _).mono ?_
                rintro e wz ⟨rfl, hbz⟩
                have HBZ := Lib.hid (HBY.out.trans (hbz.mono HBY.out.size))
                clear hbz cb
                by_cases h5 : d = 5
                · have b5 : ((d : Int) == 5) = true := by simp; omega
                  have HSF : Hid (sk = true) := Lib.hid (by rw [HSK.out, HHD.out, h5]; simp)
                  clear h5
                  go_wp2_with fail
                  go_meet
                  exact ⟨by rw [HSF.out], HBZ.out⟩
                · have b5 : ((d : Int) == 5) = false := by simp; omega
                  have HSF : Hid (sk = false) := Lib.hid (by rw [HSK.out, HAF.out, HHD.out]; simp [HN4.out, h5])
                  clear h5
                  go_wp2_with fail
                  go_meet
                  exact ⟨by rw [HSF.out], HBZ.out⟩
          · have ba0 : (0 < Na) = True := eq_true (by omega)
            obtain ⟨la1, hla1⟩ : ∃ z, z = Na - 1 := ⟨_, rfl⟩
            have ql : IntKind.i64.wrap ((Na : Int) - 1) = (la1 : Int) := by rw [IntKind.wrap_i64]; have := H200A.out; omega
            have l0 : (0 : Int) ≤ (la1 : Int) := Int.natCast_nonneg _
            have lN : (la1 : Int) < (Na : Int) := by omega
            have hll : la1 < la.length := by have := HLA.out; omega
            obtain ⟨ga, oa, rfl, _, hca⟩ := (HVA.out.below (HB1.out.trans (HBX.out.mono HB1.out.size))).cells (HANE.out ha0)
            have ca := hca la1 hll
            obtain ⟨x, hx⟩ : ∃ x, x = la[la1] := ⟨_, rfl⟩
            rw [← hx] at ca
            obtain ⟨c, hc⟩ : ∃ c, c = CA.getD la1 0 := ⟨_, rfl⟩
            have HX := Lib.hid (HDA.out la1 hll)
            rw [← hx, ← hc] at HX
            have HHL : Hid (CA.getLast? = some c) := Lib.hid (HALA.out ha0 la1 hla1 c hc)
            clear hca hx hc hll hla1 ha0
            go_wp2_with fail
            refine (HX.out _).mono ?_
            rintro e wa ⟨rfl, hba⟩
            have HBA2 := Lib.hid (HBX.out.trans (hba.mono HBX.out.size))
            clear hba ca
            by_cases h7 : c = 7
            · have b7 : ((c : Int) == 7) = true := by simp; omega
              have HSF : Hid (sk = true) := Lib.hid (by rw [HSK.out, HHL.out, h7]; simp)
              clear h7
              go_wp2_with fail
              go_meet
              exact ⟨by rw [HSF.out], HBA2.out⟩
            · have b7 : ((c : Int) == 7) = false := by simp; omega
              have HAF : Hid (decide (CA.getLast? = some 7) = false) := Lib.hid (by rw [HHL.out]; simp [h7])
              clear h7
              by_cases hb0 : Nb = 0
              · have bb0 : (0 < Nb) = False := eq_false (by omega)
                have HSF : Hid (sk = false) := Lib.hid (by rw [HSK.out, HAF.out, HBN0.out hb0]; rfl)
                clear hb0
                go_wp2_with fail
                go_meet
                exact ⟨by rw [HSF.out], HBA2.out⟩
              · have bb0 : (0 < Nb) = True := eq_true (by omega)
                have bbI : (0 : Int) < (Nb : Int) := by omega
                obtain ⟨gb, ob, rfl, _, hcb⟩ := (HVB.out.below (HB1.out.trans (HBA2.out.mono HB1.out.size))).cells (HBNE.out hb0)
                have cb := hcb 0 (by have := HLB.out; omega)
                obtain ⟨y, hy⟩ : ∃ y, y = lb[0]'(by have := HLB.out; omega) := ⟨_, rfl⟩
                rw [← hy] at cb
                obtain ⟨d, hd⟩ : ∃ d, d = CB.getD 0 0 := ⟨_, rfl⟩
                have HY := Lib.hid (HDB.out 0 (by have := HLB.out; omega))
                rw [← hy, ← hd] at HY
                have HHD : Hid (CB.head? = some d) := Lib.hid (HBHD.out hb0 d hd)
                rw [Nat.add_zero] at cb
                have HYC : Hid (∀ wz, Below w.heap.size w wz → wz.cell? ⟨gb, ob, none⟩ = some (.int .i32 y)) := Lib.hid (fun wz hz => by
                  obtain ⟨g', o', e, _, hc'⟩ := (HVB.out.below hz).cells (HBNE.out hb0)
                  injection e with e; injection e with e1 e2; subst e1; subst e2
                  have := hc' 0 (by have := HLB.out; omega)
                  rw [hy]; exact this)
                clear hcb hy hd hb0
                go_wp2_with fail
                refine (HY.out _).mono ?_
                rintro e wy ⟨rfl, hby⟩
                have HBY := Lib.hid (HBA2.out.trans (hby.mono HBA2.out.size))
                clear hby cb
                by_cases h4 : d = 4
                · have b4 : ((d : Int) == 4) = true := by simp; omega
                  have HSF : Hid (sk = true) := Lib.hid (by rw [HSK.out, HHD.out, h4]; simp)
                  clear h4
                  go_wp2_with fail
                  go_meet
                  exact ⟨by rw [HSF.out], HBY.out⟩
                · have b4 : ((d : Int) == 4) = false := by simp; omega
                  have cb := HYC.out _ (HB1.out.trans (HBY.out.mono HB1.out.size))
                  have HN4 := Lib.hid h4
                  clear h4
                  go_wp2_with fail
                  refine (HY.out _).mono ?_
                  rintro e wz ⟨rfl, hbz⟩
                  have HBZ := Lib.hid (HBY.out.trans (hbz.mono HBY.out.size))
                  clear hbz cb
                  by_cases h5 : d = 5
                  · have b5 : ((d : Int) == 5) = true := by simp; omega
                    have HSF : Hid (sk = true) := Lib.hid (by rw [HSK.out, HHD.out, h5]; simp)
                    clear h5
                    go_wp2_with fail
                    go_meet
                    exact ⟨by rw [HSF.out], HBZ.out⟩
                  · have b5 : ((d : Int) == 5) = false := by simp; omega
                    have HSF : Hid (sk = false) := Lib.hid (by rw [HSK.out, HAF.out, HHD.out]; simp [HN4.out, h5])
                    clear h5
                    go_wp2_with fail
                    go_meet
                    exact ⟨by rw [HSF.out], HBZ.out⟩
      case rest =>
        obtain ⟨rfl, hbx⟩ := hcut
        have HBX := Lib.hid hbx
        clear hbx cl ht2
        cases sk with
        | true =>
          clear HSEP
          go_wp2_with fail
          go_roundg (kk - 1)
          case measure => have := HTK.out; have := HKK.out; omega
          case rel => exact ⟨t1, by have := HTK.out; have := HKK.out; have := HT1.out; omega, by first | rfl | exact congrArg _ (by omega), HBX.out⟩
        | false =>
          have HSP := HSEP rfl
          clear HSEP
          have HB0 := Lib.hid (HB1.out.trans (HBX.out.mono HB1.out.size))
          go_wp2_with (at_builtin; refine wp_append_z rfl _ _ rfl w1.heap.size (.slice none 0 0) [] rfl (OwnZ.nil _ _) _ la rfl (HVA.out.below HB0.out) HNA.out (by have := H200A.out; have := HLA.out; simp; omega) HBX.out.size ?_)
          intro v3 w3 how3 hk3
          have HB3 := Lib.hid (hk3 _ HBX.out)
          have HOW3 := Lib.hid how3
          clear hk3 how3
          go_wp2_with (at_builtin; refine wp_append_z rfl _ _ rfl w1.heap.size v3 ([] ++ la) rfl (ownZ_stays HOW3.out ((Below.refl _ _).alloc (Nat.le_refl _) _)) _ [β] rfl (runes_new w3 [β] _ (by simp)) (fun n c h => by cases h) (by have := H200A.out; have := HLA.out; simp; omega) (Nat.le_trans HB3.out.size (Nat.le_of_lt (heap_more _ _))) ?_)
          intro v4 w4 how4 hk4
          have HB4 := Lib.hid (hk4 _ (HB3.out.alloc HB3.out.size _))
          have HOW4 := Lib.hid how4
          clear hk4 how4
          go_wp2_with (at_builtin; refine wp_append_z rfl _ _ rfl w1.heap.size v4 ([] ++ la ++ [β]) rfl HOW4.out _ lb rfl (HVB.out.below (HB1.out.trans (HB4.out.mono HB1.out.size))) HNB.out (by have := H200A.out; have := HLA.out; have := H200B.out; have := HLB.out; simp; omega) HB4.out.size ?_)
          intro v5 w5 how5 hk5
          have HB5 := Lib.hid (hk5 _ HB4.out)
          have HZ5 : Hid (RunesZ w5 v5 (la ++ [β] ++ lb)) := Lib.hid (by have := how5.read; simpa using this)
          have HBW5 := Lib.hid (HB1.out.trans (HB5.out.mono HB1.out.size))
          clear hk5 how5
          go_wp2_with fail
          refine (HBA.out _ HBW5.out).mono ?_
          rintro e w6 ⟨hb6, rA, rfl, howA⟩
          have HB6 := Lib.hid hb6
          have HOWA := Lib.hid howA
          clear hb6 howA
          obtain ⟨ap, hap⟩ : ∃ ap, ap = !(decide (m = 2 ∧ CA.getLast? = some 1)) := ⟨_, rfl⟩
          go_upto_region 12 with fail
          go_cut [94] from 23 to 124 (fun s wx => s = .bool ap ∧ Below w5.heap.size w5 wx ∧ OwnI w5.heap.size wx rA DA)
          case first =>
            have HAP := Lib.hid hap
            clear hap
            rcases HM.out with ⟨h1, h2⟩ | ⟨h1, h2⟩
            · have bβ : (β == 10) = true := by rw [h1]; rfl
              have HM2 := Lib.hid h2
              clear h1 h2
              by_cases ha0 : Na = 0
              · have ba0 : (0 < Na) = False := eq_false (by omega)
                have HAV : Hid (ap = true) := Lib.hid (by rw [HAP.out, HAN0.out ha0]; simp)
                clear ha0
                go_wp2_with fail
                go_meet
                exact ⟨by rw [HAV.out], HB6.out, HOWA.out⟩
              · have ba0 : (0 < Na) = True := eq_true (by omega)
                obtain ⟨la1, hla1⟩ : ∃ z, z = Na - 1 := ⟨_, rfl⟩
                have ql : IntKind.i64.wrap ((Na : Int) - 1) = (la1 : Int) := by rw [IntKind.wrap_i64]; have := H200A.out; omega
                have l0 : (0 : Int) ≤ (la1 : Int) := Int.natCast_nonneg _
                have lN : (la1 : Int) < (Na : Int) := by omega
                have hll : la1 < la.length := by have := HLA.out; omega
                obtain ⟨ga, oa, rfl, _, hca⟩ := (HVA.out.below (HBW5.out.trans (HB6.out.mono HBW5.out.size))).cells (HANE.out ha0)
                have cla := hca la1 hll
                have hcr := HCR.out la1 hll
                have hgl := HALA.out ha0 la1 hla1 _ rfl
                obtain ⟨x, hx⟩ : ∃ x, x = la[la1] := ⟨_, rfl⟩
                rw [← hx] at cla hcr
                by_cases h13 : x = 13
                · have b13 : (x == 13) = true := by simp [h13]
                  have HAV : Hid (ap = false) := Lib.hid (by rw [HAP.out, hgl, hcr.2 h13, HM2.out]; simp)
                  clear hca hcr hgl hx h13 hll hla1 ha0
                  go_wp2_with fail
                  go_meet
                  exact ⟨by rw [HAV.out], HB6.out, HOWA.out⟩
                · have b13 : (x == 13) = false := by simp [h13]
                  have hc1 : CA.getD la1 0 ≠ 1 := fun h => h13 (hcr.1 h)
                  have HAV : Hid (ap = true) := Lib.hid (by rw [HAP.out, hgl, decide_eq_false (fun h => hc1 (Option.some.inj h.2))]; rfl)
                  clear hca hcr hgl hx h13 hll hla1 ha0 hc1
                  go_wp2_with fail
                  go_meet
                  exact ⟨by rw [HAV.out], HB6.out, HOWA.out⟩
            · have bβ : (β == 10) = false := by rw [h1]; rfl
              have HAV : Hid (ap = true) := Lib.hid (by rw [HAP.out, h2]; simp)
              clear h1 h2
              go_wp2_with fail
              go_meet
              exact ⟨by rw [HAV.out], HB6.out, HOWA.out⟩
          case rest =>
            obtain ⟨rfl, hb7, how7⟩ := hcut
            have HB7 := Lib.hid hb7
            have HOW7 := Lib.hid how7
            clear hb7 how7
            go_upto_if 94 with fail
            go_cut [8] from 23 to 124 (fun s wx => OwnI w5.heap.size wx s (DA ++ midL CA m) ∧ Below w5.heap.size w5 wx)
            case first =>
              cases ap with
              | true =>
                have HMID : Hid (midL CA m = [Na]) := Lib.hid (by
                  have h : ¬ (m = 2 ∧ CA.getLast? = some 1) := by
                    intro h; rw [decide_eq_true h] at hap; cases hap
                  unfold midL; rw [if_neg h, HCAL.out])
                clear hap
                go_wp2_with (at_builtin; refine wp_append_i rfl _ _ rfl w5.heap.size rA DA rfl (own_stays HOW7.out ((Below.refl _ _).alloc (Nat.le_refl _) _)) _ Na rfl (by have := one_newI (w := wc) (x := .int .i64 (Na : Int)) (t := 3) 0 _ rfl; exact this) (by have := HDAN.out; omega) (Nat.le_trans HB7.out.size (Nat.le_of_lt (heap_more _ _))) ?_)
                intro v8 w8 how8 hk8 _ _ _
                have HB8 := Lib.hid (hk8 _ (HB7.out.alloc HB7.out.size _))
                have HOW8 := Lib.hid how8
                clear hk8 how8
                go_wp2_with fail
                go_meet
                exact ⟨by rw [HMID.out]; exact HOW8.out, HB8.out⟩
              | false =>
                have HMID : Hid (midL CA m = []) := Lib.hid (by
                  have h : m = 2 ∧ CA.getLast? = some 1 := by
                    have : decide (m = 2 ∧ CA.getLast? = some 1) = true := by
                      cases hd : decide (m = 2 ∧ CA.getLast? = some 1) with
                      | true => rfl
                      | false => rw [hd] at hap; cases hap
                    exact of_decide_eq_true this
                  unfold midL; rw [if_pos h])
                clear hap
                go_wp2_with fail
                go_meet
                exact ⟨by rw [HMID.out, List.append_nil]; exact HOW7.out, HB7.out⟩
            case rest =>
              obtain ⟨how9, hb9⟩ := hcut
              have HB9 := Lib.hid hb9
              have HOW9 := Lib.hid how9
              have HBW9 := Lib.hid (HBW5.out.trans (hb9.mono HBW5.out.size))
              clear hb9 how9 hap HB7 HOW7
              go_wp2_with fail
              refine (HBB.out _ HBW9.out).mono ?_
              rintro e w10 ⟨hb10, rB, rfl, howB⟩
              have HB10 := Lib.hid (HB9.out.trans (hb10.mono HB9.out.size))
              have HOW10 := Lib.hid (own_stays HOW9.out hb10)
              have hgeB := (own_cases howB).2
              have hrd := howB.read
              obtain ⟨Ax, cx, rfl, _, _, hxx⟩ := hrd
              rename_i n1 n2
              have hlt := fun sb h => own_lt HOW9.out (sb := sb) h
              have HXX2 : Hid (DB ≠ [] → ∃ g, Ax = some ⟨g, 0, none⟩ ∧ _ ≠ some g ∧ g < w10.heap.size ∧ ∀ (j : Nat) (h : j < DB.length), w10.cell? ⟨g, j, none⟩ = some (.int .i64 ((DB[j] : Nat) : Int))) := Lib.hid (fun hne => by
                obtain ⟨g, rfl, hg, hc⟩ := hxx hne
                refine ⟨g, rfl, fun hk => ?_, hg, hc⟩
                have h1 := hlt g hk
                have h2 := hgeB g rfl
                omega)
              clear hb10 howB hgeB hxx hlt n1 n2
              obtain ⟨Nx, hNx⟩ : ∃ Nx, Nx = DB.length := ⟨_, rfl⟩
              have HNX := Lib.hid hNx
              rw [← hNx]
              clear hNx
              go_wp2_with fail
              go_loopg [8, 10] Nx (fun k vs vi wr => XLRel w5.heap.size w5 (DA ++ midL CA m) DB (Na + 1) Ax k vs vi wr)
              case atStart => exact ⟨_, 0, rfl, by have := HNX.out; omega, rfl, by simpa using HOW10.out, HB10.out, HXX2.out⟩
              case round =>
                obtain ⟨vs, i, rfl, hik, rfl, how, hbw, hxs⟩ := hrel
                have HBL2 := Lib.hid hbw
                have HOWL := Lib.hid how
                clear hbw how
                by_cases hi : i = Nx
                · have bi : ((i : Int) < (Nx : Int)) = False := eq_false (by omega)
                  have HALL : Hid (OwnI w5.heap.size wr vs (DA ++ midL CA m ++ DB.map (· + (Na + 1)))) := Lib.hid (by
                    have h := HOWL.out
                    rw [List.take_of_length_le (by have := HNX.out; omega)] at h
                    exact h)
                  clear hi hik hxs
                  go_wp2_with fail
                  refine (HBL.out β m v5 _ HCLS.out HSP.out (HZ5.out.below HBL2.out)).mono ?_
                  rintro e w11 ⟨hb11, rL, rfl, howL⟩
                  have HB11 := Lib.hid (HBL2.out.trans (hb11.mono HBL2.out.size))
                  have HRL := Lib.hid howL.read
                  have HRW := Lib.hid (own_stays HALL.out hb11).read
                  clear hb11 howL
                  go_wp2_with fail
                  refine (HS.out _ (by have := HDAN.out; have := HDBN.out; unfold midL; split <;> simp <;> omega) _ _ _ HRL.out HRW.out).mono ?_
                  rintro e w12 ⟨rfl, hb12⟩
                  have HB12 := Lib.hid (HB11.out.trans (hb12.mono HB11.out.size))
                  clear hb12
                  go_wp2_with fail
                  go_roundg (kk - 1)
                  case measure => have := HTK.out; have := HKK.out; omega
                  case rel => exact ⟨t1, by have := HTK.out; have := HKK.out; have := HT1.out; omega, by first | rfl | exact congrArg _ (by omega), HB5.out.trans (HB12.out.mono HB5.out.size)⟩
                · have hnx := HNX.out
                  have bi : ((i : Int) < (Nx : Int)) = True := eq_true (by omega)
                  have i0 : (0 : Int) ≤ (i : Int) := Int.natCast_nonneg _
                  have iN : (i : Int) < (Nx : Int) := by omega
                  have hil : i < DB.length := by have := HNX.out; omega
                  obtain ⟨g, rfl, hgne, hg, hcs⟩ := hxs (by rintro h; rw [h] at hil; cases hil)
                  have cg := hcs i hil
                  have hz200 := HDBL.out _ (List.getElem_mem hil)
                  have hN200 := H200A.out
                  obtain ⟨z, hz⟩ : ∃ z, z = DB[i] := ⟨_, rfl⟩
                  rw [← hz] at cg hz200
                  obtain ⟨z1, hz1⟩ : ∃ z1, z1 = z + Na := ⟨_, rfl⟩
                  obtain ⟨n, hn⟩ : ∃ n, n = z1 + 1 := ⟨_, rfl⟩
                  have qz : IntKind.i64.wrap ((z : Int) + (Na : Int)) = (z1 : Int) := by rw [IntKind.wrap_i64]; omega
                  have qn : IntKind.i64.wrap ((z1 : Int) + 1) = (n : Int) := by rw [IntKind.wrap_i64]; omega
                  have hi200 := HDBN.out
                  obtain ⟨i1, hi1⟩ : ∃ i1, i1 = i + 1 := ⟨_, rfl⟩
                  have qi : IntKind.i64.wrap ((i : Int) + 1) = (i1 : Int) := by rw [IntKind.wrap_i64]; omega
                  obtain ⟨L0, hL0⟩ : ∃ L0, L0 = DA ++ midL CA m ++ (DB.take i).map (· + (Na + 1)) := ⟨_, rfl⟩
                  rw [← hL0] at HOWL
                  have HL0 := Lib.hid hL0
                  have HLL : Hid (L0.length ≤ 1000000) := Lib.hid (by rw [hL0]; have := HDAN.out; have := HDBN.out; unfold midL; split <;> simp <;> omega)
                  have HNV : Hid (n = DB[i] + (Na + 1)) := Lib.hid (by rw [← hz]; omega)
                  have HCS := Lib.hid hcs
                  have HG := Lib.hid hg
                  have HGN := Lib.hid hgne
                  have HIL := Lib.hid hil
                  have HI1 := Lib.hid hi1
                  have HIK := Lib.hid hik
                  have HIN := Lib.hid hi
                  clear hxs hcs hg hgne hz hz1 hn hz200 hN200 hi200 hi hi1 hik hnx hL0
                  go_wp2_with (at_builtin; refine wp_append_i rfl _ _ rfl w5.heap.size vs L0 rfl (own_stays HOWL.out ((Below.refl _ _).alloc (Nat.le_refl _) _)) _ n rfl (by have := one_newI (w := wr) (x := .int .i64 (n : Int)) (t := 3) 0 _ rfl; exact this) HLL.out (Nat.le_trans HBL2.out.size (Nat.le_of_lt (heap_more _ _))) ?_)
                  intro v9 w13 how13 hk13 hor hsz hblk
                  have HNXT : Hid (XLRel w5.heap.size w5 (DA ++ midL CA m) DB (Na + 1) (some ⟨g, 0, none⟩) (gk - 1) v9 (.int .i64 (i1 : Int)) w13) := Lib.hid ⟨_, i1, rfl, by have := HI1.out; have := HIK.out; have := HIN.out; have := HNX.out; omega, rfl, by
                      rw [HNV.out, HL0.out, take_next _ _ _ _ HIL.out, ← HI1.out] at how13
                      exact how13, hk13 _ (HBL2.out.alloc HBL2.out.size _), fun _ => by
                      have hgw := HG.out
                      have hga : g < wr.heap.size + 1 := Nat.lt_succ_of_lt hgw
                      refine ⟨g, rfl, ?_, Nat.lt_of_lt_of_le hga hsz, fun j hj => ?_⟩
                      · intro h
                        rcases hor with h' | h'
                        · exact HGN.out (by rw [← h', h])
                        · rw [h] at h'
                          injection h' with h'
                          omega
                      · rw [World.cell?_of_block (w := wr.alloc (.cells #[.int .i64 (n : Int)] 3)) (hblk g hga (fun h => HGN.out h.symm))]
                        rw [((Below.refl wr.heap.size wr).alloc (Nat.le_refl _) _).cell (by exact hgw)]
                        exact HCS.out j hj⟩
                  clear how13 hk13 hor hsz hblk cg
                  go_wp2_with fail
                  go_roundg (gk - 1)
                  case measure => have := HIK.out; have := HIN.out; have := HNX.out; omega
                  case rel => exact HNXT.out

set_option maxRecDepth 20000 in
theorem clusterBehind_any (la lb : List Int) (hla : AllR la) (hlb : AllR lb) (va vb : Value) (w : World) (hva : RunesZ w va la) (hvb : RunesZ w vb lb) (hna : ∀ n c, va = .slice none n c → n = 0 ∧ c = 0) (hnb : ∀ n c, vb = .slice none n c → n = 0 ∧ c = 0) :
    Calls Try.prog 6 #[va, vb] w fun e w' => e = .returned (.bool true) ∧ Below w.heap.size w w' := by
  obtain ⟨T, hT⟩ := tabB
  have hva' := hva
  have hvb' := hvb
  obtain ⟨Aa, ca, rfl, _, _, _⟩ := hva'
  obtain ⟨Ab, cb, rfl, _, _, _⟩ := hvb'
  rename_i g1 g2 g3 g4 g5 g6
  by_cases h1 : la.length ≤ 200
  · by_cases h2 : lb.length ≤ 200
    · exact clusterBehind_some T hT la lb hla hlb Aa Ab _ _ ca cb rfl rfl h1 h2 w hva hvb hna hnb
    · have HW := Lib.hid (fun w => works3_any w)
      have b0 : (200 < (la.length : Int)) = False := eq_false (by omega)
      have b1 : (200 < (lb.length : Int)) = True := eq_true (by omega)
      clear hT hva hvb hna hnb hla hlb g1 g2 g3 g4 g5 g6
      generalize la.length = Na at b0 ⊢
      generalize lb.length = Nb at b1 ⊢
      clear h1 h2
      go_enter Try.func6, Try.ntmps6
      go_wp2_with fail
      refine (HW.out _).mono ?_
      rintro e w1 ⟨rfl, hb1⟩
      go_wp2_with fail
      go_ret
      exact ⟨rfl, hb1⟩
  · have HW := Lib.hid (fun w => works3_any w)
    have b0 : (200 < (la.length : Int)) = True := eq_true (by omega)
    clear hT hva hvb hna hnb hla hlb g1 g2 g3 g4 g5 g6
    generalize la.length = Na at b0 ⊢
    generalize lb.length = Nb at ⊢
    clear h1
    go_enter Try.func6, Try.ntmps6
    go_wp2_with fail
    refine (HW.out _).mono ?_
    rintro e w1 ⟨rfl, hb1⟩
    go_wp2_with fail
    go_ret
    exact ⟨rfl, hb1⟩
end Go.Proofs.Ytjlencmoobanoaa
