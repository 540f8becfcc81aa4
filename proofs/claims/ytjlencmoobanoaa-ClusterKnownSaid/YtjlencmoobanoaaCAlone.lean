/-
  ClusterAlone.
-/
import Derived.Test.YtjlencmoobanoaaAlone2
import Derived.Test.YtjlencmoobanoaaCBounds
import Derived.Deep.CutRange
namespace Go.Proofs.Ytjlencmoobanoaa
open Go Go.RowKit

set_option maxRecDepth 20000 in
theorem lawEnds_any (c : Nat) (w : World) : Calls Try.prog 15 #[.int .u8 (c : Int)] w fun e w' => e = .returned (.bool (endsN c)) ∧ w = w' := by
  rcases (show c = 0 ∨ (1 ≤ c ∧ c ≤ 3) ∨ 4 ≤ c by omega) with h | ⟨h1, h2⟩ | h
  · have HE : Hid (endsN c = false) := Lib.hid (by subst h; rfl)
    have b1 : ((1 : Int) ≤ (c : Int)) = False := eq_false (by omega)
    generalize endsN c = z at HE ⊢
    clear h
    go_enter Try.func15, Try.ntmps15
    go_wp2_with fail
    go_ret
    exact ⟨by rw [HE.out]; rfl, rfl⟩
  · have HE : Hid (endsN c = true) := Lib.hid (by
      rcases (show c = 1 ∨ c = 2 ∨ c = 3 by omega) with rfl | rfl | rfl <;> rfl)
    have b1 : ((1 : Int) ≤ (c : Int)) = True := eq_true (by omega)
    have b2 : ((c : Int) ≤ 3) = True := eq_true (by omega)
    generalize endsN c = z at HE ⊢
    clear h1 h2
    go_enter Try.func15, Try.ntmps15
    go_wp2_with fail
    go_ret
    exact ⟨by rw [HE.out]; rfl, rfl⟩
  · have HE : Hid (endsN c = false) := Lib.hid (by unfold endsN; simp; omega)
    have b1 : ((1 : Int) ≤ (c : Int)) = True := eq_true (by omega)
    have b2 : ((c : Int) ≤ 3) = False := eq_false (by omega)
    generalize endsN c = z at HE ⊢
    clear h
    go_enter Try.func15, Try.ntmps15
    go_wp2_with fail
    go_ret
    exact ⟨by rw [HE.out]; rfl, rfl⟩

def CARel (w1 : World) (C b : List Nat) (M k : Nat) (vi : Value) (wr : World) : Prop := ∃ i : Nat, i + k = M ∧ vi = .int .i64 (i : Int) ∧ Below w1.heap.size w1 wr ∧ AlS C b i

def CKRel (w1 : World) (s tq k : Nat) (vi : Value) (wr : World) : Prop := ∃ j : Nat, j + k = tq ∧ s ≤ j ∧ vi = .int .i64 (j : Int) ∧ Below w1.heap.size w1 wr

set_option maxHeartbeats 4000000 in
set_option maxRecDepth 20000 in
theorem clusterAlone_some (T : List (Int × Int × Int)) (hT : TabC T) (l : List Int) (hl : AllR l) (g off cap N : Nat) (hN : N = l.length) (h1 : 1 ≤ N) (h300 : N ≤ 300) (hcap : N ≤ cap) (hcap2 : cap ≤ 9223372036854775807) (w : World) (hcell : ∀ (j : Nat) (h : j < l.length), w.cell? ⟨g, off + j, none⟩ = some (.int .i32 l[j])) (hg : g < w.heap.size) :
    Calls Try.prog 5 #[.slice (some ⟨g, off, none⟩) N cap] w fun e w' => e = .returned (.bool true) ∧ Below w.heap.size w w' := by
  have HW := Lib.hid (fun w => works3_any w)
  have HS : Hid (∀ (a b : Value) w, IntsR w a [0] → IntsR w b [0] → Calls Try.prog 11 #[a, b] w fun e w' => e = .returned (.bool true) ∧ Below w.heap.size w w') := Lib.hid (fun a b w ha hb => sameI_any [0] a b w ha hb (by decide))
  have HE := Lib.hid (fun c w => lawEnds_any c w)
  obtain ⟨C, hC⟩ : ∃ C, C = clsL T l := ⟨_, rfl⟩
  have hC14 : ∀ c ∈ C, c < 14 := by
    intro c hc
    rw [hC] at hc
    obtain ⟨x, _, rfl⟩ := List.mem_map.1 hc
    exact cls_lt hT.ok x
  have hCl : C.length = N := by rw [hC, hN]; simp [clsL]
  obtain ⟨b, hbd⟩ : ∃ b, b = boundsL C := ⟨_, rfl⟩
  obtain ⟨M, hM⟩ : ∃ M, M = b.length := ⟨_, rfl⟩
  have hfirst : b[0]? = some 0 ∧ M ≤ N ∧ 1 ≤ M := by
    rw [hM, hbd, ← hCl]
    cases hCC : C with
    | nil => rw [hCC] at hCl; simp at hCl; omega
    | cons c C' =>
      refine ⟨rfl, ?_, by simp [boundsL]⟩
      have := boundFrom_len C' (withS past0 c) 1
      simp [boundsL]; omega
  obtain ⟨hb0, hMN, hM1⟩ := hfirst
  have HDC : Hid (∀ (j : Nat) (h : j < l.length) w1, Calls Try.prog 14 #[.int .i32 l[j]] w1 fun e w' => e = .returned (.int .u8 ((C.getD j 0 : Nat) : Int)) ∧ Below w1.heap.size w1 w') := Lib.hid (fun j h w1 => by
    have := hT.doc l[j] (hl _ (List.getElem_mem _)) w1
    have e : C.getD j 0 = clsN T l[j] := by rw [hC]; simp [clsL, h]
    rw [e]; exact this)
  have HB0 : Hid (Calls Try.prog 10 #[.slice (some ⟨g, off, none⟩) N cap] w fun e w' => Below w.heap.size w w' ∧ ∃ r, e = .returned r ∧ OwnI w.heap.size w' r b) := Lib.hid (by
    have hz : RunesZ w (.slice (some ⟨g, off, none⟩) N cap) l := ⟨_, cap, by rw [hN], by omega, hcap2, fun _ => ⟨g, off, rfl, hg, hcell⟩⟩
    have := bounds_any T hT l _ w hz (by omega)
    rw [hbd, hC]; exact this)
  have HBN : Hid (∀ w1, Below w.heap.size w w1 → ∀ f q, f < q → q ≤ N → Calls Try.prog 10 #[.slice (some ⟨g, off + f, none⟩) (q - f) (cap - f)] w1 fun e w' => Below w1.heap.size w1 w' ∧ ∃ r, e = .returned r ∧ OwnI w1.heap.size w' r (boundsL ((C.drop f).take (q - f)))) := Lib.hid (by
    intro w1 hb f q hfq hqN
    have hpl : ((l.drop f).take (q - f)).length = q - f := by simp; omega
    have hz : RunesZ w1 (.slice (some ⟨g, off + f, none⟩) (q - f) (cap - f)) ((l.drop f).take (q - f)) := by
      refine ⟨some ⟨g, off + f, none⟩, cap - f, by rw [hpl], by omega, by omega, fun _ => ⟨g, off + f, rfl, by have := hb.size; omega, fun j hj => ?_⟩⟩
      rw [hpl] at hj
      have hj2 : f + j < l.length := by omega
      have := hcell (f + j) hj2
      rw [hb.cell (by exact hg), Nat.add_assoc]
      rw [this]
      simp
    have := bounds_any T hT _ _ w1 hz (by omega)
    rwa [show ((l.drop f).take (q - f)).map (clsN T) = (C.drop f).take (q - f) by rw [hC]; unfold clsL; rw [List.map_take, List.map_drop]] at this)
  have HCL : Hid (∀ w1, Below w.heap.size w w1 → ∀ (j : Nat) (h : j < l.length), w1.cell? ⟨g, off + j, none⟩ = some (.int .i32 l[j])) := Lib.hid (fun w1 hb j h => by rw [hb.cell (by exact hg)]; exact hcell j h)
  have bN : (300 < (N : Int)) = False := eq_false (by omega)
  have bN0 : (0 < N) = True := eq_true (by omega)
  have bM0 : ((M : Int) == 0) = false := by simp; omega
  have m0 : (0 : Int) < (M : Int) := by omega
  have HM := Lib.hid hM
  have HN := Lib.hid hN
  have HC14 := Lib.hid hC14
  have HCLN := Lib.hid hCl
  have HMN := Lib.hid hMN
  have HBST : Hid (AlS C b 0) := Lib.hid (by rw [hbd]; exact al_start C)
  have HBF := Lib.hid hb0
  have HCAP := Lib.hid hcap
  have H300 := Lib.hid h300
  clear hM hN hC14 hCl hMN hb0 hC hbd hT hl hcell hg h1 h300 hcap hcap2 hM1
  go_enter Try.func5, Try.ntmps5
  go_wp2_with fail
  refine (HB0.out).mono ?_
  rintro e w1 ⟨hb1, r, rfl, how⟩
  obtain ⟨A1, c1, rfl, hm1, hm2, hx1⟩ := how.read
  obtain ⟨g1, rfl, hg1, hcb⟩ := hx1 (by rintro rfl; have := HM.out; simp at this; omega)
  have HCB : Hid (∀ wx, Below w1.heap.size w1 wx → ∀ (j x : Nat), b[j]? = some x → wx.cell? ⟨g1, j, none⟩ = some (.int .i64 (x : Int))) := Lib.hid (fun wx hb j x hj => by
    rw [hb.cell (by exact hg1)]
    obtain ⟨hjl, rfl⟩ := List.getElem?_eq_some_iff.1 hj
    exact hcb j hjl)
  have HB1 := Lib.hid hb1
  rw [← HM.out]
  have cb0 : w1.cell? ⟨g1, 0, none⟩ = some (.int .i64 0) := HCB.out w1 (Below.refl _ _) 0 0 HBF.out
  clear how hm1 hm2 hx1 hg1 hcb hb1
  go_wp2_with fail
  go_loopg [4] M (fun k vi wr => CARel w1 C b M k vi wr)
  case atStart => exact ⟨0, by omega, rfl, Below.refl _ _, HBST.out⟩
  case round =>
    obtain ⟨i, hik, rfl, hb, hal⟩ := hrel
    have HBW := Lib.hid hb
    clear hb
    by_cases hi : i = M
    · have bi : ((i : Int) < (M : Int)) = False := eq_false (by omega)
      clear hi hik hal
      go_wp2_with fail
      refine (HW.out _).mono ?_
      rintro e w6 ⟨rfl, hb6⟩
      have HB6 := Lib.hid (HB1.out.trans ((HBW.out.trans (hb6.mono HBW.out.size)).mono HB1.out.size))
      clear hb6
      go_wp2_with fail
      go_ret
      exact ⟨rfl, HB6.out⟩
    · have hiM : i < M := by omega
      obtain ⟨s, hs⟩ : ∃ s, b[i]? = some s := ⟨b[i]'(by rw [← HM.out]; exact hiM), by simp⟩
      have hdrop : b.drop i = s :: b.drop (i + 1) := by
        obtain ⟨hl, e⟩ := List.getElem?_eq_some_iff.1 hs
        rw [List.drop_eq_getElem_cons hl, e]
      obtain ⟨tq, hto⟩ : ∃ tq, tq = ((b.drop (i + 1)).head?).getD N := ⟨_, rfl⟩
      obtain ⟨p1, p2, p3, p4, p5, p6⟩ := al_step C b HC14.out i hal s _ hdrop tq (by rw [hto, HCLN.out])
      rw [HCLN.out] at p2
      have HTO1 : i + 1 < M → Hid (b[i + 1]? = some tq) := fun h => Lib.hid (by
        have hl : i + 1 < b.length := by rw [← HM.out]; exact h
        rw [hto, List.head?_drop, List.getElem?_eq_getElem hl]; rfl)
      have HTO2 : ¬ i + 1 < M → Hid (N = tq) := fun h => Lib.hid (by
        have hl : b.length ≤ i + 1 := by rw [← HM.out]; omega
        rw [hto, List.head?_drop, List.getElem?_eq_none hl]; rfl)
      have H3 := HBN.out
      have HPC : Hid (∀ w2, Below w.heap.size w w2 → Calls Try.prog 10 #[.slice (some ⟨g, off + s, none⟩) (tq - s) (cap - s)] w2 fun e w' => Below w2.heap.size w2 w' ∧ ∃ r, e = .returned r ∧ OwnI w2.heap.size w' r [0]) := Lib.hid (fun w2 h2 => by
        have := H3 w2 h2 s tq p1 p2
        rwa [p3] at this)
      have H300' := H300.out
      have HCAP' := HCAP.out
      have HMN' := HMN.out
      have hsl : s < l.length := by have := HN.out; omega
      obtain ⟨x, hx⟩ : ∃ x, x = l[s] := ⟨_, rfl⟩
      obtain ⟨c, hc⟩ : ∃ c, c = C.getD s 0 := ⟨_, rfl⟩
      have HX : Hid (∀ w1, Calls Try.prog 14 #[.int .i32 x] w1 fun e w' => e = .returned (.int .u8 (c : Int)) ∧ Below w1.heap.size w1 w') := Lib.hid (by rw [hx, hc]; exact HDC.out s hsl)
      have HXC : Hid (∀ w1, Below w.heap.size w w1 → w1.cell? ⟨g, off + s, none⟩ = some (.int .i32 x)) := Lib.hid (fun w1 h => by rw [hx]; exact HCL.out w1 h s hsl)
      rw [← hc] at p4
      have HP5 : Hid (∀ k, s ≤ k → k < tq → endsN (C.getD k 0) = true → 1 < tq - s → tq - s = 2 ∧ c = 1 ∧ C.getD (tq - 1) 0 = 2) := Lib.hid (by rw [hc]; exact p5)
      have HP4 := Lib.hid p4
      have HP1 := Lib.hid p1
      have HP2 := Lib.hid p2
      have HSB := Lib.hid hs
      have HIK := Lib.hid hik
      have bi : ((i : Int) < (M : Int)) = True := eq_true (by omega)
      have i0 : (0 : Int) ≤ (i : Int) := Int.natCast_nonneg _
      have iM : (i : Int) < (M : Int) := by omega
      obtain ⟨i1, hi1⟩ : ∃ i1, i1 = i + 1 := ⟨_, rfl⟩
      have HI1 := Lib.hid hi1
      have q1 : IntKind.i64.wrap ((i : Int) + 1) = (i1 : Int) := by rw [IntKind.wrap_i64]; omega
      rw [← hi1] at HTO1 HTO2 p6
      have HP6 := Lib.hid p6
      have s0 : (0 : Int) ≤ (s : Int) := Int.natCast_nonneg _
      have sN : (s : Int) < (N : Int) := by omega
      have sto : (s : Int) ≤ (tq : Int) := by omega
      have toc : (tq : Int) ≤ (cap : Int) := by omega
      have t0 : (0 : Int) ≤ (tq : Int) := Int.natCast_nonneg _
      have b3 : ((tq : Int) ≤ (s : Int)) = False := eq_false (by omega)
      have b4 : ((N : Int) < (tq : Int)) = False := eq_false (by omega)
      have scap : s < cap := by omega
      obtain ⟨kk, hkk⟩ : ∃ kk, kk = gk := ⟨_, rfl⟩
      have HKK := Lib.hid hkk
      clear hi hik hal hs hdrop hto p1 p2 p3 p4 p5 p6 H3 H300' HCAP' HMN' hx hc hkk hi1
      go_upto_if 40 with fail
      go_cut [5] from 28 to 155 (fun s5 wx => s5 = .int .i64 (tq : Int) ∧ Below w1.heap.size w1 wx)
      case first =>
        by_cases hj : i1 < M
        · have bj : ((i1 : Int) < (M : Int)) = True := eq_true (by omega)
          have jM : (i1 : Int) < (M : Int) := by omega
          have j0 : (0 : Int) ≤ (i1 : Int) := Int.natCast_nonneg _
          have c2 := HCB.out _ HBW.out i1 tq (HTO1 hj).out
          clear HTO1 HTO2 hj hiM
          go_wp2_with fail
          go_meet
          exact ⟨rfl, HBW.out⟩
        · have bj : ((i1 : Int) < (M : Int)) = False := eq_false (by omega)
          have hNt := HTO2 hj
          clear HTO1 HTO2 hiM
          go_wp2_with fail
          all_goals first | (exfalso; omega) | skip
          go_meet
          exact ⟨by rw [hNt.out], HBW.out⟩
      case rest =>
        obtain ⟨rfl, hbx⟩ := hcut
        have HBX := Lib.hid hbx
        have cs := HCB.out _ hbx i s HSB.out
        clear hbx HTO1 HTO2 hiM
        go_wp2_with fail
        all_goals first | (exfalso; omega) | skip
        refine (HPC.out _ (HB1.out.trans (HBX.out.mono HB1.out.size))).mono ?_
        rintro e w3 ⟨hb3, r, rfl, how3⟩
        have HB3 := Lib.hid (HBX.out.trans (hb3.mono HBX.out.size))
        clear hb3 cs
        go_wp2_with fail
        have ha3 := fun o => (Below.refl w3.heap.size w3).alloc (Nat.le_refl _) o
        refine (HS.out _ _ _ (how3.read.below (ha3 _)) (ints_new w3 [0] _ (by decide))).mono ?_
        rintro e w4 ⟨rfl, hb4⟩
        have HB4 := Lib.hid (HB3.out.trans (((ha3 _).trans (hb4.mono (ha3 _).size)).mono HB3.out.size))
        clear how3 ha3 hb4
        have cs := HCB.out _ HB4.out i s HSB.out
        have cx := HXC.out _ (HB1.out.trans (HB4.out.mono HB1.out.size))
        go_wp2_with fail
        refine (HX.out _).mono ?_
        rintro e w5 ⟨rfl, hb5⟩
        have HB5 := Lib.hid (HB4.out.trans (hb5.mono HB4.out.size))
        clear hb5 cs cx
        go_upto_region 15 with fail
        go_cut [101] from 28 to 155 (fun sr wx => sr = .bool false ∧ Below w1.heap.size w1 wx)
        case first =>
          by_cases h45 : c = 4 ∨ c = 5
          · by_cases hi0 : i = 0
            · have bi0 : (0 < i) = False := eq_false (by omega)
              rcases h45 with h | h
              · have b5 : ((c : Int) == 4) = true := by simp; omega
                clear h hi0
                go_wp2_with fail
                go_meet
                exact ⟨rfl, HB5.out⟩
              · have b5 : ((c : Int) == 4) = false := by simp; omega
                have b6 : ((c : Int) == 5) = true := by simp; omega
                clear h hi0
                go_wp2_with fail
                go_meet
                exact ⟨rfl, HB5.out⟩
            · obtain ⟨hs1, he⟩ := HP4.out (by omega)
              have he := he h45
              obtain ⟨t, ht⟩ : ∃ t, t = s - 1 := ⟨_, rfl⟩
              rw [← ht] at he
              have htl : t < l.length := by omega
              have cs := HCB.out _ HB5.out i s HSB.out
              have ct := HCL.out _ (HB1.out.trans (HB5.out.mono HB1.out.size)) t htl
              have HY := HDC.out t htl
              have hE := HE.out (C.getD t 0)
              rw [he] at hE
              have HE2 := Lib.hid hE
              obtain ⟨y, hy⟩ : ∃ y, y = l[t] := ⟨_, rfl⟩
              obtain ⟨d, hd⟩ : ∃ d, d = C.getD t 0 := ⟨_, rfl⟩
              rw [← hy] at ct HY
              rw [← hd] at HY HE2
              have HY2 := Lib.hid HY
              have q2 : IntKind.i64.wrap ((s : Int) - 1) = (t : Int) := by rw [IntKind.wrap_i64]; have := H300.out; omega
              have t00 : (0 : Int) ≤ (t : Int) := Int.natCast_nonneg _
              have tN : (t : Int) < (N : Int) := by omega
              have bi0 : (0 < i) = True := eq_true (by omega)
              clear HY hE hy hd he ht hs1 hi0 htl
              rcases h45 with h | h
              · have b5 : ((c : Int) == 4) = true := by simp; omega
                clear h
                go_wp2_with fail
                refine (HY2.out _).mono ?_
                rintro e w6 ⟨rfl, hb6⟩
                have HB6 := Lib.hid (HB5.out.trans (hb6.mono HB5.out.size))
                clear hb6 cs ct
                go_wp2_with fail
                refine (HE2.out _).mono ?_
                rintro e w7 ⟨rfl, rfl⟩
                go_wp2_with fail
                go_meet
                exact ⟨rfl, HB6.out⟩
              · have b5 : ((c : Int) == 4) = false := by simp; omega
                have b6 : ((c : Int) == 5) = true := by simp; omega
                clear h
                go_wp2_with fail
                refine (HY2.out _).mono ?_
                rintro e w6 ⟨rfl, hb6⟩
                have HB6 := Lib.hid (HB5.out.trans (hb6.mono HB5.out.size))
                clear hb6 cs ct
                go_wp2_with fail
                refine (HE2.out _).mono ?_
                rintro e w7 ⟨rfl, rfl⟩
                go_wp2_with fail
                go_meet
                exact ⟨rfl, HB6.out⟩
          · have b5 : ((c : Int) == 4) = false := by simp; omega
            have b6 : ((c : Int) == 5) = false := by simp; omega
            clear h45
            go_wp2_with fail
            go_meet
            exact ⟨rfl, HB5.out⟩
        case rest =>
          obtain ⟨rfl, hb6⟩ := hcut
          have HB6 := Lib.hid hb6
          have cs := HCB.out _ hb6 i s HSB.out
          clear hb6
          go_wp2_with fail
          go_loopg [7] (tq - s) (fun k vi wr => CKRel w1 s tq k vi wr)
          case atStart => exact ⟨s, by have := HP1.out; omega, Nat.le_refl _, rfl, HB6.out⟩
          case round =>
            obtain ⟨j, hjk, hsj, rfl, hb7⟩ := hrel
            have HB7 := Lib.hid hb7
            clear hb7 cs
            by_cases hj : j = tq
            · have bj : ((j : Int) < (tq : Int)) = False := eq_false (by omega)
              clear hj hjk hsj
              go_wp2_with fail
              go_roundg (kk - 1)
              case measure => have := HIK.out; have := HKK.out; omega
              case rel => exact ⟨i1, by have := HIK.out; have := HKK.out; have := HI1.out; omega, by first | rfl | exact congrArg _ (by omega), HB7.out, HP6.out⟩
            · have hP2 := HP2.out
              have hP1 := HP1.out
              have h300 := H300.out
              have hjto : j < tq := by omega
              have hjl : j < l.length := by have := HN.out; omega
              have bj : ((j : Int) < (tq : Int)) = True := eq_true (by omega)
              have j0 : (0 : Int) ≤ (j : Int) := Int.natCast_nonneg _
              have jN : (j : Int) < (N : Int) := by omega
              have cs := HCB.out _ HB7.out i s HSB.out
              have cj := HCL.out _ (HB1.out.trans (HB7.out.mono HB1.out.size)) j hjl
              have HY := HDC.out j hjl
              have hE := HE.out (C.getD j 0)
              have hP5 := HP5.out j hsj hjto
              obtain ⟨y, hy⟩ : ∃ y, y = l[j] := ⟨_, rfl⟩
              obtain ⟨d, hd⟩ : ∃ d, d = C.getD j 0 := ⟨_, rfl⟩
              rw [← hy] at cj HY
              rw [← hd] at HY hE hP5
              obtain ⟨n, hn⟩ : ∃ n, n = tq - s := ⟨_, rfl⟩
              obtain ⟨z, hz⟩ : ∃ z, z = tq - 1 := ⟨_, rfl⟩
              rw [← hn, ← hz] at hP5
              have q2 : IntKind.i64.wrap ((tq : Int) - (s : Int)) = (n : Int) := by rw [IntKind.wrap_i64]; omega
              have q3 : IntKind.i64.wrap ((tq : Int) - 1) = (z : Int) := by rw [IntKind.wrap_i64]; omega
              have q4 : IntKind.i64.wrap ((j : Int) + 1) = ((j + 1 : Nat) : Int) := by rw [IntKind.wrap_i64]; omega
              have z0 : (0 : Int) ≤ (z : Int) := Int.natCast_nonneg _
              have zN : (z : Int) < (N : Int) := by omega
              have hzl : z < l.length := by have := HN.out; omega
              have HZ : Hid (∀ w1, Calls Try.prog 14 #[.int .i32 l[z]] w1 fun e w' => e = .returned (.int .u8 ((C.getD z 0 : Nat) : Int)) ∧ Below w1.heap.size w1 w') := Lib.hid (HDC.out z hzl)
              have HZC : Hid (∀ w1, Below w.heap.size w w1 → w1.cell? ⟨g, off + z, none⟩ = some (.int .i32 l[z])) := Lib.hid (fun w1 h => HCL.out w1 h z hzl)
              obtain ⟨u, hu⟩ : ∃ u, u = l[z] := ⟨_, rfl⟩
              obtain ⟨v, hv⟩ : ∃ v, v = C.getD z 0 := ⟨_, rfl⟩
              rw [← hu] at HZ HZC
              rw [← hv] at HZ hP5
              have HY2 := Lib.hid HY
              have HJK := Lib.hid hjk
              have HSJ := Lib.hid hsj
              have HJTO := Lib.hid hjto
              clear HY hy hd hu hv hz hjl hzl hj hjk hsj hjto hP1 hP2 h300
              go_upto_region 20 with fail
              go_cut [155] from 106 to 155 (fun sr wx => sr = .bool false ∧ Below w1.heap.size w1 wx)
              case first =>
                cases hed : endsN d with
                | false =>
                  rw [hed] at hE
                  have HE2 := Lib.hid hE
                  clear hE hed hP5 hn
                  go_wp2_with fail
                  refine (HY2.out _).mono ?_
                  rintro e w8 ⟨rfl, hb8⟩
                  have HB8 := Lib.hid (HB7.out.trans (hb8.mono HB7.out.size))
                  clear hb8 cs cj
                  go_wp2_with fail
                  refine (HE2.out _).mono ?_
                  rintro e w9 ⟨rfl, rfl⟩
                  go_wp2_with fail
                  go_meet
                  exact ⟨rfl, HB8.out⟩
                | true =>
                  rw [hed] at hE
                  have HE2 := Lib.hid hE
                  by_cases hn1 : 1 < n
                  · obtain ⟨e1, e2, e3⟩ := hP5 hed hn1
                    have bn : (1 < (n : Int)) = True := eq_true (by omega)
                    have bn2 : ((n : Int) == 2) = true := by simp; omega
                    have bc : ((c : Int) == 1) = true := by simp; omega
                    have bv : ((v : Int) == 2) = true := by simp; omega
                    clear hE hed hP5 hn hn1 e1 e2 e3
                    go_wp2_with fail
                    refine (HY2.out _).mono ?_
                    rintro e w8 ⟨rfl, hb8⟩
                    have HB8 := Lib.hid (HB7.out.trans (hb8.mono HB7.out.size))
                    clear hb8 cs cj
                    go_wp2_with fail
                    refine (HE2.out _).mono ?_
                    rintro e w9 ⟨rfl, rfl⟩
                    have cs := HCB.out _ HB8.out i s HSB.out
                    have cx := HXC.out _ (HB1.out.trans (HB8.out.mono HB1.out.size))
                    go_wp2_with fail
                    refine (HX.out _).mono ?_
                    rintro e w10 ⟨rfl, hb10⟩
                    have HB10 := Lib.hid (HB8.out.trans (hb10.mono HB8.out.size))
                    clear hb10 cs cx
                    have cz := HZC.out _ (HB1.out.trans (HB10.out.mono HB1.out.size))
                    go_wp2_with fail
                    refine (HZ.out _).mono ?_
                    rintro e w11 ⟨rfl, hb11⟩
                    have HB11 := Lib.hid (HB10.out.trans (hb11.mono HB10.out.size))
                    clear hb11 cz
                    go_wp2_with fail
                    go_meet
                    exact ⟨rfl, HB11.out⟩
                  · have bn : (1 < (n : Int)) = False := eq_false (by omega)
                    clear hE hed hP5 hn hn1
                    go_wp2_with fail
                    refine (HY2.out _).mono ?_
                    rintro e w8 ⟨rfl, hb8⟩
                    have HB8 := Lib.hid (HB7.out.trans (hb8.mono HB7.out.size))
                    clear hb8 cs cj
                    go_wp2_with fail
                    refine (HE2.out _).mono ?_
                    rintro e w9 ⟨rfl, rfl⟩
                    have cs := HCB.out _ HB8.out i s HSB.out
                    go_wp2_with fail
                    go_meet
                    exact ⟨rfl, HB8.out⟩
              case rest =>
                obtain ⟨rfl, hb8⟩ := hcut
                have HB8 := Lib.hid hb8
                clear hb8 cs cj hE hP5 hn
                go_wp2_with fail
                go_roundg (gk - 1)
                case measure => have := HJK.out; have := HJTO.out; omega
                case rel => exact ⟨j + 1, by have := HJK.out; have := HJTO.out; omega, by have := HSJ.out; omega, by first | rfl | exact congrArg _ (by omega), HB8.out⟩

def C0Rel (w1 : World) (k : Nat) (vi : Value) (wr : World) : Prop := k = 0 ∧ vi = .int .i64 0 ∧ Below w1.heap.size w1 wr

set_option maxRecDepth 20000 in
theorem clusterAlone_none (T : List (Int × Int × Int)) (hT : TabC T) (A : Option Addr) (cap : Nat) (w : World) (hv : RunesZ w (.slice A 0 cap) []) :
    Calls Try.prog 5 #[.slice A 0 cap] w fun e w' => e = .returned (.bool true) ∧ Below w.heap.size w w' := by
  have HW := Lib.hid (fun w => works3_any w)
  have HB0 : Hid (Calls Try.prog 10 #[.slice A 0 cap] w fun e w' => Below w.heap.size w w' ∧ ∃ r, e = .returned r ∧ OwnI w.heap.size w' r []) := Lib.hid (bounds_any T hT [] _ w hv (by decide))
  clear hv hT
  go_enter Try.func5, Try.ntmps5
  go_wp2_with fail
  refine (HB0.out).mono ?_
  rintro e w1 ⟨hb1, r, rfl, how⟩
  have HB1 := Lib.hid hb1
  obtain ⟨A1, c1, rfl, hm1, hm2, hx1⟩ := how.read
  rw [List.length_nil]
  clear how hm1 hm2 hx1 hb1
  go_wp2_with fail
  go_loopg [4] 0 (fun k vi wr => C0Rel w1 k vi wr)
  case atStart => exact ⟨rfl, rfl, Below.refl _ _⟩
  case round =>
    obtain ⟨hk, rfl, hb⟩ := hrel
    have HBW := Lib.hid hb
    clear hb hk
    go_wp2_with fail
    refine (HW.out _).mono ?_
    rintro e w6 ⟨rfl, hb6⟩
    have HB6 := Lib.hid (HB1.out.trans ((HBW.out.trans (hb6.mono HBW.out.size)).mono HB1.out.size))
    clear hb6
    go_wp2_with fail
    go_ret
    exact ⟨rfl, HB6.out⟩

set_option maxRecDepth 20000 in
theorem clusterAlone_any (l : List Int) (hl : AllR l) (v : Value) (w : World) (hv : RunesZ w v l) :
    Calls Try.prog 5 #[v] w fun e w' => e = .returned (.bool true) ∧ Below w.heap.size w w' := by
  obtain ⟨T, hT⟩ := tabC
  by_cases hlen : l.length ≤ 300
  · cases l with
    | nil =>
      obtain ⟨A, cap, rfl, h1, h2, h3⟩ := hv
      exact clusterAlone_none T hT A cap w ⟨A, cap, rfl, h1, h2, h3⟩
    | cons x l =>
      obtain ⟨A, cap, rfl, h1, h2, h3⟩ := hv
      obtain ⟨g, off, rfl, hg, hc⟩ := h3 (by simp)
      exact clusterAlone_some T hT (x :: l) hl g off cap _ rfl (by simp) hlen h1 h2 w hc hg
  · have HW := Lib.hid (fun w => works3_any w)
    obtain ⟨A, cap, rfl, _, _, _⟩ := hv
    have b0 : (300 < (l.length : Int)) = True := eq_true (by omega)
    clear hT
    go_enter Try.func5, Try.ntmps5
    go_wp2_with fail
    refine (HW.out _).mono ?_
    rintro e w1 ⟨rfl, hb1⟩
    go_wp2_with fail
    go_ret
    exact ⟨rfl, hb1⟩
end Go.Proofs.Ytjlencmoobanoaa
