/-
  cluster.Bounds.
-/
import Derived.Test.YtjlencmoobanoaaHead
import Derived.Deep.DeepCutAuto
import Derived.WalkMore
import Derived.Lib.SlBytesConst
import Derived.Deep.WholeRow
import Derived.Maps.AppendAt
namespace Go.Proofs.Ytjlencmoobanoaa
open Go Go.RowKit

theorem infoInt : (Try.prog.info? 3).map (fun i => (i.zero, i.size, i.bytes)) = some (some (.int .i64 0), 1, 8) := by kernel_rfl

/-- what lies behind the first statement -/
def HeadR (w : World) (c0 : Nat) (s3 s4 s5 : Value) (w3 : World) : Prop :=
  ∃ sb X lo hi g, s3 = .slice (some ⟨sb, 0, none⟩) 1 1 ∧ s4 = .slice (some ⟨g, 0, none⟩) 11 11 ∧ s5 = .pointer (some ⟨X, 0, none⟩) ∧ Below w.heap.size w w3 ∧ w.heap.size ≤ sb ∧ w.heap.size ≤ X ∧ sb ≠ X ∧ hi ≤ w3.heap.size ∧ (sb < lo ∨ hi ≤ sb) ∧ (X < lo ∨ hi ≤ X) ∧ RulesAt w3 lo hi g ∧ w3.heap[sb]? = some (.cells #[.int .i64 0] 3 (0, 0)) ∧ w3.heap[X]? = some (.cells (pastV (withS past0 c0)).cells 35 (0, 0))

/-- at the head of each round over the rules -/
def InRel (w3 : World) (p : PastS) (c : Nat) (k : Nat) (v : Value) (w4 : World) : Prop :=
  ∃ j : Nat, j + k = 11 ∧ v = .int .i64 (j : Int) ∧ Below w3.heap.size w3 w4 ∧ partR ruleL p c = partR (ruleL.drop j) p c

theorem own_heap {B : Nat} {w w' : World} {v : Value} {ds : List Nat} (h : OwnI B w v ds) {sb : Nat} (hs : v.ownBlock = some sb) (he : w'.heap[sb]? = w.heap[sb]?) : OwnI B w' v ds := by
  have h1 : w.ownsRow B 3 1 v ds.length (ds.map fun d : Nat => Value.int .i64 (d : Int)) := h
  refine ⟨h1.1, ?_⟩
  rcases h1.2 with ⟨rfl, _⟩ | ⟨g, cap, cur, rfl, hb, hg, rest⟩
  · simp [Value.ownBlock] at hs
  · simp [Value.ownBlock] at hs
    subst hs
    exact .inr ⟨g, cap, cur, rfl, hb, by rw [he]; exact hg, rest⟩

theorem own_lt {B : Nat} {w : World} {v : Value} {ds : List Nat} (h : OwnI B w v ds) {sb : Nat} (hs : v.ownBlock = some sb) : sb < w.heap.size := by
  have h1 : w.ownsRow B 3 1 v ds.length (ds.map fun d : Nat => Value.int .i64 (d : Int)) := h
  rcases h1.2 with ⟨rfl, _⟩ | ⟨g, cap, cur, rfl, hb, hg, rest⟩
  · simp [Value.ownBlock] at hs
  · simp [Value.ownBlock] at hs
    subst hs
    rcases Nat.lt_or_ge g w.heap.size with h' | h'
    · exact h'
    · simp [Array.getElem?_eq_none h'] at hg

theorem own_ge {B : Nat} {w : World} {v : Value} {ds : List Nat} (h : OwnI B w v ds) {sb : Nat} (hs : v.ownBlock = some sb) : B ≤ sb := by
  have h1 : w.ownsRow B 3 1 v ds.length (ds.map fun d : Nat => Value.int .i64 (d : Int)) := h
  rcases h1.2 with ⟨rfl, _⟩ | ⟨g, cap, cur, rfl, hb, hg, rest⟩
  · simp [Value.ownBlock] at hs
  · simp [Value.ownBlock] at hs
    subst hs
    exact hb

theorem own_shape {B : Nat} {w : World} {v : Value} {ds : List Nat} (h : OwnI B w v ds) {sb : Nat} (hs : v.ownBlock = some sb) : ∃ cap, v = .slice (some ⟨sb, 0, none⟩) ds.length cap := by
  have h1 : w.ownsRow B 3 1 v ds.length (ds.map fun d : Nat => Value.int .i64 (d : Int)) := h
  rcases h1.2 with ⟨rfl, _⟩ | ⟨g, cap, cur, rfl, hb, hg, rest⟩
  · simp [Value.ownBlock] at hs
  · simp [Value.ownBlock] at hs
    subst hs
    exact ⟨cap, rfl⟩

theorem own_row_lt {w : World} {k : Nat} {o : Obj} (h : w.heap[k]? = some o) : k < w.heap.size := by
  rcases Nat.lt_or_ge k w.heap.size with h' | h'
  · exact h'
  · simp [Array.getElem?_eq_none h'] at h

theorem one_newI {w : World} {x : Value} {t : TypeId} : ∀ j u, [x][j]? = some u → (w.alloc (.cells #[x] t)).cell? ((⟨w.heap.size, 0, none⟩ : Addr).add j) = some u := by
  intro j u hj
  rw [add_flat, Nat.zero_add, cell_of_row _ w.heap.size j _ _ _ (heap_alloc_new w _)]
  simpa using hj

/-- at the head of each round over the text -/
def BRel (W : World) (C : List Nat) (N X lo hi g : Nat) (k : Nat) (vs vi : Value) (wr : World) : Prop :=
  ∃ (i : Nat) (p : PastS) (acc : List Nat), i + k = N ∧ 1 ≤ i ∧ vi = .int .i64 (i : Int) ∧ OwnI W.heap.size wr vs acc ∧ ∃ sb, vs.ownBlock = some sb ∧ sb ≠ X ∧ (sb < lo ∨ hi ≤ sb) ∧ wr.heap[X]? = some (.cells (pastV p).cells 35 (0, 0)) ∧ RulesAt wr lo hi g ∧ hi ≤ wr.heap.size ∧ Below W.heap.size W wr ∧ p.last < 14 ∧ boundsL C = acc ++ boundFrom p (C.drop i) i ∧ acc.length ≤ i

set_option maxHeartbeats 20000000 in
set_option maxRecDepth 20000 in
theorem bounds_any (T : List (Int × Int × Int)) (hT : TabC T) (l : List Int) (v : Value) (w : World) (hv : RunesZ w v l) (hlen : l.length ≤ 1000000) :
    Calls Try.prog 10 #[v] w fun e w' => Below w.heap.size w w' ∧ ∃ r, e = .returned r ∧ OwnI w.heap.size w' r (boundsL (l.map (clsN T))) := by
  obtain ⟨i0, hi0I, hz0I, hs0I, hb0I⟩ : ∃ i0, Try.prog.info? 3 = some i0 ∧ i0.zero = some (.int .i64 0) ∧ i0.size = 1 ∧ i0.bytes = 8 := by
    have := infoInt
    cases hq : Try.prog.info? 3 with
    | none => rw [hq] at this; cases this
    | some i0 =>
      rw [hq] at this
      simp only [Option.map_some, Option.some.injEq, Prod.mk.injEq] at this
      exact ⟨i0, rfl, this.1, this.2.1, this.2.2⟩
  obtain ⟨A, cap, rfl, hcap, hcap2, hx⟩ := hv
  obtain ⟨N, hN⟩ : ∃ N, N = l.length := ⟨_, rfl⟩
  have HN := Lib.hid hN
  rw [← hN]
  rw [← hN] at hcap hlen
  cases l with
  | nil =>
    have b0 : ((N : Int) == 0) = true := by rw [hN]; rfl
    clear hx
    go_enter Try.func10, Try.ntmps10
    go_wp2_with fail
    go_step3
    go_wp2_with fail
    rw [Exit.noGoto_ret]
    go_ret
    exact ⟨Below.refl _ _, _, rfl, OwnI.nil _ _⟩
  | cons x0 rest =>
    obtain ⟨g0, off, rfl, hg0, hcell⟩ := hx (by simp)
    have hN1 : 1 ≤ N := by rw [hN]; simp
    have c0 := hcell 0 (by simp)
    simp only [List.getElem_cons_zero, Nat.add_zero] at c0
    have HC := Lib.hid hcell
    have HTC := Lib.hid hT
    have hNI : (N : Int) ≤ 1000000 := by omega
    have hNp : (0 : Int) < (N : Int) := by omega
    have b0 : ((N : Int) == 0) = false := by simp; omega
    have hNn : 0 < N := by omega
    have z0 : (0 : Int) ≤ 0 := Int.le_refl _
    have HCL := Lib.hid (hT.code x0)
    obtain ⟨k0, hk0⟩ : ∃ k0, k0 = clsN T x0 := ⟨_, rfl⟩
    rw [← hk0] at HCL
    obtain ⟨b1, hb1⟩ : ∃ x, x = (withS past0 k0).pict := ⟨_, rfl⟩
    obtain ⟨b2, hb2⟩ : ∃ x, x = (withS past0 k0).joined := ⟨_, rfl⟩
    obtain ⟨b3, hb3⟩ : ∃ x, x = (withS past0 k0).odd := ⟨_, rfl⟩
    have hpv : pastV (withS past0 k0) = .agg #[.int .u8 (k0 : Int), .bool b1, .bool b2, .bool b3] := by rw [hb1, hb2, hb3]; rfl
    have HWI : Hid (∀ w, Calls Try.prog 17 #[.agg #[.int .u8 0, .bool false, .bool false, .bool false], .int .u8 (k0 : Int)] w fun e w' => e = .returned (.agg #[.int .u8 (k0 : Int), .bool b1, .bool b2, .bool b3]) ∧ Below w.heap.size w w') := Lib.hid (fun w => by rw [← hpv]; exact with_any past0 k0 w)
    have HPV := Lib.hid hpv
    obtain ⟨C, hC⟩ : ∃ C, C = (x0 :: rest).map (clsN T) := ⟨_, rfl⟩
    rw [← hC]
    have HCC := Lib.hid hC
    have HK0 := Lib.hid hk0
    clear hx hcell hT hN hk0 hb1 hb2 hb3 hpv hC
    go_enter Try.func10, Try.ntmps10
    go_wp2_with fail
    go_step3
    go_upto_region 3 with fail
    go_cut [3, 4, 5] from 11 to 63 (fun s3 s4 s5 w3 => HeadR w k0 s3 s4 s5 w3)
    case first =>
      refine wp_region_inv (HeadI w g0 off N cap k0 x0 b1 b2 b3) (by kernel_rfl) (low_of (by kernel_rfl)) ?_ ?_ ?_
      · exact ⟨false, false, false, false, false, false, false, false, false, false, false, false, undef, undef, undef, undef, undef, undef, undef, undef, undef, undef, undef, 0, 0, 0, 0, 0, rfl, rfl, (Below.refl _ w).drew, c0, (fun h => by cases h), (fun h => by cases h), (fun h => by cases h), (fun h => by cases h), (fun h => by cases h), (fun h => by cases h), (fun h => by cases h), (fun h => by cases h), (fun h => by cases h), (fun h => by cases h), (fun h => by cases h), (fun h => by cases h), (fun h => by cases h), (fun h => by cases h), (fun h => by cases h)⟩
      · intro listed i a w1 hs hi hI
        obtain ⟨c0, c1, c2, c3, c4, c5, c6, c7, c8, c9, c10, c11, t3, t4, t5, t14, t15, t16, t17, t18, t19, t20, t21, sb, lo, hi, g, X, rfl, rfl, FB, FS, F0, F1, F8, A01, A81, A08, F2, F3, F4, F5, F6, F7, F9, F10, F11⟩ := hI
        have dd := fun d => deps_done hi d
        obtain ⟨hcl, oo, hoo, _⟩ := mem_ready.1 hi
        have hlt : i < 12 := (Array.getElem?_eq_some_iff.1 hoo).1
        clear hi hoo hs
        rcases (show i = 0 ∨ i = 1 ∨ i = 2 ∨ i = 3 ∨ i = 4 ∨ i = 5 ∨ i = 6 ∨ i = 7 ∨ i = 8 ∨ i = 9 ∨ i = 10 ∨ i = 11 by omega) with rfl | rfl | rfl | rfl | rfl | rfl | rfl | rfl | rfl | rfl | rfl | rfl
        · have hc : c0 = false := hcl
          refine wpOp_plain rfl rfl ?_
          go_simp
          have hb : Below w1.heap.size w1 (w1.alloc (.cells #[.int .i64 0] 3)) := (Below.refl _ w1).alloc (Nat.le_refl _) _
          exact ⟨true, c1, c2, c3, c4, c5, c6, c7, c8, c9, c10, c11, t3, t4, t5, _, t15, t16, t17, t18, t19, t20, t21, w1.heap.size, lo, hi, g, X, rfl, rfl, FB.trans (hb.mono FB.size), cell_below FS hb, (fun _ => ⟨rfl, FB.size, heap_more _ _, heap_alloc_new w1 _⟩), (fun h => by obtain ⟨e1, e2, e3⟩ := F1 h; exact ⟨e1, e2.keep (KeptR.below hb e3), Nat.le_trans e3 hb.size⟩), (fun h => by obtain ⟨e1, e2, e3, e4⟩ := F8 h; exact ⟨e1, e2, Nat.lt_of_lt_of_le e3 hb.size, by rw [hb.block _ e3]; exact e4⟩), (fun _ h => .inr (F1 h).2.2), A81, (fun _ h => by have := (F8 h).2.2.1; omega), F2, F3, F4, F5, F6, F7, (fun h => by have := (F9 h).1; rw [hc] at this; cases this), F10, F11⟩
        · have hc : c1 = false := hcl
          refine wpOp_plain rfl rfl ?_
          go_simp
          refine (rules_any w1).mono ?_
          rintro e w2 ⟨hb, gr, rfl, hr⟩
          exact ⟨c0, true, c2, c3, c4, c5, c6, c7, c8, c9, c10, c11, t3, t4, t5, t14, _, t16, t17, t18, t19, t20, t21, sb, w1.heap.size, w2.heap.size, gr, X, rfl, rfl, FB.trans (hb.mono FB.size), cell_below FS hb, (fun h => by obtain ⟨e1, e2, e3, e4⟩ := F0 h; exact ⟨e1, e2, Nat.lt_of_lt_of_le e3 hb.size, by rw [hb.block _ e3]; exact e4⟩), (fun _ => ⟨rfl, hr, Nat.le_refl _⟩), (fun h => by obtain ⟨e1, e2, e3, e4⟩ := F8 h; exact ⟨e1, e2, Nat.lt_of_lt_of_le e3 hb.size, by rw [hb.block _ e3]; exact e4⟩), (fun h _ => .inl (F0 h).2.2.1), (fun h _ => .inl (F8 h).2.2.1), A08, F2, F3, F4, F5, F6, F7, F9, (fun h => by have := (F10 h).1; rw [hc] at this; cases this), F11⟩
        · have hc : c2 = false := hcl
          refine wpOp_plain rfl rfl ?_
          go_simp
          exact ⟨c0, c1, true, c3, c4, c5, c6, c7, c8, c9, c10, c11, t3, t4, t5, t14, t15, _, t17, t18, t19, t20, t21, sb, lo, hi, g, X, rfl, rfl, FB, FS, F0, F1, F8, A01, A81, A08, (fun _ => rfl), F3, F4, F5, F6, F7, F9, F10, F11⟩
        · have hc : c3 = false := hcl
          refine wpOp_plain rfl rfl ?_
          go_simp
          exact ⟨c0, c1, c2, true, c4, c5, c6, c7, c8, c9, c10, c11, t3, t4, t5, t14, t15, t16, _, t18, t19, t20, t21, sb, lo, hi, g, X, rfl, rfl, FB, FS, F0, F1, F8, A01, A81, A08, F2, (fun _ => rfl), F4, F5, F6, F7, F9, F10, F11⟩
        · have hc : c4 = false := hcl
          refine wpOp_plain rfl rfl ?_
          obtain rfl := F3 (dd 3 (of_decide_eq_true (by kernel_rfl)))
          go_simp
          exact ⟨c0, c1, c2, c3, true, c5, c6, c7, c8, c9, c10, c11, t3, t4, t5, t14, t15, t16, _, _, t19, t20, t21, sb, lo, hi, g, X, rfl, rfl, FB, FS, F0, F1, F8, A01, A81, A08, F2, (fun _ => rfl), (fun _ => rfl), F5, F6, F7, F9, F10, F11⟩
        · have hc : c5 = false := hcl
          refine wpOp_plain rfl rfl ?_
          obtain rfl := F4 (dd 4 (of_decide_eq_true (by kernel_rfl)))
          go_simp
          exact ⟨c0, c1, c2, c3, c4, true, c6, c7, c8, c9, c10, c11, t3, t4, t5, t14, t15, t16, t17, _, _, t20, t21, sb, lo, hi, g, X, rfl, rfl, FB, FS, F0, F1, F8, A01, A81, A08, F2, F3, (fun _ => rfl), (fun _ => rfl), F6, F7, F9, F10, F11⟩
        · have hc : c6 = false := hcl
          refine wpOp_plain rfl rfl ?_
          obtain rfl := F5 (dd 5 (of_decide_eq_true (by kernel_rfl)))
          go_simp
          refine (HCL.out w1).mono ?_
          rintro e w2 ⟨rfl, rfl⟩
          exact ⟨c0, c1, c2, c3, c4, c5, true, c7, c8, c9, c10, c11, t3, t4, t5, t14, t15, t16, t17, t18, _, _, t21, sb, lo, hi, g, X, rfl, rfl, FB, FS, F0, F1, F8, A01, A81, A08, F2, F3, F4, (fun _ => rfl), (fun _ => rfl), F7, F9, F10, F11⟩
        · have hc : c7 = false := hcl
          refine wpOp_plain rfl rfl ?_
          obtain rfl := F2 (dd 2 (of_decide_eq_true (by kernel_rfl)))
          obtain rfl := F6 (dd 6 (of_decide_eq_true (by kernel_rfl)))
          go_simp
          refine (HWI.out w1).mono ?_
          rintro e w2 ⟨rfl, hb⟩
          exact ⟨c0, c1, c2, c3, c4, c5, c6, true, c8, c9, c10, c11, t3, t4, t5, t14, t15, _, t17, t18, t19, _, _, sb, lo, hi, g, X, rfl, rfl, FB.trans (hb.mono FB.size), cell_below FS hb, (fun h => by obtain ⟨e1, e2, e3, e4⟩ := F0 h; exact ⟨e1, e2, Nat.lt_of_lt_of_le e3 hb.size, by rw [hb.block _ e3]; exact e4⟩), (fun h => by obtain ⟨e1, e2, e3⟩ := F1 h; exact ⟨e1, e2.keep (KeptR.below hb e3), Nat.le_trans e3 hb.size⟩), (fun h => by obtain ⟨e1, e2, e3, e4⟩ := F8 h; exact ⟨e1, e2, Nat.lt_of_lt_of_le e3 hb.size, by rw [hb.block _ e3]; exact e4⟩), A01, A81, A08, (fun _ => rfl), F3, F4, F5, (fun _ => rfl), (fun _ => rfl), F9, F10, F11⟩
        · have hc : c8 = false := hcl
          refine wpOp_plain rfl rfl ?_
          go_simp
          have hb : Below w1.heap.size w1 (w1.alloc (.cells #[.int .u8 0, .bool false, .bool false, .bool false] 35)) := (Below.refl _ w1).alloc (Nat.le_refl _) _
          have hc11 : c11 = false := by
            cases h : c11 with
            | false => rfl
            | true => have := F11 h; rw [hc] at this; cases this
          have hnewc : (w1.alloc (.cells #[.int .u8 0, .bool false, .bool false, .bool false] 35)).heap[w1.heap.size]? = some (.cells (if c11 then #[.int .u8 (k0 : Int), .bool b1, .bool b2, .bool b3] else #[.int .u8 0, .bool false, .bool false, .bool false]) 35 (0, 0)) := by
            subst hc11
            exact heap_alloc_new w1 _
          exact ⟨c0, c1, c2, c3, c4, c5, c6, c7, true, c9, c10, c11, t3, t4, _, t14, t15, t16, t17, t18, t19, t20, t21, sb, lo, hi, g, w1.heap.size, rfl, rfl, FB.trans (hb.mono FB.size), cell_below FS hb, (fun h => by obtain ⟨e1, e2, e3, e4⟩ := F0 h; exact ⟨e1, e2, Nat.lt_of_lt_of_le e3 hb.size, by rw [hb.block _ e3]; exact e4⟩), (fun h => by obtain ⟨e1, e2, e3⟩ := F1 h; exact ⟨e1, e2.keep (KeptR.below hb e3), Nat.le_trans e3 hb.size⟩), (fun _ => ⟨rfl, FB.size, heap_more _ _, hnewc⟩), A01, (fun _ h => .inr (F1 h).2.2), (fun h _ => by have := (F0 h).2.2.1; omega), F2, F3, F4, F5, F6, F7, F9, F10, (fun h => absurd (hc11.symm.trans h) (by decide))⟩
        · have hc : c9 = false := hcl
          refine wpOp_plain rfl rfl ?_
          go_simp
          exact ⟨c0, c1, c2, c3, c4, c5, c6, c7, c8, true, c10, c11, _, t4, t5, t14, t15, t16, t17, t18, t19, t20, t21, sb, lo, hi, g, X, rfl, rfl, FB, FS, F0, F1, F8, A01, A81, A08, F2, F3, F4, F5, F6, F7, (fun _ => ⟨dd 0 (of_decide_eq_true (by kernel_rfl)), rfl⟩), F10, F11⟩
        · have hc : c10 = false := hcl
          refine wpOp_plain rfl rfl ?_
          go_simp
          exact ⟨c0, c1, c2, c3, c4, c5, c6, c7, c8, c9, true, c11, t3, _, t5, t14, t15, t16, t17, t18, t19, t20, t21, sb, lo, hi, g, X, rfl, rfl, FB, FS, F0, F1, F8, A01, A81, A08, F2, F3, F4, F5, F6, F7, F9, (fun _ => ⟨dd 1 (of_decide_eq_true (by kernel_rfl)), rfl⟩), F11⟩
        · have hc : c11 = false := hcl
          refine wpOp_plain rfl rfl ?_
          have d8 : c8 = true := dd 8 (of_decide_eq_true (by kernel_rfl))
          obtain ⟨rfl, e2, e3, e4⟩ := F8 d8
          obtain rfl := F7 (dd 7 (of_decide_eq_true (by kernel_rfl)))
          rw [hc] at e4
          simp only [Bool.false_eq_true, if_false] at e4
          have hst := run_storeVar_row (P := Try.prog) w1 X 35 35 _ #[.int .u8 (k0 : Int), .bool b1, .bool b2, .bool b3] e4 (by kernel_rfl) rfl (by simp [Value.oneCell'])
          refine wp_store_row' _ _ _ rfl X _ rfl rfl hst ?_
          have hlt : X < w1.heap.size := e3
          exact ⟨c0, c1, c2, c3, c4, c5, c6, c7, c8, c9, c10, true, t3, t4, _, t14, t15, t16, t17, t18, t19, t20, _, sb, lo, hi, g, X, rfl, rfl, (FB.trans ⟨rfl, rfl, rfl, by simp, fun k hk => setRow_other w1 X k _ (by omega)⟩), (by rw [cell_setRow_other w1 X _ _ (by show g0 ≠ X; omega)]; exact FS), (fun h => by obtain ⟨p1, p2, p3, p4⟩ := F0 h; exact ⟨p1, p2, by simpa using p3, by rw [setRow_other w1 X sb _ (A08 h d8)]; exact p4⟩), (fun h => by obtain ⟨p1, p2, p3⟩ := F1 h; exact ⟨p1, p2.keep (fun k h1 h2 => setRow_other w1 X k _ (by have := A81 d8 h; omega)), by simpa using p3⟩), (fun _ => ⟨rfl, e2, by simpa using e3, setRow_heap w1 X _ _ _ _ e4⟩), A01, A81, A08, F2, F3, F4, F5, F6, (fun _ => rfl), F9, F10, (fun _ => d8)⟩
      · intro listed a w1 hs hall hI
        obtain ⟨c0, c1, c2, c3, c4, c5, c6, c7, c8, c9, c10, c11, t3, t4, t5, t14, t15, t16, t17, t18, t19, t20, t21, sb, lo, hi, g, X, rfl, rfl, FB, FS, F0, F1, F8, A01, A81, A08, F2, F3, F4, F5, F6, F7, F9, F10, F11⟩ := hI
        have d0 : c0 = true := hall 0 (by decide)
        have d1 : c1 = true := hall 1 (by decide)
        have d8 : c8 = true := hall 8 (by decide)
        have d9 : c9 = true := hall 9 (by decide)
        have d10 : c10 = true := hall 10 (by decide)
        have d11 : c11 = true := hall 11 (by decide)
        obtain ⟨e1, e2, e3, e4⟩ := F0 d0
        obtain ⟨f1, f2, f3⟩ := F1 d1
        obtain ⟨g1, g2, g3, g4⟩ := F8 d8
        obtain ⟨_, rfl⟩ := F9 d9
        obtain ⟨_, rfl⟩ := F10 d10
        subst e1
        subst f1
        subst g1
        rw [d11, if_pos rfl] at g4
        go_wp2_with fail
        go_meet
        exact ⟨sb, X, lo, hi, g, rfl, rfl, rfl, FB, e2, g2, A08 d0 d8, f3, A01 d0 d1, A81 d8 d1, f2, e4, by rw [HPV.out]; exact g4⟩
    case rest =>
      obtain ⟨sb, X, lo, hi, g, rfl, rfl, rfl, hbw, hsb, hX, hsX, hhi, hslo, hXlo, hra, hsc, hxc⟩ := hcut
      have HSTART : Hid (boundsL C = [0] ++ boundFrom (withS past0 k0) (C.drop 1) 1) := Lib.hid (by rw [HCC.out, HK0.out]; rfl)
      have HL0 : Hid ((withS past0 k0).last < 14) := Lib.hid (by show k0 < 14; rw [HK0.out]; exact cls_lt HTC.out.ok _)
      have HOW : Hid (OwnI w.heap.size wc (.slice (some ⟨sb, 0, none⟩) 1 1) [0]) := Lib.hid ⟨rfl, .inr ⟨sb, 1, _, rfl, hsb, hsc, Nat.le_refl _, by unfold maxLen; omega, rfl, rfl⟩⟩
      have HB := Lib.hid hbw
      have HRA := Lib.hid hra
      have HXC := Lib.hid hxc
      obtain ⟨P0, hP0⟩ : ∃ P0, P0 = withS past0 k0 := ⟨_, rfl⟩
      rw [← hP0] at HSTART HL0 HXC
      clear hsc hxc hra hbw hP0 HK0 HPV HWI HCL c0 hg0
      go_wp2_with fail
      go_step3
      go_wp2_with fail
      go_loopg [3, 6] (N - 1) (fun k vs vi wr => BRel w C N X lo hi g k vs vi wr)
      case atStart => exact ⟨1, P0, [0], by omega, by omega, rfl, HOW.out, sb, rfl, hsX, hslo, HXC.out, HRA.out, hhi, HB.out, HL0.out, HSTART.out, by simp⟩
      case round =>
        obtain ⟨i, p, acc, hik, hi1, rfl, how, sb1, hsb1, hs1X, hs1lo, hxc, hra, hhi1, hbw, hpl, hst, hal⟩ := hrel
        obtain ⟨cap1, rfl⟩ := own_shape how hsb1
        have HOW1 := Lib.hid how
        have HB1 := Lib.hid hbw
        have HRA1 := Lib.hid hra
        have HXC1 := Lib.hid hxc
        have HST1 := Lib.hid hst
        clear how hbw hra hxc hst
        rcases Nat.eq_zero_or_pos gk with h0 | h0
        · have hiN : i = N := by omega
          subst hiN
          have HE : Hid (boundsL C = acc) := Lib.hid (by
            rw [HST1.out, List.drop_of_length_le (by have := HN.out; rw [HCC.out, List.length_map]; omega)]; simp [boundFrom])
          go_wp2_with fail
          rw [Exit.noGoto_ret]
          go_ret
          exact ⟨HB1.out, _, rfl, by rw [HE.out]; exact HOW1.out⟩
        · have hiN : i < N := by omega
          have hil : i < (x0 :: rest).length := by have := HN.out; omega
          have c1 := HC.out i hil
          obtain ⟨x, hx⟩ : ∃ x, x = (x0 :: rest)[i] := ⟨_, rfl⟩
          rw [← hx] at c1
          have c2 : wr.cell? ⟨g0, off + i, none⟩ = some (.int .i32 x) := cell_below c1 HB1.out
          have HCL := Lib.hid (HTC.out.code x)
          obtain ⟨c, hc⟩ : ∃ c, c = clsN T x := ⟨_, rfl⟩
          rw [← hc] at HCL
          have hc14 : c < 14 := by rw [hc]; exact cls_lt HTC.out.ok _
          have hdrop : C.drop i = c :: C.drop (i + 1) := by
            have hiC : i < C.length := by rw [HCC.out, List.length_map]; exact hil
            rw [List.drop_eq_getElem_cons hiC]
            congr 1
            have : C[i]? = some (clsN T (x0 :: rest)[i]) := by rw [HCC.out, List.getElem?_map, List.getElem?_eq_getElem hil]; rfl
            rw [List.getElem?_eq_getElem hiC] at this
            rw [hc, hx]; exact Option.some.inj this
          have HDR := Lib.hid hdrop
          obtain ⟨pl, pi, jo, od⟩ := p
          have y0 : wr.cell? ⟨X, 0, none⟩ = some (.int .u8 (pl : Int)) := by rw [cell_of_row _ X 0 _ _ _ HXC1.out]; rfl
          have y1 : wr.cell? ⟨X, 1, none⟩ = some (.bool pi) := by rw [cell_of_row _ X 1 _ _ _ HXC1.out]; rfl
          have y2 : wr.cell? ⟨X, 2, none⟩ = some (.bool jo) := by rw [cell_of_row _ X 2 _ _ _ HXC1.out]; rfl
          have y3 : wr.cell? ⟨X, 3, none⟩ = some (.bool od) := by rw [cell_of_row _ X 3 _ _ _ HXC1.out]; rfl
          have hiI : (i : Int) < (N : Int) := by omega
          have hi0 : (0 : Int) ≤ (i : Int) := Int.natCast_nonneg _
          clear c1 hx hc hdrop
          go_wp2_with fail
          refine (HCL.out _).mono ?_
          rintro e w' ⟨rfl, rfl⟩
          go_wp2_with fail
          obtain ⟨q1, hq1⟩ : ∃ z, z = (withS ⟨pl, pi, jo, od⟩ c).pict := ⟨_, rfl⟩
          obtain ⟨q2, hq2⟩ : ∃ z, z = (withS ⟨pl, pi, jo, od⟩ c).joined := ⟨_, rfl⟩
          obtain ⟨q3, hq3⟩ : ∃ z, z = (withS ⟨pl, pi, jo, od⟩ c).odd := ⟨_, rfl⟩
          have hwq : withS ⟨pl, pi, jo, od⟩ c = ⟨c, q1, q2, q3⟩ := by rw [hq1, hq2, hq3]; rfl
          have hcw : Calls Try.prog 17 #[.agg #[.int .u8 (pl : Int), .bool pi, .bool jo, .bool od], .int .u8 (c : Int)] (wr.alloc (.cells #[.int .u8 (pl : Int), .bool pi, .bool jo, .bool od] 35)) fun e w' => e = .returned (.agg #[.int .u8 (c : Int), .bool q1, .bool q2, .bool q3]) ∧ Below (wr.alloc (.cells #[.int .u8 (pl : Int), .bool pi, .bool jo, .bool od] 35)).heap.size (wr.alloc (.cells #[.int .u8 (pl : Int), .bool pi, .bool jo, .bool od] 35)) w' := by
            have h := with_any ⟨pl, pi, jo, od⟩ c (wr.alloc (.cells #[.int .u8 (pl : Int), .bool pi, .bool jo, .bool od] 35))
            rw [hwq] at h
            exact h
          have HWQ := Lib.hid hwq
          clear hq1 hq2 hq3 hwq
          refine Calls.mono hcw ?_
          rintro e w2 ⟨rfl, hb2⟩
          obtain ⟨Hh, hHh⟩ : ∃ Hh, Hh = wr.heap.size := ⟨_, rfl⟩
          have hxlt : X < wr.heap.size := World.block_lt_of_cell? wr _ y0
          have hxc2 : w2.heap[X]? = some (.cells #[.int .u8 (pl : Int), .bool pi, .bool jo, .bool od] 35 (0, 0)) := by
            rw [hb2.block X (Nat.lt_trans hxlt (heap_more _ _)), Below.heap_alloc _ _ _ hxlt]; exact HXC1.out
          have hhc2 : w2.heap[Hh]? = some (.cells #[.int .u8 (pl : Int), .bool pi, .bool jo, .bool od] 35 (0, 0)) := by
            rw [hHh, hb2.block _ (heap_more _ _)]; exact heap_alloc_new wr _
          have hbb : Below wr.heap.size wr w2 := ((Below.refl _ wr).alloc (Nat.le_refl _) _).trans (hb2.mono (Nat.le_of_lt (heap_more _ _)))
          have hst := run_storeVar_row (P := Try.prog) w2 X 35 35 _ #[.int .u8 (c : Int), .bool q1, .bool q2, .bool q3] hxc2 (by kernel_rfl) rfl (by simp [Value.oneCell'])
          obtain ⟨w3, hw3⟩ : ∃ w3, w3 = w2.setRow X #[.int .u8 (c : Int), .bool q1, .bool q2, .bool q3] := ⟨_, rfl⟩
          rw [← hw3] at hst
          have HST3 := Lib.hid hst
          have hx3 : w3.heap[X]? = some (.cells #[.int .u8 (c : Int), .bool q1, .bool q2, .bool q3] 35 (0, 0)) := by rw [hw3]; exact setRow_heap w2 X _ _ _ _ hxc2
          have ho3 : ∀ k, k ≠ X → w3.heap[k]? = w2.heap[k]? := fun k hk => by rw [hw3]; exact setRow_other w2 X k _ hk
          have hs3 : w3.heap.size = w2.heap.size := by rw [hw3]; simp
          have hb3 : Below w.heap.size w2 w3 := by rw [hw3]; exact ⟨rfl, rfl, rfl, by simp, fun k hk => setRow_other w2 X k _ (by omega)⟩
          have HXC2 := Lib.hid hxc2
          have HHC2 := Lib.hid hhc2
          have HBB := Lib.hid hbb
          have hXH : X < Hh := by rw [hHh]; exact hxlt
          rw [← hHh]
          have hH2 : Hh < w2.heap.size := by rw [hHh]; exact Nat.lt_of_lt_of_le (heap_more _ _) hb2.size
          have HHI : Hid (hi ≤ Hh) := Lib.hid (by rw [hHh]; exact hhi1)
          have HO3 := Lib.hid ho3
          have HX3 := Lib.hid hx3
          have HB3 := Lib.hid hb3
          clear hxc2 hhc2 hbb hb2 hcw y0 y1 y2 y3 c2 hHh hst hx3 ho3 hb3 hw3
          go_wp2_with (refine wpList_store_row rfl _ _ _ rfl X _ rfl rfl HST3.out ?_)
          have hh3 : w3.heap[Hh]? = some (.cells #[.int .u8 (pl : Int), .bool pi, .bool jo, .bool od] 35 (0, 0)) := by rw [HO3.out Hh (by omega)]; exact HHC2.out
          have hra3 : RulesAt w3 lo hi g := HRA1.out.keep (fun k h1 h2 => by rw [HO3.out k (by omega), HBB.out.block k (by omega)])
          have how3 : OwnI w.heap.size w3 (.slice (some ⟨sb1, 0, none⟩) acc.length cap1) acc := own_heap HOW1.out hsb1 (by
            have hlt : sb1 < wr.heap.size := own_lt HOW1.out hsb1
            rw [HO3.out sb1 hs1X, HBB.out.block sb1 hlt])
          have hbw3 : Below w.heap.size w w3 := (HB1.out.trans (HBB.out.mono HB1.out.size)).trans HB3.out
          have hhi3 : hi ≤ w3.heap.size := by have := HHI.out; omega
          have hhl3 : Hh < w3.heap.size := by omega
          have HH3 := Lib.hid hh3
          have HRA3 := Lib.hid hra3
          have HOW3 := Lib.hid how3
          have HBW3 := Lib.hid hbw3
          have HK1 := Lib.hid hik
          have hg0' := h0
          have HGK := Lib.hid h0
          obtain ⟨gk1, hgk1⟩ : ∃ gk1, gk1 = gk := ⟨_, rfl⟩
          have HGK1 := Lib.hid hgk1
          clear hh3 hra3 how3 hbw3 hgk1
          go_loopg [39] 11 (fun k v w4 => InRel w3 ⟨pl, pi, jo, od⟩ c k v w4)
          case atStart => exact ⟨0, by omega, rfl, Below.refl _ _, rfl⟩
          case round =>
            obtain ⟨j, hj, rfl, hb4, hpr⟩ := hrel
            have HB4 := Lib.hid hb4
            have HPR := Lib.hid hpr
            clear hb4 hpr
            have hwr4 : w3.heap.size ≤ wr.heap.size := HB4.out.size
            have hrow4 : wr.heap[Hh]? = some (.cells #[.int .u8 (pl : Int), .bool pi, .bool jo, .bool od] 35 (0, 0)) := by rw [HB4.out.block Hh hhl3]; exact HH3.out
            have HROW4 := Lib.hid hrow4
            clear hrow4
            rcases Nat.eq_zero_or_pos gk with h9 | h9
            · have HPE : Hid (partR ruleL ⟨pl, pi, jo, od⟩ c = true) := Lib.hid (by
                rw [HPR.out, List.drop_of_length_le (by show 11 ≤ j; omega)]; rfl)
              have hj11' : j = 11 := by omega
              subst hj11'
              have hbq := HB4.out
              have how5 : OwnI w.heap.size wr (.slice (some ⟨sb1, 0, none⟩) acc.length cap1) acc := own_heap HOW3.out hsb1 (hbq.block sb1 (own_lt HOW3.out hsb1))
              have hpt5 : boundsL C = (acc ++ [i]) ++ boundFrom ⟨c, q1, q2, q3⟩ (C.drop (i + 1)) (i + 1) := by
                rw [HST1.out, HDR.out, boundFrom, HWQ.out]
                have e : partS ⟨pl, pi, jo, od⟩ c = true := HPE.out
                rw [e, if_pos rfl, List.append_assoc]
              have hxr5 : wr.heap[X]? = some (.cells #[.int .u8 (c : Int), .bool q1, .bool q2, .bool q3] 35 (0, 0)) := by rw [hbq.block X (by omega)]; exact HX3.out
              have hra5 := HRA3.out.keep (KeptR.below hbq hhi3)
              have hbw5 := HBW3.out.trans (hbq.mono HBW3.out.size)
              have hsz5 := hbq.size
              have hsl5 : sb1 < w3.heap.size := own_lt HOW3.out hsb1
              have hnew5 := one_newI (w := wr) (x := .int .i64 (i : Int)) (t := 3)
              have HOW5 := Lib.hid how5
              have HPT5 := Lib.hid hpt5
              have HXR5 := Lib.hid hxr5
              have HRA5 := Lib.hid hra5
              have HBW5 := Lib.hid hbw5
              have HAL := Lib.hid hal
              clear hbq how5 hpt5 hxr5 hra5 hbw5
              go_wp2_with (at_builtin; refine wpList_append_own_at (P := Try.prog) _ rfl _ _ 24 rfl w.heap.size 3 i0 (.int .i64 0) 1 8 Try.underlying24 hi0I hz0I hs0I hb0I rfl (by decide) _ acc.length _ rfl (own_heap HOW5.out hsb1 (Below.heap_alloc _ _ _ (by omega))) ⟨wr.heap.size, 0, none⟩ 1 1 [.int .i64 (i : Int)] rfl rfl hnew5 (fun u hu => by obtain rfl := List.mem_singleton.1 hu; rfl) (by unfold maxLen; have := HAL.out; omega) (by have := HAL.out; omega) (Nat.le_trans HBW5.out.size (Nat.le_of_lt (heap_more _ _))) ?_)
              intro v' w6 hown' hgrow _ hlies
              have hk6 : ∀ k, k < wr.heap.size → k ≠ sb1 → w6.heap[k]? = wr.heap[k]? := fun k hk hne => by
                rw [hgrow.block k (Nat.lt_trans hk (heap_more _ _)) (by intro e; injection e with e; exact hne e), Below.heap_alloc _ _ _ hk]
              have hx6 : w6.heap[X]? = some (.cells #[.int .u8 (c : Int), .bool q1, .bool q2, .bool q3] 35 (0, 0)) := by rw [hk6 X (by omega) (by omega)]; exact HXR5.out
              have hr6 := HRA5.out.keep (fun k h1 h2 => hk6 k (by omega) (by omega))
              have hsz6 : wr.heap.size ≤ w6.heap.size := Nat.le_trans (Nat.le_of_lt (heap_more _ _)) hgrow.size
              have hb6 : Below w.heap.size w w6 := (HBW5.out.alloc HBW5.out.size _).grown hgrow (Nat.le_trans HBW5.out.size (Nat.le_of_lt (heap_more _ _))) (fun k hk => by injection hk with hk; have := own_ge HOW5.out hsb1; omega)
              obtain ⟨sb6, hsb6, hs6X, hs6lo⟩ : ∃ sb6, v'.ownBlock = some sb6 ∧ sb6 ≠ X ∧ (sb6 < lo ∨ hi ≤ sb6) := by
                rcases hlies with h | h
                · exact ⟨sb1, by rw [h], hs1X, hs1lo⟩
                · exact ⟨_, h, by omega, by omega⟩
              have how6 : OwnI w.heap.size w6 v' (acc ++ [i]) := by unfold OwnI; rw [List.length_append, List.map_append]; exact hown'
              have HOW6 := Lib.hid how6
              have HX6 := Lib.hid hx6
              have HR6 := Lib.hid hr6
              have HB6 := Lib.hid hb6
              clear hown' hgrow hlies hk6 hx6 hr6 hb6 how6 hnew5
              go_wp2
              go_roundg (gk1 - 1)
              case measure => have := HGK1.out; have := HGK.out; omega
              case rel => exact ⟨i + 1, ⟨c, q1, q2, q3⟩, acc ++ [i], by have := HGK1.out; have := HGK.out; have := HK1.out; omega, by omega, by first | rfl | exact congrArg _ (by omega), HOW6.out, sb6, hsb6, hs6X, hs6lo, HX6.out, HR6.out, by omega, HB6.out, hc14, HPT5.out, by have := HAL.out; simp; omega⟩
            · have hj11 : j < 11 := by omega
              have hjl : j < ruleL.length := hj11
              obtain ⟨va, vb, d1, d2, d3, fa, fb⟩ := (HRA3.out.keep (KeptR.below HB4.out hhi3)).2.2 j hjl
              have hdr : ruleL.drop j = ruleL[j] :: ruleL.drop (j + 1) := List.drop_eq_getElem_cons hjl
              obtain ⟨R, hR⟩ : ∃ R, R = ruleL[j] := ⟨_, rfl⟩
              rw [← hR] at d3 fa fb hdr
              obtain ⟨ka, kb, pr⟩ := R
              simp only [] at d3 fa fb
              have HPN : Hid (partR ruleL ⟨pl, pi, jo, od⟩ c = if tells ⟨pl, pi, jo, od⟩ c (ka, kb, pr) then pr else partR (ruleL.drop (j + 1)) ⟨pl, pi, jo, od⟩ c) := Lib.hid (by rw [HPR.out, hdr, partR])
              have hhi4 : hi ≤ wr.heap.size := by omega
              obtain ⟨fA, capA, ⟨hvA, henA⟩, hcA0⟩ := callA (fa.keep (KeptR.below ((Below.refl _ wr).alloc (Nat.le_refl _) (.cells #[va, vb, .bool pr] 39)) hhi4)) (Nat.le_of_lt (Nat.lt_of_le_of_lt hhi4 (heap_more _ _)))
              obtain ⟨fB, capB, ⟨hvB, henB⟩, _⟩ := callB fb
              have hcA := hcA0 ⟨pl, pi, jo, od⟩ (by show pl < 16; have : pl < 14 := hpl; omega)
              obtain ⟨b1', hba⟩ : ∃ z, z = ka.says ⟨pl, pi, jo, od⟩ := ⟨_, rfl⟩
              rw [← hba] at hcA
              clear hcA0
              have HBA := Lib.hid hba
              obtain ⟨wz, hwz⟩ : ∃ wz, wz = wr.alloc (.cells #[va, vb, .bool pr] 39) := ⟨_, rfl⟩
              have hbz : Below wr.heap.size wr wz := by rw [hwz]; exact (Below.refl _ wr).alloc (Nat.le_refl _) _
              rw [← hwz] at hcA
              have HZB := Lib.hid hbz
              have hhz : wz.heap[Hh]? = some (.cells #[.int .u8 (pl : Int), .bool pi, .bool jo, .bool od] 35 (0, 0)) := by rw [hbz.block Hh (by omega)]; exact HROW4.out
              have y0 : wz.cell? ⟨Hh, 0, none⟩ = some (.int .u8 (pl : Int)) := by rw [cell_of_row _ Hh 0 _ _ _ hhz]; rfl
              have y1 : wz.cell? ⟨Hh, 1, none⟩ = some (.bool pi) := by rw [cell_of_row _ Hh 1 _ _ _ hhz]; rfl
              have y2 : wz.cell? ⟨Hh, 2, none⟩ = some (.bool jo) := by rw [cell_of_row _ Hh 2 _ _ _ hhz]; rfl
              have y3 : wz.cell? ⟨Hh, 3, none⟩ = some (.bool od) := by rw [cell_of_row _ Hh 3 _ _ _ hhz]; rfl
              have hrow : wz.heap[wr.heap.size]? = some (.cells #[va, vb, .bool pr] 39 (0, 0)) := by rw [hwz]; exact heap_alloc_new wr _
              have e0 : wz.cell? ⟨wr.heap.size, 0, none⟩ = some va := by rw [cell_of_row _ wr.heap.size 0 _ _ _ hrow]; rfl
              have e1 : wz.cell? ⟨wr.heap.size, 1, none⟩ = some vb := by rw [cell_of_row _ wr.heap.size 1 _ _ _ hrow]; rfl
              have e2 : wz.cell? ⟨wr.heap.size, 2, none⟩ = some (.bool pr) := by rw [cell_of_row _ wr.heap.size 2 _ _ _ hrow]; rfl
              have HROWZ := Lib.hid hrow
              have heq := hwz.symm
              have hsn : (storeVar 39 ⟨wr.heap.size, 0, none⟩ (.agg #[va, vb, .bool pr])).run Try.prog (wr.alloc (.cells #[.nilFunc, .nilFunc, .bool false] 39)) = .ok () wz := by
                rw [hwz]
                exact run_storeVar_new wr _ _ _ (by kernel_rfl) rfl (by rw [hvA, hvB]; simp [Value.oneCell'])
              have HSN := Lib.hid hsn
              have hjI : (j : Int) < 11 := by omega
              have hj0 : (0 : Int) ≤ (j : Int) := Int.natCast_nonneg _
              subst hvA
              subst hvB
              clear hR hdr fa hba hwz hbz hhz hrow hsn heq
              have HFB := Lib.hid fb
              clear fb
              go_wp2_with (refine wpList_store_row rfl _ _ _ rfl wr.heap.size _ rfl rfl HSN.out ?_)
              refine Calls.mono hcA ?_
              rintro e wy ⟨rfl, hby⟩
              have HBY := Lib.hid ((HB4.out.trans (HZB.out.mono hwr4)).trans (hby.mono (Nat.le_trans hwr4 HZB.out.size)))
              have hbyz := HZB.out.trans (hby.mono HZB.out.size)
              have hrowy : wy.heap[wr.heap.size]? = some (.cells #[.func (.func fA) #[] capA, .func (.func fB) #[] capB, .bool pr] 39 (0, 0)) := by rw [hby.block _ (own_row_lt HROWZ.out)]; exact HROWZ.out
              have g1 : wy.cell? ⟨wr.heap.size, 1, none⟩ = some (.func (.func fB) #[] capB) := by rw [cell_of_row _ wr.heap.size 1 _ _ _ hrowy]; rfl
              have HROWY := Lib.hid hrowy
              have HYZ := Lib.hid hbyz
              clear hby hbyz hrowy hcA e0 e1 e2 y0 y1 y2 y3
              cases b1' with
              | false =>
                have HNX : Hid (partR ruleL ⟨pl, pi, jo, od⟩ c = partR (ruleL.drop (j + 1)) ⟨pl, pi, jo, od⟩ c) := Lib.hid (by
                  rw [HPN.out]
                  have e : tells ⟨pl, pi, jo, od⟩ c (ka, kb, pr) = false := by unfold tells; simp only []; rw [← HBA.out]; rfl
                  rw [e]; rfl)
                go_wp2_with fail
                go_roundg (gk - 1)
                case measure => omega
                case rel => exact ⟨j + 1, by omega, by first | rfl | exact congrArg _ (by omega), HBY.out, HNX.out⟩
              | true =>
                obtain ⟨fB', capB', ⟨hvB', _⟩, hcB0⟩ := callB (HFB.out.keep (KeptR.below HYZ.out hhi4))
                obtain ⟨rfl, rfl⟩ : fB = fB' ∧ capB = capB' := by
                  injection hvB' with e1 _ e3
                  injection e1 with e1
                  exact ⟨e1, e3⟩
                have hcB := hcB0 c (by omega)
                clear hcB0
                obtain ⟨b2', hbb⟩ : ∃ z, z = kb.says c := ⟨_, rfl⟩
                rw [← hbb] at hcB
                have HBBK := Lib.hid hbb
                clear hvB' hbb
                go_wp2_with fail
                refine Calls.mono hcB ?_
                rintro e wu ⟨rfl, hbu⟩
                have HBU := Lib.hid (HBY.out.trans (hbu.mono HBY.out.size))
                have hrowu : wu.heap[wr.heap.size]? = some (.cells #[.func (.func fA) #[] capA, .func (.func fB) #[] capB, .bool pr] 39 (0, 0)) := by rw [hbu.block _ (own_row_lt HROWY.out)]; exact HROWY.out
                have g2 : wu.cell? ⟨wr.heap.size, 2, none⟩ = some (.bool pr) := by rw [cell_of_row _ wr.heap.size 2 _ _ _ hrowu]; rfl
                clear hbu hrowu hcB g1
                cases b2' with
                | false =>
                  have HNX : Hid (partR ruleL ⟨pl, pi, jo, od⟩ c = partR (ruleL.drop (j + 1)) ⟨pl, pi, jo, od⟩ c) := Lib.hid (by
                    rw [HPN.out]
                    have e : tells ⟨pl, pi, jo, od⟩ c (ka, kb, pr) = false := by unfold tells; simp only []; rw [← HBA.out, ← HBBK.out]; rfl
                    rw [e]; rfl)
                  go_wp2_with fail
                  go_roundg (gk - 1)
                  case measure => omega
                  case rel => exact ⟨j + 1, by omega, by first | rfl | exact congrArg _ (by omega), HBU.out, HNX.out⟩
                | true =>
                  have HPP : Hid (partR ruleL ⟨pl, pi, jo, od⟩ c = pr) := Lib.hid (by
                    rw [HPN.out]
                    have e : tells ⟨pl, pi, jo, od⟩ c (ka, kb, pr) = true := by unfold tells; simp only []; rw [← HBA.out, ← HBBK.out]; rfl
                    rw [e]; rfl)
                  cases pr with
                  | false =>
                    have hbq := HBU.out
                    have how5 : OwnI w.heap.size wu (.slice (some ⟨sb1, 0, none⟩) acc.length cap1) acc := own_heap HOW3.out hsb1 (hbq.block sb1 (own_lt HOW3.out hsb1))
                    have hpt5 : boundsL C = acc ++ boundFrom ⟨c, q1, q2, q3⟩ (C.drop (i + 1)) (i + 1) := by
                      rw [HST1.out, HDR.out, boundFrom, HWQ.out]
                      have e : partS ⟨pl, pi, jo, od⟩ c = false := HPP.out
                      rw [e]; rfl
                    have hxr5 : wu.heap[X]? = some (.cells #[.int .u8 (c : Int), .bool q1, .bool q2, .bool q3] 35 (0, 0)) := by rw [hbq.block X (by omega)]; exact HX3.out
                    have hra5 := HRA3.out.keep (KeptR.below hbq hhi3)
                    have hbw5 := HBW3.out.trans (hbq.mono HBW3.out.size)
                    have hsz5 := hbq.size
                    have HOW5 := Lib.hid how5
                    have HPT5 := Lib.hid hpt5
                    have HXR5 := Lib.hid hxr5
                    have HRA5 := Lib.hid hra5
                    have HBW5 := Lib.hid hbw5
                    have HAL := Lib.hid hal
                    clear hbq how5 hpt5 hxr5 hra5 hbw5
                    go_wp2_with fail
                    go_roundg (gk1 - 1)
                    case measure => have := HGK1.out; have := HGK.out; omega
                    case rel => exact ⟨i + 1, ⟨c, q1, q2, q3⟩, acc, by have := HGK1.out; have := HGK.out; have := HK1.out; omega, by omega, by first | rfl | exact congrArg _ (by omega), HOW5.out, sb1, hsb1, hs1X, hs1lo, HXR5.out, HRA5.out, by omega, HBW5.out, hc14, HPT5.out, by have := HAL.out; omega⟩
                  | true =>
                    have hbq := HBU.out
                    have how5 : OwnI w.heap.size wu (.slice (some ⟨sb1, 0, none⟩) acc.length cap1) acc := own_heap HOW3.out hsb1 (hbq.block sb1 (own_lt HOW3.out hsb1))
                    have hpt5 : boundsL C = (acc ++ [i]) ++ boundFrom ⟨c, q1, q2, q3⟩ (C.drop (i + 1)) (i + 1) := by
                      rw [HST1.out, HDR.out, boundFrom, HWQ.out]
                      have e : partS ⟨pl, pi, jo, od⟩ c = true := HPP.out
                      rw [e, if_pos rfl, List.append_assoc]
                    have hxr5 : wu.heap[X]? = some (.cells #[.int .u8 (c : Int), .bool q1, .bool q2, .bool q3] 35 (0, 0)) := by rw [hbq.block X (by omega)]; exact HX3.out
                    have hra5 := HRA3.out.keep (KeptR.below hbq hhi3)
                    have hbw5 := HBW3.out.trans (hbq.mono HBW3.out.size)
                    have hsz5 := hbq.size
                    have hsl5 : sb1 < w3.heap.size := own_lt HOW3.out hsb1
                    have hnew5 := one_newI (w := wu) (x := .int .i64 (i : Int)) (t := 3)
                    have HOW5 := Lib.hid how5
                    have HPT5 := Lib.hid hpt5
                    have HXR5 := Lib.hid hxr5
                    have HRA5 := Lib.hid hra5
                    have HBW5 := Lib.hid hbw5
                    have HAL := Lib.hid hal
                    clear hbq how5 hpt5 hxr5 hra5 hbw5
                    go_wp2_with (at_builtin; refine wpList_append_own_at (P := Try.prog) _ rfl _ _ 24 rfl w.heap.size 3 i0 (.int .i64 0) 1 8 Try.underlying24 hi0I hz0I hs0I hb0I rfl (by decide) _ acc.length _ rfl (own_heap HOW5.out hsb1 (Below.heap_alloc _ _ _ (by omega))) ⟨wu.heap.size, 0, none⟩ 1 1 [.int .i64 (i : Int)] rfl rfl hnew5 (fun u hu => by obtain rfl := List.mem_singleton.1 hu; rfl) (by unfold maxLen; have := HAL.out; omega) (by have := HAL.out; omega) (Nat.le_trans HBW5.out.size (Nat.le_of_lt (heap_more _ _))) ?_)
                    intro v' w6 hown' hgrow _ hlies
                    have hk6 : ∀ k, k < wu.heap.size → k ≠ sb1 → w6.heap[k]? = wu.heap[k]? := fun k hk hne => by
                      rw [hgrow.block k (Nat.lt_trans hk (heap_more _ _)) (by intro e; injection e with e; exact hne e), Below.heap_alloc _ _ _ hk]
                    have hx6 : w6.heap[X]? = some (.cells #[.int .u8 (c : Int), .bool q1, .bool q2, .bool q3] 35 (0, 0)) := by rw [hk6 X (by omega) (by omega)]; exact HXR5.out
                    have hr6 := HRA5.out.keep (fun k h1 h2 => hk6 k (by omega) (by omega))
                    have hsz6 : wu.heap.size ≤ w6.heap.size := Nat.le_trans (Nat.le_of_lt (heap_more _ _)) hgrow.size
                    have hb6 : Below w.heap.size w w6 := (HBW5.out.alloc HBW5.out.size _).grown hgrow (Nat.le_trans HBW5.out.size (Nat.le_of_lt (heap_more _ _))) (fun k hk => by injection hk with hk; have := own_ge HOW5.out hsb1; omega)
                    obtain ⟨sb6, hsb6, hs6X, hs6lo⟩ : ∃ sb6, v'.ownBlock = some sb6 ∧ sb6 ≠ X ∧ (sb6 < lo ∨ hi ≤ sb6) := by
                      rcases hlies with h | h
                      · exact ⟨sb1, by rw [h], hs1X, hs1lo⟩
                      · exact ⟨_, h, by omega, by omega⟩
                    have how6 : OwnI w.heap.size w6 v' (acc ++ [i]) := by unfold OwnI; rw [List.length_append, List.map_append]; exact hown'
                    have HOW6 := Lib.hid how6
                    have HX6 := Lib.hid hx6
                    have HR6 := Lib.hid hr6
                    have HB6 := Lib.hid hb6
                    clear hown' hgrow hlies hk6 hx6 hr6 hb6 how6 hnew5
                    go_wp2
                    go_roundg (gk1 - 1)
                    case measure => have := HGK1.out; have := HGK.out; omega
                    case rel => exact ⟨i + 1, ⟨c, q1, q2, q3⟩, acc ++ [i], by have := HGK1.out; have := HGK.out; have := HK1.out; omega, by omega, by first | rfl | exact congrArg _ (by omega), HOW6.out, sb6, hsb6, hs6X, hs6lo, HX6.out, HR6.out, by omega, HB6.out, hc14, HPT5.out, by have := HAL.out; simp; omega⟩
end Go.Proofs.Ytjlencmoobanoaa
