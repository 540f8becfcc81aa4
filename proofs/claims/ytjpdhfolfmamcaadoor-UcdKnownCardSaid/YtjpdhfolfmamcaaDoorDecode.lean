/-
  ucd.Decode.
-/
import Derived.Test.YtjpdhfolfmamcaaDoorSound
import Derived.Lib.OthersKept
import Derived.Lib.BufferRead
import Derived.Laws.RangeAny
namespace Go.Proofs.YtjpdhfolfmamcaaDoor
open Go Go.RowKit

theorem bytes_list (s : ByteArray) (j : Nat) (h : j < s.data.toList.length) : (s.data.toList[j]).toNat = byN s j := by
  have h' : j < s.size := by simpa using h
  unfold byN
  simp [ByteArray.get!, h', getElem!_pos]

theorem conv_bytes (w : World) (v : Value) (s : ByteArray) (h : BytesR w v s) : (convert 33 9 v).run Tryd.prog w = .ok (.string s) w := by
  obtain ⟨A, c, rfl, hc, _, hx⟩ := h
  rcases Nat.eq_zero_or_pos s.size with h0 | h0
  · have hs : s = ⟨#[]⟩ := ByteArray.ext (Array.eq_empty_of_size_eq_zero h0)
    subst hs
    cases A with
    | none => exact Lib.run_convert_nil_bytes w 33 9 5 c Tryd.underlying33 Tryd.underlying5 Tryd.underlying9
    | some a => exact run_convert_bytes_back w 33 9 5 a c [] Tryd.underlying33 Tryd.underlying5 Tryd.underlying9 (fun j hj => by simp at hj)
  · obtain ⟨g, off, rfl, hg, hat⟩ := hx h0
    have := run_convert_bytes_back (P := Tryd.prog) w 33 9 5 ⟨g, off, none⟩ c s.data.toList Tryd.underlying33 Tryd.underlying5 Tryd.underlying9 (fun j hj => by
      rw [add_flat, hat.cell j (by simpa using hj), bytes_list s j hj])
    simpa using this

theorem own_not_iter {w : World} {B e size n K i : Nat} {v : Value} {xs : List Value} {s : ByteArray} (h : w.ownsRow B e size v n xs) (hk : w.heap[K]? = some (.stringIter s i)) : v.ownBlock ≠ some K := by
  rcases h.2 with ⟨rfl, _⟩ | ⟨g, cap, cur, rfl, hb, hg, _⟩
  · simp [Value.ownBlock]
  · intro e
    simp [Value.ownBlock] at e
    subst e
    rw [hg] at hk
    cases hk

/-- at the head of each round of Decode's loop -/
def RngRel (w : World) (s : ByteArray) (K N k : Nat) (vl : Value) (wr : World) : Prop :=
  ∃ i acc, i + k = N ∧ OwnU w.heap.size wr vl acc ∧ wr.heap[K]? = some (.stringIter s i) ∧ acc.length ≤ i ∧ fin s i acc = fin s 0 [] ∧ Below w.heap.size w wr

set_option maxHeartbeats 4000000 in
set_option maxRecDepth 20000 in
theorem decode_any (s : ByteArray) (v : Value) (w : World) (hsz : s.size ≤ 1000000) (hv : BytesR w v s) (hT : U8T w) :
    Calls Tryd.prog 16 #[v] w fun e w' => DecEnd w s e w' := by
  obtain ⟨i0, hi0, hz0, hz1, hz2⟩ := info_parts infoI32
  have HS := Lib.hid (sound_any s v w hsz hv hT)
  have HBR := Lib.hid hv
  obtain ⟨A, cap, rfl, hcap, hcap2, hx⟩ := hv
  obtain ⟨N, hN⟩ : ∃ N, N = s.size := ⟨_, rfl⟩
  have HN := Lib.hid hN
  obtain ⟨hb1, hb2, hb3, hb4⟩ := fin_bound s
  obtain ⟨T, hTT⟩ : ∃ T, T = fin s 0 [] := ⟨_, rfl⟩
  have HTT := Lib.hid hTT
  rw [← hTT] at hb1 hb2 hb3 hb4 HS
  rw [← hN] at hb1 hsz hcap HS HBR ⊢
  obtain ⟨acc0, at0⟩ := T
  obtain ⟨M, hM⟩ : ∃ M, M = acc0.length := ⟨_, rfl⟩
  have HM := Lib.hid hM
  simp only [← hM] at HS hb2
  have hMI : (M : Int) ≤ 1000000 := by simp at hb1; omega
  have hM0 : (0 : Int) ≤ (M : Int) := Int.natCast_nonneg _
  have b1 : ((16777216 : Int) < (M : Int)) = False := by simp; omega
  have hNI : (N : Int) ≤ 1000000 := by omega
  have hcI : (N : Int) ≤ (cap : Int) := by omega
  clear hx hN hTT hM hb3 hb4 hT hcap2 hcap
  rcases (show at0 < N ∨ at0 = N by simp at hb1; omega) with hlt | rfl
  · have hltI : (at0 : Int) < (N : Int) := by omega
    have HLT := Lib.hid hlt
    clear hlt hb1 hb2
    go_enter Tryd.func16, Tryd.ntmps16
    go_wp2_with fail
    refine (HS.out).mono ?_
    rintro e w1 ⟨rfl, hb⟩
    have HB := Lib.hid hb
    clear hb
    go_wp2_with fail
    go_ret3
    refine ⟨HB.out, .inl ⟨by rw [← HTT.out, ← HN.out]; exact HLT.out, ?_⟩⟩
    rw [← HTT.out]
    rfl
  · clear hb1 hb2
    go_enter Tryd.func16, Tryd.ntmps16
    go_wp2_with fail
    refine (HS.out).mono ?_
    rintro e w1 ⟨rfl, hb⟩
    have HB := Lib.hid hb
    have hz := hb.size
    clear hb
    go_wp2_with (at_make; refine wpList_make_own _ rfl _ _ 34 rfl w.heap.size 21 i0 (.int .i32 0) 1 Tryd.underlying34 hi0 hz0 hz1 .i64 .i64 _ M rfl rfl rfl (by rw [hz2]; omega) (by unfold maxLen; omega) hz ?_; intro w2 hown hgrow; have hb2 : Below w.heap.size w w2 := HB.out.grown hgrow (by omega) (fun k hk => by cases hk); have hconv := conv_bytes w2 _ s (HBR.out.below hb2))
    have hz2' := hb2.size
    have HB2 := Lib.hid hb2
    have HOWN := Lib.hid hown
    obtain ⟨K, hK⟩ : ∃ K, K = w2.heap.size := ⟨_, rfl⟩
    have HKK := Lib.hid hK
    have hKw : w.heap.size ≤ K := by omega
    have hit0 : w2.iter s 0 = w2.alloc (.stringIter s 0) := rfl
    have HIT := Lib.hid (show (w2.iter s 0).heap[K]? = some (.stringIter s 0) by rw [hK]; exact World.iter_heap w2 s 0)
    rw [← hK]
    clear hown hgrow hconv hb2 hit0 hK
    go_loopg [7, 9] at0 (fun k vl vr wr => RngRel w s K at0 k vl wr)
    case atStart =>
      refine ⟨0, [], by omega, ?_, HIT.out, by simp, rfl, HB2.out.alloc (by omega) _⟩
      exact HOWN.out.alloc _
    case round =>
      obtain ⟨i, acc, hik, ho, hit, hal, hf, hb⟩ := hrel
      obtain ⟨A2, cap2, rfl⟩ := ho.len
      obtain ⟨L, hL⟩ : ∃ L, L = acc.length := ⟨_, rfl⟩
      have HO := Lib.hid ho
      have HL := Lib.hid hL
      have HF := Lib.hid hf
      have HB3 := Lib.hid hb
      have HI := Lib.hid hit
      have hz3 := hb.size
      rw [← hL] at hal ⊢
      clear ho hf hb hL
      rcases Nat.eq_zero_or_pos gk with h0 | h0
      · obtain rfl := h0
        obtain rfl : i = at0 := by omega
        have hne := fun ty => Lib.run_next_end_at (P := Tryd.prog) wr K s i ty hit (by have := HN.out; omega)
        have HE : Hid (fin s 0 [] = (acc, i)) := Lib.hid (by rw [← HF.out, fin_end s i acc (by have := HN.out; omega)])
        clear hit
        go_wp2_with fail
        go_ret3
        refine ⟨HB3.out, .inr ⟨by rw [HE.out]; exact HN.out, _, rfl, ?_⟩⟩
        rw [HE.out]
        have := OwnU.read HO.out
        rw [← HL.out] at this
        exact this
      · have hiN : i < at0 := by omega
        have his : i < s.size := by have := HN.out; omega
        have hgood : ¬ noChar s i := by
          intro hbad
          have h1 := fin_bad s i acc his hbad
          rw [HF.out, ← HTT.out] at h1
          injection h1 with _ h2
          omega
        have hnx := fun ty => Lib.run_next_any_at (P := Tryd.prog) wr K s i ty hit his
        obtain ⟨r, n, hrn⟩ : ∃ r n, Utf8.decode s i = (r, n) := ⟨_, _, rfl⟩
        have hn1 : 1 ≤ n := by have := dec_width s i; rw [hrn] at this; exact this
        have hn2 : i + n ≤ at0 := by have := dec_fits s i his; rw [hrn] at this; have := HN.out; omega
        have HNX : Hid (fin s (i + n) (acc ++ [r]) = fin s 0 []) := Lib.hid (by
          have := fin_next s i acc his hgood
          rw [hrn] at this
          rw [← this]; exact HF.out)
        simp only [hrn] at hnx
        have hown : (wr.iterAt K s (i + n)).ownsRow w.heap.size 21 1 (.slice A2 L cap2) L (acc.map fun d : Nat => Value.int .i32 (d : Int)) := by
          have h1 : wr.ownsRow w.heap.size 21 1 (.slice A2 L cap2) L (acc.map fun d : Nat => Value.int .i32 (d : Int)) := by have := HO.out; unfold OwnU at this; rw [← HL.out] at this; exact this
          exact h1.kept (row := some K) ⟨rfl, rfl, rfl, by rw [Lib.iterAt_size]; exact Nat.le_refl _, fun j hj hne => Lib.iterAt_other wr K j s (i + n) (by intro e; exact hne (congrArg some e))⟩ (.inr (own_not_iter h1 hit))
        have HOW := Lib.hid hown
        have HIT2 := Lib.hid (Lib.iterAt_heap wr K s i (i + n) hit)
        have HB4 := Lib.hid (Lib.below_iterAt HB3.out hKw s (i + n))
        have hzi : (wr.iterAt K s (i + n)).heap.size = wr.heap.size := Lib.iterAt_size wr K s (i + n)
        have hKl : K < wr.heap.size := (Array.getElem?_eq_some_iff.1 hit).1
        have hnew := one_new (w := wr.iterAt K s (i + n)) (x := .int .i32 (r : Int)) (t := 21)
        rw [hzi] at hnew
        clear hown hit hgood hrn
        go_wp2_with (at_builtin; refine wpList_append_own _ rfl _ _ 34 rfl w.heap.size 21 i0 (.int .i32 0) 1 4 Tryd.underlying34 hi0 hz0 hz1 hz2 rfl (by decide) _ _ _ rfl (HOW.out.alloc _) ⟨wr.heap.size, 0, none⟩ 1 1 [.int .i32 (r : Int)] rfl rfl hnew (fun u hu => by simp at hu; subst hu; rfl) (by unfold maxLen; omega) (by omega) (by simp; omega) ?_)
        intro v' w3 hown' hgrow _
        have hb5 : Below w.heap.size w w3 := (HB4.out.alloc (by omega) _).grown hgrow (by simp; omega) (fun k hk => (HOW.out.lt k hk).1)
        have HP : Hid (OwnU w.heap.size w3 v' (acc ++ [r])) := by
          refine OwnU.push ?_
          rw [← HL.out]; exact hown'
        have HIT3 : Hid (w3.heap[K]? = some (.stringIter s (i + n))) := Lib.hid (by
          rw [hgrow.block K (by simp; omega) (by have := own_not_iter HOW.out HIT2.out; exact fun e => this e.symm)]
          have h1 : K ≠ (wr.iterAt K s (i + n)).heap.size := by omega
          have h2 := HIT2.out
          simp only [World.alloc, Array.getElem?_push]
          rw [if_neg h1]; exact h2)
        clear hown' hgrow
        go_wp2
        go_roundg (gk - n)
        case measure => omega
        case rel =>
          exact ⟨i + n, acc ++ [r], by omega, HP.out, HIT3.out, by have := HL.out; simp; omega, HNX.out, hb5⟩
end Go.Proofs.YtjpdhfolfmamcaaDoor
