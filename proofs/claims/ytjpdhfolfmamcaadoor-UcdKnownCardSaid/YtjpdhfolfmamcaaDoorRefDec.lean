/-
  The document's Decode.
-/
import Derived.Test.YtjpdhfolfmamcaaDoorCut
import Derived.OwnWalk
import Derived.Lib.RuneCountTail
import Derived.ProofKit
namespace Go.Proofs.YtjpdhfolfmamcaaDoor
open Go Go.RowKit

theorem infoI32 : (Tryd.prog.info? 21).map (fun i => (i.zero, i.size, i.bytes)) = some (some (.int .i32 0), 1, 4) := by kernel_rfl

theorem add_flat (b o i : Nat) : (⟨b, o, none⟩ : Addr).add i = ⟨b, o + i, none⟩ := by unfold Addr.add; split <;> simp_all

/-- a value that reads as these bytes -/
def BytesR (w : World) (v : Value) (s : ByteArray) : Prop :=
  ∃ A c, v = .slice A s.size c ∧ s.size ≤ c ∧ c ≤ 9223372036854775807 ∧ (0 < s.size → ∃ g off, A = some ⟨g, off, none⟩ ∧ g < w.heap.size ∧ BytesAt w g off s)

theorem BytesR.below {w w' : World} {v : Value} {s : ByteArray} (h : BytesR w v s) (hb : Below w.heap.size w w') : BytesR w' v s := by
  obtain ⟨A, c, e, h1, h2, hx⟩ := h
  refine ⟨A, c, e, h1, h2, fun hp => ?_⟩
  obtain ⟨g, off, e2, hg, hat⟩ := hx hp
  have := hb.size
  exact ⟨g, off, e2, by omega, ⟨fun j hj => by rw [hb.cell (by exact hg)]; exact hat.cell j hj⟩⟩

/-- a value that reads as these runes -/
def RunesR (w : World) (v : Value) (l : List Nat) : Prop :=
  ∃ A c, v = .slice A l.length c ∧ l.length ≤ c ∧ c ≤ 9223372036854775807 ∧ (l ≠ [] → ∃ g, A = some ⟨g, 0, none⟩ ∧ g < w.heap.size ∧ ∀ (j : Nat) (h : j < l.length), w.cell? ⟨g, j, none⟩ = some (.int .i32 ((l[j] : Nat) : Int)))

theorem RunesR.below {w w' : World} {v : Value} {l : List Nat} (h : RunesR w v l) (hb : Below w.heap.size w w') : RunesR w' v l := by
  obtain ⟨A, c, e, hc, hc2, hx⟩ := h
  refine ⟨A, c, e, hc, hc2, fun hne => ?_⟩
  obtain ⟨g, hA, hg, hcell⟩ := hx hne
  have := hb.size
  exact ⟨g, hA, by omega, fun j hj => by rw [hb.cell (by exact hg)]; exact hcell j hj⟩

/-- a row of the call's own that holds these runes -/
def OwnU (B : Nat) (w : World) (v : Value) (ds : List Nat) : Prop := w.ownsRow B 21 1 v ds.length (ds.map fun d : Nat => Value.int .i32 (d : Int))

theorem OwnU.nil (B : Nat) (w : World) : OwnU B w (.slice none 0 0) [] := World.ownsRow_nil _ _ _ _

theorem OwnU.push {B : Nat} {w : World} {v : Value} {ds : List Nat} {d : Nat}
    (h : w.ownsRow B 21 1 v (ds.length + 1) ((ds.map fun d : Nat => Value.int .i32 (d : Int)) ++ [.int .i32 (d : Int)])) : OwnU B w v (ds ++ [d]) := by
  simpa [OwnU] using h

theorem OwnU.read {B : Nat} {w : World} {v : Value} {ds : List Nat} (h : OwnU B w v ds) : RunesR w v ds := by
  have h1 : w.ownsRow B 21 1 v ds.length (ds.map fun d : Nat => Value.int .i32 (d : Int)) := h
  rcases h1.2 with ⟨rfl, h0⟩ | ⟨g, cap, cur, rfl, hb, hg, hc, hm, hs, ht⟩
  · exact ⟨none, 0, by rw [h0], by omega, by omega, fun hne => absurd (List.length_eq_zero_iff.1 h0) hne⟩
  · refine ⟨some ⟨g, 0, none⟩, cap, rfl, hc, by unfold maxLen at hm; omega, fun _ => ⟨g, rfl, ?_, fun j hj => ?_⟩⟩
    · rcases Nat.lt_or_ge g w.heap.size with h' | h'
      · exact h'
      · simp [Array.getElem?_eq_none h'] at hg
    · have := h1.cells (g := g) rfl j (.int .i32 ((ds[j] : Nat) : Int)) (by simp [hj])
      rwa [add_flat, Nat.zero_add] at this

theorem OwnU.len {B : Nat} {w : World} {v : Value} {ds : List Nat} (h : OwnU B w v ds) : ∃ A c, v = .slice A ds.length c := by
  obtain ⟨A, c, e, _⟩ := h.read
  exact ⟨A, c, e⟩

/-- the append of one: its new cell -/
theorem one_new {w : World} {x : Value} {t : TypeId} : ∀ j u, [x][j]? = some u → (w.alloc (.cells #[x] t)).cell? ((⟨w.heap.size, 0, none⟩ : Addr).add j) = some u := by
  intro j u hj
  match j, hj with
  | 0, hj => simp at hj; subst hj; simp [Addr.add]

/-- the bytes from a place on -/
def behindB (s : ByteArray) (i : Nat) : ByteArray := s.extract i s.size

theorem behind_size (s : ByteArray) (i : Nat) : (behindB s i).size = s.size - i := by
  simp [behindB]

theorem behind_by (s : ByteArray) (i j : Nat) : byN (behindB s i) j = byN s (i + j) := by
  unfold byN behindB
  rw [Lib.tail_get!]

theorem behind_decode (s : ByteArray) (i : Nat) : Utf8.decode (behindB s i) 0 = Utf8.decode s i := by
  rw [decode_by, decode_by, behind_size s i, behind_by, behind_by, behind_by, behind_by, Nat.sub_zero, Nat.add_zero]

theorem behind_cut (s : ByteArray) (i : Nat) : cutG (behindB s i) = if noChar s i then (0, 0) else Utf8.decode s i := by
  unfold cutG noChar
  simp only [behind_decode s i]

theorem BytesAt.behind {w : World} {g off : Nat} {s : ByteArray} (h : BytesAt w g off s) (i : Nat) : BytesAt w g (off + i) (behindB s i) := by
  refine ⟨fun j hj => ?_⟩
  rw [behind_size s i] at hj
  rw [behind_by s i j, Nat.add_assoc]
  exact h.cell (i + j) (by omega)
theorem own_stays {w w' : World} {B e size n : Nat} {v : Value} {xs : List Value} (h : w.ownsRow B e size v n xs) (hb : Below w.heap.size w w') : w'.ownsRow B e size v n xs :=
  h.kept (row := none) ⟨hb.os, hb.tape, hb.output, hb.size, fun k hk _ => hb.block k hk⟩ (by
    rcases hv : v.ownBlock with _ | g
    · exact .inl rfl
    · exact .inr (by simp))

/-- at the head of each round of the document's Decode -/
def DecRel (w : World) (s : ByteArray) (N k : Nat) (vl vi : Value) (wr : World) : Prop :=
  ∃ i acc, i + k = N ∧ vi = .int .i64 ((i : Nat) : Int) ∧ OwnU w.heap.size wr vl acc ∧ acc.length ≤ i ∧ fin s i acc = fin s 0 [] ∧ Below w.heap.size w wr

/-- how a Decode ends -/
def DecEnd (w : World) (s : ByteArray) (e : Ending) (w' : World) : Prop :=
  Below w.heap.size w w' ∧ (((fin s 0 []).2 < s.size ∧ e = .returned (.tuple #[.slice none 0 0, .int .i64 20, .int .i64 (((fin s 0 []).2 : Nat) : Int)])) ∨
    ((fin s 0 []).2 = s.size ∧ ∃ v, e = .returned (.tuple #[v, .int .i64 0, .int .i64 0]) ∧ RunesR w' v (fin s 0 []).1))

set_option maxHeartbeats 4000000 in
set_option maxRecDepth 20000 in
theorem refDecode_any (s : ByteArray) (v : Value) (w : World) (hsz : s.size ≤ 1000000) (hv : BytesR w v s) :
    Calls Tryd.prog 17 #[v] w fun e w' => DecEnd w s e w' := by
  obtain ⟨i0, hi0, hz0, hz1, hz2⟩ := info_parts infoI32
  obtain ⟨A, cap, rfl, hcap, hcap2, hx⟩ := hv
  obtain ⟨N, hN⟩ : ∃ N, N = s.size := ⟨_, rfl⟩
  have HX := Lib.hid hx
  have HN := Lib.hid hN
  rw [← hN] at hcap hsz ⊢
  have hNI : (N : Int) ≤ 1000000 := by omega
  have hcI : (N : Int) ≤ (cap : Int) := by omega
  have HCAP := Lib.hid hcap
  clear hx hN hcap2 hcap
  go_enter Tryd.func17, Tryd.ntmps17
  go_wp2_with fail
  go_loopg [5, 6, 7, 8] N (fun k vl vi v7 v8 wr => DecRel w s N k vl vi wr)
  case atStart => exact ⟨0, [], by omega, rfl, OwnU.nil _ _, by simp, rfl, Below.refl _ _⟩
  case round =>
    obtain ⟨i, acc, hik, rfl, ho, hal, hf, hb⟩ := hrel
    obtain ⟨A2, cap2, rfl⟩ := ho.len
    obtain ⟨L, hL⟩ : ∃ L, L = acc.length := ⟨_, rfl⟩
    have HO := Lib.hid ho
    have HL := Lib.hid hL
    have HF := Lib.hid hf
    have HB := Lib.hid hb
    have hz := hb.size
    rw [← hL] at hal ⊢
    clear ho hf hb hL
    rcases Nat.eq_zero_or_pos gk with h0 | h0
    · obtain rfl := h0
      obtain rfl : i = N := by omega
      have HE : Hid (fin s 0 [] = (acc, i)) := Lib.hid (by rw [← HF.out, fin_end s i acc (by have := HN.out; omega)])
      go_wp2_with fail
      go_ret3
      refine ⟨HB.out, .inr ⟨by rw [HE.out]; exact HN.out, _, rfl, ?_⟩⟩
      rw [HE.out]
      have := HO.out.read
      rw [← HL.out] at this
      exact this
    · have hiN : i < N := by omega
      have his : i < s.size := by have := HN.out; omega
      obtain ⟨g, off, rfl, hg, hat⟩ := HX.out (by omega)
      have hiI : (i : Int) < (N : Int) := by omega
      have hi0I : (0 : Int) ≤ (i : Int) := Int.natCast_nonneg _
      have HAT : Hid (BytesAt wr g (off + i) (behindB s i)) := Lib.hid (BytesAt.behind ⟨fun j hj => by rw [HB.out.cell (by exact hg)]; exact hat.cell j hj⟩ i)
      have hbs : (behindB s i).size = N - i := by rw [behind_size, ← HN.out]
      have HCUT := Lib.hid (behind_cut s i)
      have hcall := refCut_any (behindB s i) g (off + i) (cap - i) wr (by omega) (by omega) HAT.out
      rw [hbs] at hcall
      have HCALL := Lib.hid hcall
      clear hcall hbs hat
      by_cases hbad : noChar s i
      · have hr : cutG (behindB s i) = (0, 0) := by rw [HCUT.out, if_pos hbad]
        have HE : Hid (fin s 0 [] = (acc, i)) := Lib.hid (by rw [← HF.out, fin_bad s i acc his hbad])
        rw [hr] at HCALL
        clear hr hbad
        go_wp2_with fail
        refine (HCALL.out).mono ?_
        rintro e w2 ⟨rfl, hb2⟩
        have HB2 := Lib.hid (HB.out.trans (hb2.mono HB.out.size))
        clear hb2
        go_wp2_with fail
        go_ret3
        refine ⟨HB2.out, .inl ⟨by rw [HE.out]; exact his, ?_⟩⟩
        rw [HE.out]
        rfl
      · obtain ⟨r, n, hrn⟩ : ∃ r n, Utf8.decode s i = (r, n) := ⟨_, _, rfl⟩
        have hr : cutG (behindB s i) = (r, n) := by rw [HCUT.out, if_neg hbad, hrn]
        have hn1 : 1 ≤ n := by have := dec_width s i; rw [hrn] at this; exact this
        have hn2 : i + n ≤ N := by have := dec_fits s i his; rw [hrn] at this; have := HN.out; omega
        have hrl : r ≤ 1114111 := by
          have := decN_scalar (s.size - i) (byN s i) (byN s (i + 1)) (byN s (i + 2)) (byN s (i + 3))
          rw [← decode_by, hrn] at this
          exact this.1
        have HNX : Hid (fin s (i + n) (acc ++ [r]) = fin s 0 []) := Lib.hid (by
          have := fin_next s i acc his hbad
          rw [hrn] at this
          rw [← this]; exact HF.out)
        rw [hr] at HCALL
        have hnI : (1 : Int) ≤ (n : Int) := by omega
        have hnJ : (i : Int) + (n : Int) ≤ (N : Int) := by omega
        have hrI : (r : Int) ≤ 1114111 := by omega
        have hLI : (L : Int) ≤ 1000000 := by omega
        have b1 : ((n : Int) = 0) = False := by simp; omega
        clear hr hbad hrn
        go_wp2_with fail
        refine (HCALL.out).mono ?_
        rintro e w2 ⟨rfl, hb2⟩
        have HB2 := Lib.hid (HB.out.trans (hb2.mono HB.out.size))
        have hzw := HB2.out.size
        have hown : w2.ownsRow w.heap.size 21 1 (.slice A2 L cap2) L (acc.map fun d : Nat => Value.int .i32 (d : Int)) := by
          have h1 : wr.ownsRow w.heap.size 21 1 (.slice A2 L cap2) L (acc.map fun d : Nat => Value.int .i32 (d : Int)) := by have := HO.out; unfold OwnU at this; rw [← HL.out] at this; exact this
          exact own_stays h1 hb2
        have HOW := Lib.hid hown
        clear hb2 hown
        go_wp2_with (at_builtin; refine wpList_append_own _ rfl _ _ 34 rfl w.heap.size 21 i0 (.int .i32 0) 1 4 Tryd.underlying34 hi0 hz0 hz1 hz2 rfl (by decide) _ _ _ rfl (HOW.out.alloc _) ⟨w2.heap.size, 0, none⟩ 1 1 [.int .i32 (r : Int)] rfl rfl one_new (fun u hu => by simp at hu; subst hu; rfl) (by unfold maxLen; omega) (by omega) (by simp; omega) ?_)
        intro v' w3 hown' hgrow _
        have hb3 : Below w.heap.size w w3 := (HB2.out.alloc (by omega) _).grown hgrow (by simp; omega) (fun k hk => (HOW.out.lt k hk).1)
        have HP : Hid (OwnU w.heap.size w3 v' (acc ++ [r])) := by
          refine OwnU.push ?_
          rw [← HL.out]; exact hown'
        clear hown' hgrow
        have hlen' : ∃ A' c', v' = .slice A' (L + 1) c' := by
          obtain ⟨A', c', e⟩ := HP.out.len
          exact ⟨A', c', by rw [e]; simp [← HL.out]⟩
        obtain ⟨A3, cap3, rfl⟩ := hlen'
        have b2 : ((16777216 : Int) < (L : Int) + 1) = False := by simp; omega
        have q5 : IntKind.i64.wrap ((i : Int) + (n : Int)) = (i : Int) + (n : Int) := by rw [IntKind.wrap_i64]; omega
        have hL0 : (0 : Int) ≤ (L : Int) := Int.natCast_nonneg _
        clear HAT HCUT HCALL HX
        go_wp2_with fail
        go_roundg (gk - n)
        case measure => omega
        case rel =>
          refine ⟨i + n, acc ++ [r], by omega, by first | rfl | exact congrArg _ (by omega), HP.out, by have := HL.out; simp; omega, HNX.out, hb3⟩
end Go.Proofs.YtjpdhfolfmamcaaDoor
