/-
  ClusterKnown: the examples of the chapter; all pairs of classes; long rows.
-/
import Derived.Test.YtjlencmoobanoaaCAlone
import Derived.Test.YtjlencmoobanoaaCBehind
import Derived.Test.YtjlencmoobanoaaPartAll
namespace Go.Proofs.Ytjlencmoobanoaa
open Go Go.RowKit

theorem cells_alloc {w : World} {p : Addr} {v : Value} (o : Obj) (h : w.cell? p = some v) : (w.alloc o).cell? p = some v := cellsAt_below h ((Below.refl _ w).alloc (Nat.le_refl _) o)

theorem below_alloc {w w' : World} (o : Obj) (h : Below w.heap.size w w') : Below w.heap.size w (w'.alloc o) := h.alloc h.size o

theorem RunesZ.alloc {w : World} {v : Value} {l : List Int} (o : Obj) (h : RunesZ w v l) : RunesZ (w.alloc o) v l := h.below ((Below.refl _ w).alloc (Nat.le_refl _) o)

theorem runes_new2 (w : World) (o : Obj) (l : List Int) (t : TypeId) (hlen : l.length ≤ 1000000) : RunesZ ((w.alloc o).alloc (.cells (l.map fun d : Int => Value.int .i32 d).toArray t)) (.slice (some ⟨w.heap.size + 1, 0, none⟩) l.length l.length) l := by
  have h := runes_new (w.alloc o) l t hlen
  have e : (w.alloc o).heap.size = w.heap.size + 1 := by first | simp | (unfold World.alloc; simp)
  rw [e] at h
  exact h

def KOut (B : Nat) (wl : World) (k : Nat) (vs vi : Value) (wr : World) : Prop := ∃ (v : Value) (L : List Int) (i : Nat), v = vs ∧ i + k = 17 ∧ vi = .int .i64 (i : Int) ∧ AllR L ∧ L.length = 34 * i ∧ OwnZ B wr v L ∧ Below B wl wr

def KIn (B : Nat) (wl : World) (i k : Nat) (vs vi : Value) (wr : World) : Prop := ∃ (v : Value) (L : List Int) (n : Nat), v = vs ∧ n + k = 17 ∧ vi = .int .i64 (n : Int) ∧ AllR L ∧ L.length = 34 * i + 2 * n ∧ OwnZ B wr v L ∧ Below B wl wr

def KMany (B : Nat) (wl : World) (k : Nat) (vs vi : Value) (wr : World) : Prop := ∃ (v : Value) (L : List Int) (i : Nat), v = vs ∧ i + k = 599 ∧ vi = .int .i64 (i : Int) ∧ AllR L ∧ L.length = i ∧ OwnZ B wr v L ∧ Below B wl wr

theorem AllR.append {a b : List Int} (ha : AllR a) (hb : AllR b) : AllR (a ++ b) := fun r hr => by
  rcases List.mem_append.1 hr with h | h
  · exact ha r h
  · exact hb r h

def l17 : List Int := [97, 13, 10, 0, 769, 8205, 127462, 1536, 4352, 4449, 4520, 44032, 44033, 128104, 8203, -1, 1114111]

theorem l17_r : AllR l17 := fun r hr => by
  have h : l17.all (fun r => decide (-2147483648 ≤ r) && decide (r ≤ 2147483647)) = true := by kernel_rfl
  have := List.all_eq_true.1 h r hr
  simp only [Bool.and_eq_true, decide_eq_true_eq] at this
  exact this

theorem OwnZ.nn {B : Nat} {w : World} {v : Value} {l : List Int} (h : OwnZ B w v l) : ∀ n c, v = .slice none n c → n = 0 ∧ c = 0 := by
  have h1 : w.ownsRow B 21 1 v l.length (l.map fun d : Int => Value.int .i32 d) := h
  intro n c hv
  rcases h1.2 with ⟨rfl, h0⟩ | ⟨g, cap, cur, rfl, hb, hg, rest⟩
  · injection hv with _ e1 e2
    exact ⟨e1.symm, e2.symm⟩
  · cases hv

set_option maxHeartbeats 40000000 in
set_option maxRecDepth 20000 in
theorem clusterKnown_any (w : World) : Calls Try.prog 7 #[] w fun e w' => e = .returned (.bool true) ∧ Below w.heap.size w w' := by
  have HW := Lib.hid (fun w => works3_any w)
  have HS : Hid (∀ (D : List Nat), D.length ≤ 1000000 → ∀ (a b : Value) w, IntsR w a D → IntsR w b D → Calls Try.prog 11 #[a, b] w fun e w' => e = .returned (.bool true) ∧ Below w.heap.size w w') := Lib.hid (fun D hD a b w ha hb => sameI_any D a b w ha hb hD)
  have H0 : Hid (∀ v w, RunesZ w v [10, 13] → Calls Try.prog 10 #[v] w fun e w' => Below w.heap.size w w' ∧ ∃ r, e = .returned r ∧ OwnI w.heap.size w' r [0, 1]) := Lib.hid (fun v w hv => by
    have h := bounds_any _ tabD [10, 13] v w hv (by decide)
    have e : boundsL ([10, 13].map (clsN (tableOf Try.f27))) = [0, 1] := by kernel_rfl
    rwa [e] at h)
  have H1 : Hid (∀ v w, RunesZ w v [4352, 4449, 4520, 44032, 4520, 4520, 4352] → Calls Try.prog 10 #[v] w fun e w' => Below w.heap.size w w' ∧ ∃ r, e = .returned r ∧ OwnI w.heap.size w' r [0, 3, 6]) := Lib.hid (fun v w hv => by
    have h := bounds_any _ tabD [4352, 4449, 4520, 44032, 4520, 4520, 4352] v w hv (by decide)
    have e : boundsL ([4352, 4449, 4520, 44032, 4520, 4520, 4352].map (clsN (tableOf Try.f27))) = [0, 3, 6] := by kernel_rfl
    rwa [e] at h)
  have H2 : Hid (∀ v w, RunesZ w v [127462, 127463, 127464, 127465, 127466] → Calls Try.prog 10 #[v] w fun e w' => Below w.heap.size w w' ∧ ∃ r, e = .returned r ∧ OwnI w.heap.size w' r [0, 2, 4]) := Lib.hid (fun v w hv => by
    have h := bounds_any _ tabD [127462, 127463, 127464, 127465, 127466] v w hv (by decide)
    have e : boundsL ([127462, 127463, 127464, 127465, 127466].map (clsN (tableOf Try.f27))) = [0, 2, 4] := by kernel_rfl
    rwa [e] at h)
  have H3 : Hid (∀ v w, RunesZ w v [128104, 8205, 128105, 769, 8205, 128102, 97, 8205, 128102] → Calls Try.prog 10 #[v] w fun e w' => Below w.heap.size w w' ∧ ∃ r, e = .returned r ∧ OwnI w.heap.size w' r [0, 6, 8]) := Lib.hid (fun v w hv => by
    have h := bounds_any _ tabD [128104, 8205, 128105, 769, 8205, 128102, 97, 8205, 128102] v w hv (by decide)
    have e : boundsL ([128104, 8205, 128105, 769, 8205, 128102, 97, 8205, 128102].map (clsN (tableOf Try.f27))) = [0, 6, 8] := by kernel_rfl
    rwa [e] at h)
  have H4 : Hid (∀ v w, RunesZ w v [1536, 97, 769] → Calls Try.prog 10 #[v] w fun e w' => Below w.heap.size w w' ∧ ∃ r, e = .returned r ∧ OwnI w.heap.size w' r [0]) := Lib.hid (fun v w hv => by
    have h := bounds_any _ tabD [1536, 97, 769] v w hv (by decide)
    have e : boundsL ([1536, 97, 769].map (clsN (tableOf Try.f27))) = [0] := by kernel_rfl
    rwa [e] at h)
  have H5 : Hid (∀ v w, RunesZ w v [769, 769] → Calls Try.prog 10 #[v] w fun e w' => Below w.heap.size w w' ∧ ∃ r, e = .returned r ∧ OwnI w.heap.size w' r [0]) := Lib.hid (fun v w hv => by
    have h := bounds_any _ tabD [769, 769] v w hv (by decide)
    have e : boundsL ([769, 769].map (clsN (tableOf Try.f27))) = [0] := by kernel_rfl
    rwa [e] at h)
  have H6 : Hid (∀ v w, RunesZ w v [10, 769] → Calls Try.prog 10 #[v] w fun e w' => Below w.heap.size w w' ∧ ∃ r, e = .returned r ∧ OwnI w.heap.size w' r [0, 1]) := Lib.hid (fun v w hv => by
    have h := bounds_any _ tabD [10, 769] v w hv (by decide)
    have e : boundsL ([10, 769].map (clsN (tableOf Try.f27))) = [0, 1] := by kernel_rfl
    rwa [e] at h)
  have HNIL : Hid (∀ w, Calls Try.prog 10 #[.slice none 0 0] w fun e w' => Below w.heap.size w w' ∧ ∃ r, e = .returned r ∧ OwnI w.heap.size w' r []) := Lib.hid (fun w => bounds_any _ tabD [] _ w ⟨none, 0, rfl, by decide, by decide, fun h => absurd rfl h⟩ (by decide))
  have HCB : Hid (∀ (l : List Int) (v : Value) w, AllR l → RunesZ w v l → (∀ n c, v = .slice none n c → n = 0 ∧ c = 0) → Calls Try.prog 3 #[v] w fun e w' => e = .returned (.bool true) ∧ Below w.heap.size w w') := Lib.hid (fun l v w hl hv hn => clusterBounds_any l hl v w hv hn)
  have HCA : Hid (∀ (l : List Int) (v : Value) w, AllR l → RunesZ w v l → Calls Try.prog 5 #[v] w fun e w' => e = .returned (.bool true) ∧ Below w.heap.size w w') := Lib.hid (fun l v w hl hv => clusterAlone_any l hl v w hv)
  have HCH : Hid (∀ (la lb : List Int) (va vb : Value) w, AllR la → AllR lb → RunesZ w va la → RunesZ w vb lb → (∀ n c, va = .slice none n c → n = 0 ∧ c = 0) → (∀ n c, vb = .slice none n c → n = 0 ∧ c = 0) → Calls Try.prog 6 #[va, vb] w fun e w' => e = .returned (.bool true) ∧ Below w.heap.size w w') := Lib.hid (fun la lb va vb w h1 h2 h3 h4 h5 h6 => clusterBehind_any la lb h1 h2 va vb w h3 h4 h5 h6)
  have HCP : Hid (∀ (l : List Int) (v : Value) w, AllR l → RunesZ w v l → Calls Try.prog 4 #[v, .int .i64 (-9223372036854775808)] w fun e w' => e = .returned (.bool true) ∧ Below w.heap.size w w') := Lib.hid (fun l v w hl hv => clusterParted_any l hl v w hv _)
  have HB0 := Lib.hid (Below.refl w.heap.size w)
  go_enter Try.func7, Try.ntmps7
  go_wp2_with fail
  have ha := fun o => (Below.refl w.heap.size w).alloc (Nat.le_refl _) o
  refine (H0.out _ _ (runes_new w [10, 13] _ (by decide))).mono ?_
  rintro e a0 ⟨hb, r, rfl, how⟩
  have HA := Lib.hid (HB0.out.trans (((ha _).trans (hb.mono (ha _).size)).mono HB0.out.size))
  clear ha hb
  go_wp2_with fail
  have ha := fun o => (Below.refl a0.heap.size a0).alloc (Nat.le_refl _) o
  refine (HS.out [0, 1] (by decide) _ _ _ (how.read.below (ha _)) (ints_new a0 [0, 1] _ (by decide))).mono ?_
  rintro e b0 ⟨rfl, hb⟩
  have HB1 := Lib.hid (HA.out.trans (((ha _).trans (hb.mono (ha _).size)).mono HA.out.size))
  clear ha hb how HA
  go_wp2_with fail
  have ha := fun o => (Below.refl b0.heap.size b0).alloc (Nat.le_refl _) o
  refine (H1.out _ _ (runes_new b0 [4352, 4449, 4520, 44032, 4520, 4520, 4352] _ (by decide))).mono ?_
  rintro e a1 ⟨hb, r, rfl, how⟩
  have HA := Lib.hid (HB1.out.trans (((ha _).trans (hb.mono (ha _).size)).mono HB1.out.size))
  clear ha hb
  go_wp2_with fail
  have ha := fun o => (Below.refl a1.heap.size a1).alloc (Nat.le_refl _) o
  refine (HS.out [0, 3, 6] (by decide) _ _ _ (how.read.below (ha _)) (ints_new a1 [0, 3, 6] _ (by decide))).mono ?_
  rintro e b1 ⟨rfl, hb⟩
  have HB2 := Lib.hid (HA.out.trans (((ha _).trans (hb.mono (ha _).size)).mono HA.out.size))
  clear ha hb how HA
  go_wp2_with fail
  have ha := fun o => (Below.refl b1.heap.size b1).alloc (Nat.le_refl _) o
  refine (H2.out _ _ (runes_new b1 [127462, 127463, 127464, 127465, 127466] _ (by decide))).mono ?_
  rintro e a2 ⟨hb, r, rfl, how⟩
  have HA := Lib.hid (HB2.out.trans (((ha _).trans (hb.mono (ha _).size)).mono HB2.out.size))
  clear ha hb
  go_wp2_with fail
  have ha := fun o => (Below.refl a2.heap.size a2).alloc (Nat.le_refl _) o
  refine (HS.out [0, 2, 4] (by decide) _ _ _ (how.read.below (ha _)) (ints_new a2 [0, 2, 4] _ (by decide))).mono ?_
  rintro e b2 ⟨rfl, hb⟩
  have HB3 := Lib.hid (HA.out.trans (((ha _).trans (hb.mono (ha _).size)).mono HA.out.size))
  clear ha hb how HA
  go_wp2_with fail
  have ha := fun o => (Below.refl b2.heap.size b2).alloc (Nat.le_refl _) o
  refine (H3.out _ _ (runes_new b2 [128104, 8205, 128105, 769, 8205, 128102, 97, 8205, 128102] _ (by decide))).mono ?_
  rintro e a3 ⟨hb, r, rfl, how⟩
  have HA := Lib.hid (HB3.out.trans (((ha _).trans (hb.mono (ha _).size)).mono HB3.out.size))
  clear ha hb
  go_wp2_with fail
  have ha := fun o => (Below.refl a3.heap.size a3).alloc (Nat.le_refl _) o
  refine (HS.out [0, 6, 8] (by decide) _ _ _ (how.read.below (ha _)) (ints_new a3 [0, 6, 8] _ (by decide))).mono ?_
  rintro e b3 ⟨rfl, hb⟩
  have HB4 := Lib.hid (HA.out.trans (((ha _).trans (hb.mono (ha _).size)).mono HA.out.size))
  clear ha hb how HA
  go_wp2_with fail
  have ha := fun o => (Below.refl b3.heap.size b3).alloc (Nat.le_refl _) o
  refine (H4.out _ _ (runes_new b3 [1536, 97, 769] _ (by decide))).mono ?_
  rintro e a4 ⟨hb, r, rfl, how⟩
  have HA := Lib.hid (HB4.out.trans (((ha _).trans (hb.mono (ha _).size)).mono HB4.out.size))
  clear ha hb
  go_wp2_with fail
  have ha := fun o => (Below.refl a4.heap.size a4).alloc (Nat.le_refl _) o
  refine (HS.out [0] (by decide) _ _ _ (how.read.below (ha _)) (ints_new a4 [0] _ (by decide))).mono ?_
  rintro e b4 ⟨rfl, hb⟩
  have HB5 := Lib.hid (HA.out.trans (((ha _).trans (hb.mono (ha _).size)).mono HA.out.size))
  clear ha hb how HA
  go_wp2_with fail
  have ha := fun o => (Below.refl b4.heap.size b4).alloc (Nat.le_refl _) o
  refine (H5.out _ _ (runes_new b4 [769, 769] _ (by decide))).mono ?_
  rintro e a5 ⟨hb, r, rfl, how⟩
  have HA := Lib.hid (HB5.out.trans (((ha _).trans (hb.mono (ha _).size)).mono HB5.out.size))
  clear ha hb
  go_wp2_with fail
  have ha := fun o => (Below.refl a5.heap.size a5).alloc (Nat.le_refl _) o
  refine (HS.out [0] (by decide) _ _ _ (how.read.below (ha _)) (ints_new a5 [0] _ (by decide))).mono ?_
  rintro e b5 ⟨rfl, hb⟩
  have HB6 := Lib.hid (HA.out.trans (((ha _).trans (hb.mono (ha _).size)).mono HA.out.size))
  clear ha hb how HA
  go_wp2_with fail
  have ha := fun o => (Below.refl b5.heap.size b5).alloc (Nat.le_refl _) o
  refine (H6.out _ _ (runes_new b5 [10, 769] _ (by decide))).mono ?_
  rintro e a6 ⟨hb, r, rfl, how⟩
  have HA := Lib.hid (HB6.out.trans (((ha _).trans (hb.mono (ha _).size)).mono HB6.out.size))
  clear ha hb
  go_wp2_with fail
  have ha := fun o => (Below.refl a6.heap.size a6).alloc (Nat.le_refl _) o
  refine (HS.out [0, 1] (by decide) _ _ _ (how.read.below (ha _)) (ints_new a6 [0, 1] _ (by decide))).mono ?_
  rintro e b6 ⟨rfl, hb⟩
  have HB7 := Lib.hid (HA.out.trans (((ha _).trans (hb.mono (ha _).size)).mono HA.out.size))
  clear ha hb how HA
  go_wp2_with fail
  refine (HNIL.out _).mono ?_
  rintro e w8 ⟨hb, r, rfl, how⟩
  have HB8 := Lib.hid (HB7.out.trans (hb.mono HB7.out.size))
  obtain ⟨A8, c8, rfl, _, _, _⟩ := how.read
  rename_i g1 g2 g3
  clear hb how g1 g2 g3
  rw [List.length_nil]
  obtain ⟨wl, hwl⟩ : ∃ wl, w8.alloc (.cells #[Value.int .i32 97, Value.int .i32 13, Value.int .i32 10, Value.int .i32 0, Value.int .i32 769, Value.int .i32 8205, Value.int .i32 127462, Value.int .i32 1536, Value.int .i32 4352, Value.int .i32 4449, Value.int .i32 4520, Value.int .i32 44032, Value.int .i32 44033, Value.int .i32 128104, Value.int .i32 8203, Value.int .i32 (-1), Value.int .i32 1114111] 21) = wl := ⟨_, rfl⟩
  have HBL : Hid (Below w.heap.size w wl) := Lib.hid (by rw [← hwl]; exact HB8.out.alloc HB8.out.size _)
  have HGL : Hid (w8.heap.size < wl.heap.size) := Lib.hid (by rw [← hwl]; exact heap_more _ _)
  have HLC : Hid (∀ wx, Below wl.heap.size wl wx → ∀ j, j < 17 → ∃ x, I32 x ∧ wx.cell? ⟨w8.heap.size, j, none⟩ = some (.int .i32 x)) := Lib.hid (fun wx hx j hj => by
    have hjl : j < l17.length := hj
    refine ⟨l17[j], l17_r _ (List.getElem_mem _), ?_⟩
    rw [hx.cell (by exact HGL.out), ← hwl]
    have hr : RunesZ _ _ l17 := runes_new w8 l17 21 (by decide)
    obtain ⟨A, c, e, _, _, hcc⟩ := hr
    obtain ⟨g', o', hA, _, hc⟩ := hcc (by decide)
    rw [hA] at e
    injection e with e _ _
    injection e with e
    injection e with e1 e2
    subst e1; subst e2
    have := hc j hjl
    rw [Nat.zero_add] at this
    exact this)
  go_wp2_with fail
  clear hwl
  go_loopg [3, 4] 17 (fun k vs vi wr => KOut wl.heap.size wl k vs vi wr)
  case atStart => exact ⟨_, [], 0, rfl, by omega, rfl, (fun r hr => by cases hr), rfl, OwnZ.nil _ _, Below.refl _ _⟩
  case round =>
    obtain ⟨v, L, i, rfl, hik, rfl, hL, hLl, how, hb⟩ := hrel
    have HBW := Lib.hid hb
    have HOW := Lib.hid how
    have HLR := Lib.hid hL
    have HLL := Lib.hid hLl
    clear hb how hL hLl
    obtain ⟨kk, hkk⟩ : ∃ kk, kk = gk := ⟨_, rfl⟩
    have HKK := Lib.hid hkk
    have HIK := Lib.hid hik
    by_cases hi : i = 17
    · have bi : ((i : Int) < 17) = False := eq_false (by omega)
      have HI := Lib.hid hi
      clear hi hik hkk
      go_wp2_with fail
      obtain ⟨w9, rfl⟩ : ∃ w9, w9 = wr := ⟨_, rfl⟩
      go_loopg [6, 7] 599 (fun k vs vi wr => KMany w9.heap.size w9 k vs vi wr)
      case atStart => exact ⟨_, [], 0, rfl, by omega, rfl, (fun r hr => by cases hr), rfl, OwnZ.nil _ _, Below.refl _ _⟩
      case round =>
        obtain ⟨vm, LM, t, rfl, htk, rfl, hM, hMl, howM, hbM⟩ := hrel
        have HBM := Lib.hid hbM
        have HOM := Lib.hid howM
        have HMR := Lib.hid hM
        have HML := Lib.hid hMl
        clear hbM howM hM hMl
        by_cases ht : t = 599
        · have bt : ((t : Int) < 599) = False := eq_false (by omega)
          clear ht htk
          have hz := HOW.out.read
          have hnn := HOW.out.nn
          obtain ⟨A, c, rfl, hc1, hc2, hx⟩ := hz
          have hl578 : L.length = 578 := by have := HLL.out; have := HI.out; omega
          obtain ⟨g, off, rfl, hg, hcell⟩ := hx (by rintro rfl; simp at hl578)
          have HZ : Hid (∀ wr, Below w9.heap.size w9 wr → RunesZ wr (.slice (some ⟨g, off, none⟩) 578 c) L) := Lib.hid (fun wr h => by
            have : RunesZ w9 (.slice (some ⟨g, off, none⟩) L.length c) L := ⟨_, c, rfl, hc1, hc2, fun _ => ⟨g, off, rfl, hg, hcell⟩⟩
            rw [hl578] at this
            exact this.below h)
          have HZ90 : Hid (∀ wr, Below w9.heap.size w9 wr → RunesZ wr (.slice (some ⟨g, off, none⟩) 90 c) (L.take 90)) := Lib.hid (fun wr h => by
            have hl : (L.take 90).length = 90 := by simp [hl578]
            refine ⟨_, c, by rw [hl], by omega, hc2, fun _ => ⟨g, off, rfl, by have := h.size; omega, fun j hj => ?_⟩⟩
            rw [hl] at hj
            rw [h.cell (by exact hg), hcell j (by omega)]
            simp)
          have h90 : (90 : Int) ≤ (c : Int) := by omega
          have h0c : 0 < c := by omega
          rw [hl578]
          rw [hl578] at HOW
          clear hc1 hc2 hx hl578 hg hcell hnn
          go_wp2_with fail
          refine (HCB.out L _ _ HLR.out (HZ.out _ HBM.out) (fun n c h => by cases h)).mono ?_
          rintro e w20 ⟨rfl, hb20⟩
          have HB20 := Lib.hid (HBM.out.trans (hb20.mono HBM.out.size))
          have HM20 := Lib.hid (ownZ_stays HOM.out hb20)
          clear hb20
          go_wp2_with fail
          refine (HCB.out LM _ _ HMR.out HM20.out.read HM20.out.nn).mono ?_
          rintro e w21 ⟨rfl, hb21⟩
          have HB21 := Lib.hid (HB20.out.trans (hb21.mono HB20.out.size))
          clear hb21
          go_wp2_with fail
          refine (HCP.out (L.take 90) _ _ (fun r hr => HLR.out r (List.mem_of_mem_take hr)) (HZ90.out _ HB21.out)).mono ?_
          rintro e w22 ⟨rfl, hb22⟩
          have HB22 := Lib.hid (HB21.out.trans (hb22.mono HB21.out.size))
          clear hb22
          go_wp2_with fail
          refine (HW.out _).mono ?_
          rintro e w23 ⟨rfl, hb23⟩
          have HB23 := Lib.hid (HB22.out.trans (hb23.mono HB22.out.size))
          clear hb23
          go_wp2_with fail
          go_ret
          exact ⟨rfl, HBL.out.trans ((HBW.out.trans (HB23.out.mono HBW.out.size)).mono HBL.out.size)⟩
        · have bt : ((t : Int) < 599) = True := eq_true (by omega)
          obtain ⟨t1, ht1⟩ : ∃ t1, t1 = t + 1 := ⟨_, rfl⟩
          have qt : IntKind.i64.wrap ((t : Int) + 1) = (t1 : Int) := by rw [IntKind.wrap_i64]; omega
          have HT1 := Lib.hid ht1
          have HTK := Lib.hid htk
          have HTN := Lib.hid ht
          clear ht htk ht1
          go_wp2_with (at_builtin; refine wp_append_z rfl _ _ rfl w9.heap.size vm LM rfl (ownZ_stays HOM.out ((Below.refl _ _).alloc (Nat.le_refl _) _)) _ [127462] rfl (runes_new wr [127462] _ (by simp)) (fun n c h => by cases h) (by have := HML.out; have := HTK.out; simp; omega) (Nat.le_trans HBM.out.size (Nat.le_of_lt (heap_more _ _))) ?_)
          intro v4 w4 how4 hk4
          have HB4 := Lib.hid (hk4 _ (HBM.out.alloc HBM.out.size _))
          have HOW4 := Lib.hid how4
          clear hk4 how4
          go_wp2_with fail
          go_roundg (gk - 1)
          case measure => have := HTK.out; have := HTN.out; omega
          case rel => exact ⟨_, _, t1, rfl, by have := HTK.out; have := HTN.out; have := HT1.out; omega, by first | rfl | exact congrArg _ (by omega), HMR.out.append (fun r hr => by rw [List.mem_singleton.1 hr]; exact ⟨by decide, by decide⟩), by have := HML.out; have := HT1.out; simp; omega, HOW4.out, HB4.out⟩
    · have bi : ((i : Int) < 17) = True := eq_true (by omega)
      have i0 : (0 : Int) ≤ (i : Int) := Int.natCast_nonneg _
      have iI : (i : Int) < 17 := by omega
      obtain ⟨i1, hi1⟩ : ∃ i1, i1 = i + 1 := ⟨_, rfl⟩
      have qi : IntKind.i64.wrap ((i : Int) + 1) = (i1 : Int) := by rw [IntKind.wrap_i64]; omega
      have HI1 := Lib.hid hi1
      have HIN := Lib.hid hi
      clear hi hik hkk hi1
      go_wp2_with fail
      go_loopg [3, 5] 17 (fun k vs vi wr => KIn wl.heap.size wl i k vs vi wr)
      case atStart => exact ⟨_, L, 0, rfl, by omega, rfl, HLR.out, by have := HLL.out; omega, HOW.out, HBW.out⟩
      case round =>
        clear HLR HLL HOW HBW
        obtain ⟨v, L, n, rfl, hnk, rfl, hL, hLl, how, hb⟩ := hrel
        have HBW := Lib.hid hb
        have HOW := Lib.hid how
        have HLR := Lib.hid hL
        have HLL := Lib.hid hLl
        clear hb how hL hLl
        by_cases hn : n = 17
        · have bn : ((n : Int) < 17) = False := eq_false (by omega)
          have HN := Lib.hid hn
          clear hn hnk
          go_wp2_with fail
          go_roundg (kk - 1)
          case measure => have := HIK.out; have := HKK.out; have := HIN.out; omega
          case rel => exact ⟨_, L, i1, rfl, by have := HIK.out; have := HKK.out; have := HIN.out; have := HI1.out; omega, by first | rfl | exact congrArg _ (by omega), HLR.out, by have := HLL.out; have := HN.out; have := HI1.out; omega, HOW.out, HBW.out⟩
        · have bn : ((n : Int) < 17) = True := eq_true (by omega)
          have n0 : (0 : Int) ≤ (n : Int) := Int.natCast_nonneg _
          have nI : (n : Int) < 17 := by omega
          obtain ⟨n1, hn1⟩ : ∃ n1, n1 = n + 1 := ⟨_, rfl⟩
          have qn : IntKind.i64.wrap ((n : Int) + 1) = (n1 : Int) := by rw [IntKind.wrap_i64]; omega
          obtain ⟨x, hxr, cx⟩ := HLC.out _ HBW.out i (by omega)
          obtain ⟨y, hyr, cy⟩ := HLC.out _ HBW.out n (by omega)
          have HXR := Lib.hid hxr
          have HYR := Lib.hid hyr
          have HN1 := Lib.hid hn1
          have HNK := Lib.hid hnk
          have HNN := Lib.hid hn
          have HCX : Hid (∀ wx, Below wl.heap.size wl wx → wx.cell? ⟨w8.heap.size, i, none⟩ = some (.int .i32 x)) := Lib.hid (fun wx h => by rw [h.cell (by exact HGL.out), ← HBW.out.cell (by exact HGL.out)]; exact cx)
          have HCY : Hid (∀ wx, Below wl.heap.size wl wx → wx.cell? ⟨w8.heap.size, n, none⟩ = some (.int .i32 y)) := Lib.hid (fun wx h => by rw [h.cell (by exact HGL.out), ← HBW.out.cell (by exact HGL.out)]; exact cy)
          have HXY : Hid (∀ l : List Int, (∀ r ∈ l, r = x ∨ r = y ∨ r = 769 ∨ r = 128104) → AllR l) := Lib.hid (fun l h r hr => by
            rcases h r hr with rfl | rfl | rfl | rfl
            · exact HXR.out
            · exact HYR.out
            · exact ⟨by decide, by decide⟩
            · exact ⟨by decide, by decide⟩)
          have HR3 : Hid (AllR [x, y, x, y, 128104]) := Lib.hid (HXY.out _ (fun r hr => by simp only [List.mem_cons, List.not_mem_nil, or_false] at hr; omega))
          have HR5 : Hid (AllR [x, 769, y]) := Lib.hid (HXY.out _ (fun r hr => by simp only [List.mem_cons, List.not_mem_nil, or_false] at hr; omega))
          have HRX : Hid (AllR [x]) := Lib.hid (HXY.out _ (fun r hr => by simp only [List.mem_cons, List.not_mem_nil, or_false] at hr; omega))
          have HRY : Hid (AllR [y]) := Lib.hid (HXY.out _ (fun r hr => by simp only [List.mem_cons, List.not_mem_nil, or_false] at hr; omega))
          have HLEN : Hid (L.length + [x, y].length ≤ 1000000) := Lib.hid (by have := HLL.out; simp; omega)
          clear hn hnk hn1 hxr hyr
          go_wp2_with fail
          go_region_held3 (fun w' => w'.cell? ⟨w8.heap.size, i, none⟩ = some (.int .i32 x) ∧ w'.cell? ⟨w8.heap.size, n, none⟩ = some (.int .i32 y) ∧ Below wl.heap.size wl w')
            (first | assumption | (go_split_ands; exact ⟨cx, cy, HBW.out.drew⟩) | (go_split_ands; exact ⟨cells_alloc _ (by assumption), cells_alloc _ (by assumption), below_alloc _ (by assumption)⟩) | (go_split_ands; exact ⟨HCX.out _ (hk3 _ (by assumption)), HCY.out _ (hk3 _ (by assumption)), hk3 _ (by assumption)⟩))
            ((refine step_append_z (by rfl) _ _ (by rfl) wl.heap.size v L (by rfl) (ownZ_stays HOW.out (below_alloc _ (Below.refl _ _).drew)) _ [x, y] (by rfl) (runes_new _ [x, y] _ (by simp)) (by simp) HLEN.out (Nat.le_trans (Below.size (by assumption)) (Nat.le_of_lt (heap_more _ _))) ?_; intro v3 w3 how3 hk3))
          have HB3 := Lib.hid (hk3 _ (below_alloc _ HBW.out.drew))
          have HOW3 := Lib.hid how3
          clear hk3 how3 cx cy
          go_upto_region 11 with fail
          go_cut [122] from 64 to 122 (fun s wx => s = .bool false ∧ Below w3.heap.size w3 wx)
          case first =>
            have cx := HCX.out _ HB3.out
            have cy := HCY.out _ HB3.out
            go_region_held3 (fun w' => w'.cell? ⟨w8.heap.size, i, none⟩ = some (.int .i32 x) ∧ w'.cell? ⟨w8.heap.size, n, none⟩ = some (.int .i32 y) ∧ Below w3.heap.size w3 w')
              (first | assumption | (go_split_ands; exact ⟨by assumption, by assumption, (Below.refl _ w3).drew⟩) | (go_split_ands; exact ⟨cells_alloc _ (by assumption), cells_alloc _ (by assumption), below_alloc _ (by assumption)⟩) | (go_split_ands; exact ⟨cellsAt_below (by assumption) hbx, cellsAt_below (by assumption) hbx, Below.trans (by assumption) (hbx.mono (Below.size (by assumption)))⟩))
              (first
                | (go_at_call 3; refine (HCB.out [x, y, x, y, 128104] _ _ HR3.out (runes_new w3.drew [x, y, x, y, 128104] _ (by simp)) (fun n c h => by cases h)).mono ?_; rintro e wx ⟨rfl, hbx⟩)
                | (go_at_call 5; refine (HCA.out [x, 769, y] _ _ HR5.out (runes_new _ [x, 769, y] _ (by simp))).mono ?_; rintro e wx ⟨rfl, hbx⟩)
                | (go_at_call 6; refine (HCH.out [x] [y] _ _ _ HRX.out HRY.out (by first | exact runes_new2 _ _ [x] _ (by simp) | exact (runes_new _ [x] _ (by simp)).alloc _) (by first | exact runes_new2 _ _ [y] _ (by simp) | exact (runes_new _ [y] _ (by simp)).alloc _) (fun n c h => by cases h) (fun n c h => by cases h)).mono ?_; rintro e wx ⟨rfl, hbx⟩))
            all_goals (go_wp2_with fail; go_meet; go_split_ands; exact ⟨rfl, by assumption⟩)
          case rest =>
            obtain ⟨rfl, hb5⟩ := hcut
            have HB5 := Lib.hid (HB3.out.trans (hb5.mono HB3.out.size))
            have HOW5 := Lib.hid (ownZ_stays HOW3.out hb5)
            clear hb5
            go_wp2_with fail
            go_roundg (gk - 1)
            case measure => have := HNK.out; have := HNN.out; omega
            case rel => exact ⟨_, _, n1, rfl, by have := HNK.out; have := HNN.out; have := HN1.out; omega, by first | rfl | exact congrArg _ (by omega), HLR.out.append (HXY.out _ (fun r hr => by simp only [List.mem_cons, List.not_mem_nil, or_false] at hr; omega)), by have := HLL.out; have := HN1.out; simp; omega, HOW5.out, HB5.out⟩
end Go.Proofs.Ytjlencmoobanoaa
