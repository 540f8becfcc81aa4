/-
  The document's long numbers (calamusref01.Long): a slice that reads as digits; trim.
-/
import Derived.Test.YtpodgmibghcjdaaGreatDoorRefA
namespace Go.Proofs.YtpodgmibghcjdaaGreatDoor
open Go Go.RowKit

/-- the number of digits to the base 2^16, the lowest first -/
def longN : List Nat → Nat
  | [] => 0
  | d :: r => d + 65536 * longN r

theorem longN_append (l r : List Nat) : longN (l ++ r) = longN l + 65536 ^ l.length * longN r := by
  induction l with
  | nil => simp [longN]
  | cons d t ih =>
    rw [List.cons_append, longN, longN, ih, List.length_cons, Nat.pow_succ, Nat.mul_add, Nat.mul_comm (65536 ^ t.length) 65536, Nat.mul_assoc, Nat.add_assoc]

/-- a value that reads as these digits -/
structure LongR (w : World) (v : Value) (l : List Nat) : Prop where
  dig : ∀ d ∈ l, d < 65536
  len : l.length ≤ 100000
  at_ : ∃ A c, v = .slice A l.length c ∧ l.length ≤ c ∧ c ≤ 9223372036854775807 ∧ (l ≠ [] → ∃ g, A = some ⟨g, 0, none⟩ ∧ g < w.heap.size ∧ ∀ (j : Nat) (h : j < l.length), w.cell? ⟨g, j, none⟩ = some (.int .u32 ((l[j] : Nat) : Int)))

theorem LongR.below {w w' : World} {v : Value} {l : List Nat} (h : LongR w v l) (hb : Below w.heap.size w w') : LongR w' v l := by
  obtain ⟨h1, h2, A, c, e, hc, hc2, hx⟩ := h
  refine ⟨h1, h2, A, c, e, hc, hc2, fun hne => ?_⟩
  obtain ⟨g, hA, hg, hcell⟩ := hx hne
  have := hb.size
  exact ⟨g, hA, by omega, fun j hj => by rw [hb.cell (by exact hg)]; exact hcell j hj⟩

theorem LongR.init {w : World} {A : Option Addr} {c : Nat} {l : List Nat} {d : Nat} (h : LongR w (.slice A (l.length + 1) c) (l ++ [d])) : LongR w (.slice A l.length c) l := by
  obtain ⟨h1, h2, A', c', e, hc, hc2, hx⟩ := h
  injection e with e1 e2 e3
  subst e1 e3
  refine ⟨fun x hx => h1 x (by simp [hx]), by simp at h2; omega, A, c, rfl, by simp at hc; omega, hc2, fun hne => ?_⟩
  obtain ⟨g, hA, hg, hcell⟩ := hx (by simp)
  exact ⟨g, hA, hg, fun j hj => by
    have := hcell j (by simp; omega)
    rwa [List.getElem_append_left hj] at this⟩

theorem LongR.last {w : World} {v : Value} {l : List Nat} {d : Nat} (h : LongR w v (l ++ [d])) : ∃ g c, v = .slice (some ⟨g, 0, none⟩) (l.length + 1) c ∧ l.length + 1 ≤ c ∧ c ≤ 9223372036854775807 ∧ g < w.heap.size ∧ w.cell? ⟨g, l.length, none⟩ = some (.int .u32 (d : Int)) := by
  obtain ⟨h1, h2, A, c, e, hc, hc2, hx⟩ := h
  obtain ⟨g, hA, hg, hcell⟩ := hx (by simp)
  subst hA
  refine ⟨g, c, by rw [e]; simp, by simpa using hc, hc2, hg, ?_⟩
  have := hcell l.length (by simp)
  simpa using this

def TrimRel (n len : Nat) (w : World) (k : Nat) (v0 : Value) (wr : World) : Prop :=
  w = wr ∧ ∃ l, LongR w v0 l ∧ longN l = n ∧ l.length ≤ k ∧ k ≤ len

set_option maxHeartbeats 1000000 in
theorem trim_any (v : Value) (l : List Nat) (w : World) (h : LongR w v l) :
    Calls Tryz.prog 73 #[v] w fun e w' => w = w' ∧ ∃ v' l', e = .returned v' ∧ LongR w v' l' ∧ longN l' = longN l ∧ l'.length ≤ l.length := by
  obtain ⟨n, hn⟩ : ∃ n, n = longN l := ⟨_, rfl⟩
  obtain ⟨len, hlen⟩ : ∃ len, len = l.length := ⟨_, rfl⟩
  have h0 : TrimRel n len w len v w := ⟨rfl, l, h, hn.symm, by omega, by omega⟩
  rw [← hn, ← hlen]
  have hv : ∃ A m c, v = .slice A m c := by
    obtain ⟨A, c, e, _⟩ := h.at_
    exact ⟨A, _, c, e⟩
  obtain ⟨A, m, c, rfl⟩ := hv
  have H0 := Lib.hid h0
  clear h0 h hn hlen
  go_enter Tryz.func73, Tryz.ntmps73
  go_wp2_with fail
  go_loopg [0] len (fun g v0 wr => TrimRel n len w g v0 wr)
  case atStart => exact H0.out
  case round =>
    obtain ⟨rfl, l, hl, hn, hk, hk2⟩ := hrel
    rcases List.eq_nil_or_concat l with rfl | ⟨l, d, rfl⟩
    · obtain ⟨A, c, e, hc, hc2, _⟩ := hl.at_
      have HL := Lib.hid hl
      have HN := Lib.hid hn
      subst e
      clear hl hn
      go_wp2_with fail
      go_ret
      exact ⟨rfl, _, [], rfl, HL.out, HN.out, by simp⟩
    · have hl' := hl
      rw [List.concat_eq_append] at hl'
      obtain ⟨g, c, e, hc, hc2, hg, hcell⟩ := hl'.last
      subst e
      have hi := hl'.init
      have hdd : d < 65536 := hl'.dig d (by simp)
      have hll : l.length + 1 ≤ 100000 := by have := hl'.len; simpa using this
      have hnn : longN l + 65536 ^ l.length * d = n := by
        rw [← hn, List.concat_eq_append, longN_append]; simp [longN]
      have hk' : l.length + 1 ≤ gk := by simpa using hk
      obtain ⟨m, hm⟩ : ∃ m, m = l.length := ⟨_, rfl⟩
      rw [← hm] at hcell hc hll
      have HL := Lib.hid hl'
      have HI := Lib.hid hi
      have HN := Lib.hid hnn
      have HK := Lib.hid hk'
      have HM := Lib.hid hm
      rw [← hm]
      clear hl hl' hi hn hnn hk hk' hm
      by_cases hd0 : d = 0
      · obtain rfl := hd0
        go_wp2_with fail
        go_roundg (gk - 1)
        case measure => have := HK.out; omega
        case rel =>
          have hN := HN.out
          have hK := HK.out
          refine ⟨rfl, l, ?_, by rw [← hN]; simp, by omega, by omega⟩
          have := HI.out
          rw [← HM.out] at this
          exact this
      · have hdb : ((d : Int) == 0) = false := by simp [hd0]
        go_wp2_with fail
        go_ret
        have hK := HK.out
        refine ⟨rfl, _, l ++ [d], rfl, ?_, ?_, by simp; omega⟩
        · have := HL.out
          rw [← HM.out] at this
          exact this
        · rw [longN_append]; simpa [longN] using HN.out
theorem infoU32 : (Tryz.prog.info? 68).map (fun i => (i.zero, i.size, i.bytes)) = some (some (.int .u32 0), 1, 4) := by kernel_rfl

/-- a row of the call's own that holds these digits -/
def OwnD (B : Nat) (w : World) (v : Value) (ds : List Nat) : Prop :=
  w.ownsRow B 68 1 v ds.length (ds.map fun d : Nat => Value.int .u32 (d : Int)) ∧ (∀ d ∈ ds, d < 65536)

theorem OwnD.nil (B : Nat) (w : World) : OwnD B w (.slice none 0 0) [] := ⟨World.ownsRow_nil _ _ _ _, by simp⟩

theorem OwnD.push {B : Nat} {w : World} {v : Value} {ds : List Nat} {d : Nat} (hd : ∀ d ∈ ds, d < 65536) (hx : d < 65536)
    (h : w.ownsRow B 68 1 v (ds.length + 1) ((ds.map fun d : Nat => Value.int .u32 (d : Int)) ++ [.int .u32 (d : Int)])) : OwnD B w v (ds ++ [d]) := by
  refine ⟨by simpa using h, fun x hm => ?_⟩
  rcases List.mem_append.1 hm with hm | hm
  · exact hd x hm
  · simp at hm; omega

theorem OwnD.long {B : Nat} {w : World} {v : Value} {ds : List Nat} (h : OwnD B w v ds) (hl : ds.length ≤ 100000) : LongR w v ds := by
  obtain ⟨h1, h2⟩ := h
  refine ⟨h2, hl, ?_⟩
  rcases h1.2 with ⟨rfl, h0⟩ | ⟨g, cap, cur, rfl, hb, hg, hc, hm, hs, ht⟩
  · exact ⟨none, 0, by rw [h0], by omega, by omega, fun hne => absurd (List.length_eq_zero_iff.1 h0) hne⟩
  · refine ⟨some ⟨g, 0, none⟩, cap, rfl, hc, by unfold maxLen at hm; omega, fun _ => ⟨g, rfl, ?_, fun j hj => ?_⟩⟩
    · rcases Nat.lt_or_ge g w.heap.size with h' | h'
      · exact h'
      · simp [Array.getElem?_eq_none h'] at hg
    · have := h1.cells (g := g) rfl j (.int .u32 ((ds[j] : Nat) : Int)) (by simp [hj])
      rwa [Lib.add_plain, Nat.zero_add] at this

/-- the append of one digit: its new cell -/
theorem one_cell {w : World} {x : Value} {t : TypeId} : ∀ j u, [x][j]? = some u → (w.alloc (.cells #[x] t)).cell? ((⟨w.heap.size, 0, none⟩ : Addr).add j) = some u := by
  intro j u hj
  match j, hj with
  | 0, hj => simp at hj; subst hj; simp [Addr.add]

theorem low16 (Y : Nat) (h : Y < 18446744073709551616) : bits BinOp.and IntKind.u64 (Y : Int) 65535 = ((Y % 65536 : Nat) : Int) := by
  have e := u64_and_nat Y 65535 h (by omega)
  rw [show ((65535 : Nat) : Int) = 65535 from rfl] at e
  rw [e, show Y &&& 65535 = Y % 65536 from Nat.and_two_pow_sub_one_eq_mod Y 16]

/-- at the head of each round of of -/
def OfRel (w : World) (n : Nat) (k : Nat) (v3 v4 : Value) (wr : World) : Prop :=
  ∃ ds, OwnD w.heap.size wr v3 ds ∧ Below w.heap.size w wr ∧ v4 = .int .i64 ((ds.length : Nat) : Int) ∧ k ≤ 4 ∧ ds.length + k = 4 ∧ longN ds + 65536 ^ ds.length * (n / 65536 ^ ds.length) = n

theorem of_step {n : Nat} {ds : List Nat} (h : longN ds + 65536 ^ ds.length * (n / 65536 ^ ds.length) = n) :
    longN (ds ++ [n / 65536 ^ ds.length % 65536]) + 65536 ^ (ds ++ [n / 65536 ^ ds.length % 65536]).length * (n / 65536 ^ (ds ++ [n / 65536 ^ ds.length % 65536]).length) = n := by
  rw [longN_append, List.length_append, List.length_singleton, Nat.pow_succ, ← Nat.div_div_eq_div_mul]
  generalize n / 65536 ^ ds.length = q at *
  generalize 65536 ^ ds.length = P at *
  have e : P * 65536 * (q / 65536) = P * (65536 * (q / 65536)) := Nat.mul_assoc _ _ _
  have e2 : longN [q % 65536] = q % 65536 := by simp [longN]
  rw [e, e2, Nat.add_assoc, ← Nat.mul_add, Nat.add_comm (q % 65536), Nat.div_add_mod]
  exact h

set_option maxHeartbeats 1000000 in
set_option maxRecDepth 20000 in
theorem of_any (n : Nat) (hn : n < 18446744073709551616) (w : World) :
    Calls Tryz.prog 83 #[.int .u64 n] w fun e w' => ∃ v' l', e = .returned v' ∧ LongR w' v' l' ∧ longN l' = n ∧ l'.length = 4 ∧ Below w.heap.size w w' := by
  obtain ⟨i0, hi, hz0, hz1, hz2⟩ := info_parts infoU32
  go_enter Tryz.func83, Tryz.ntmps83
  have q0 : n / 65536 / 65536 / 65536 / 65536 = 0 := by omega
  go_wp2_with fail
  go_loopg [3, 4] 4 (fun k v3 v4 wr => OfRel w n k v3 v4 wr)
  case atStart => exact ⟨[], OwnD.nil _ _, Below.refl _ _, rfl, by omega, rfl, by simp [longN]⟩
  case round =>
    obtain ⟨ds, ho, hb, rfl, hk, hl, hv⟩ := hrel
    obtain ⟨L, hL⟩ : ∃ L, L = ds.length := ⟨_, rfl⟩
    have HO := Lib.hid ho
    have HV := Lib.hid hv
    have HL := Lib.hid hL
    have HK := Lib.hid hl
    have hL4 : L ≤ 4 := by omega
    have hz := hb.size
    rw [← hL]
    clear hv ho hl hL
    rcases (show L = 4 ∨ L = 0 ∨ L = 1 ∨ L = 2 ∨ L = 3 by omega) with rfl | rfl | rfl | rfl | rfl
    · go_wp2_with fail
      go_ret
      have hl := HL.out
      refine ⟨_, ds, rfl, HO.out.long (by omega), ?_, hl.symm, hb⟩
      have hv := HV.out
      rw [← hl] at hv
      omega
    · obtain ⟨m, hm⟩ : ∃ m, m = n / 1 := ⟨_, rfl⟩
      obtain ⟨x, hx⟩ : ∃ x, x = m % 65536 := ⟨_, rfl⟩
      have hE : bits BinOp.and IntKind.u64 (m : Int) 65535 = (x : Int) := by rw [hx]; exact low16 m (by omega)
      have hr : (n : Int) / 1 = (m : Int) := by omega
      have hx2 : x < 65536 := by omega
      have hxI : (x : Int) ≤ 65535 := by omega
      have hst := of_step HV.out
      have hL := HL.out
      rw [← hL] at hst
      have hp : n / 65536 ^ 0 % 65536 = x := by rw [hx, hm]
      rw [hp] at hst
      have HST := Lib.hid hst
      have hO := HO.out
      have hOd := Lib.hid hO.2
      have hown := hO.1
      rw [← hL] at hown
      have HOW := Lib.hid hown
      clear hst hp hm hx hO hown hL hn q0
      simp only [Int.ediv_one] at hr
      obtain rfl : n = m := by omega
      go_wp2_with (at_builtin; refine wpList_append_own _ rfl _ _ 70 rfl w.heap.size 68 i0 (.int .u32 0) 1 4 Tryz.underlying70 hi hz0 hz1 hz2 rfl (by decide) _ _ _ rfl (HOW.out.alloc _) ⟨wr.heap.size, 0, none⟩ 1 1 [.int .u32 (x : Int)] rfl rfl one_cell (fun u hu => by simp at hu; subst hu; rfl) (by unfold maxLen; omega) (by omega) (by simp; omega) ?_)
      intro v' w2 hown' hgrow _
      have hb2 : Below w.heap.size w w2 := (hb.alloc (by omega) _).grown hgrow (by simp; omega) (fun k hk => (HOW.out.lt k hk).1)
      have HP : Hid (OwnD w.heap.size w2 v' (ds ++ [x])) := by
        refine OwnD.push hOd.out hx2 ?_
        rw [← HL.out]; exact hown'
      clear hown' hgrow hb
      go_wp2
      go_roundg (gk - 1)
      case measure => have := HK.out; have := HL.out; omega
      case rel =>
        have hK := HK.out
        have hL := HL.out
        exact ⟨ds ++ [x], HP.out, hb2, by simp [← hL], by omega, by simp; omega, HST.out⟩
    · obtain ⟨m, hm⟩ : ∃ m, m = n / 65536 := ⟨_, rfl⟩
      obtain ⟨x, hx⟩ : ∃ x, x = m % 65536 := ⟨_, rfl⟩
      have hE : bits BinOp.and IntKind.u64 (m : Int) 65535 = (x : Int) := by rw [hx]; exact low16 m (by omega)
      have hr : (n : Int) / 65536 = (m : Int) := by omega
      have hx2 : x < 65536 := by omega
      have hxI : (x : Int) ≤ 65535 := by omega
      have hst := of_step HV.out
      have hL := HL.out
      rw [← hL] at hst
      have hp : n / 65536 ^ 1 % 65536 = x := by rw [hx, hm]
      rw [hp] at hst
      have HST := Lib.hid hst
      have hO := HO.out
      have hOd := Lib.hid hO.2
      have hown := hO.1
      rw [← hL] at hown
      have HOW := Lib.hid hown
      clear hst hp hm hx hO hown hL hn q0
      skip
      skip
      go_wp2_with (at_builtin; refine wpList_append_own _ rfl _ _ 70 rfl w.heap.size 68 i0 (.int .u32 0) 1 4 Tryz.underlying70 hi hz0 hz1 hz2 rfl (by decide) _ _ _ rfl (HOW.out.alloc _) ⟨wr.heap.size, 0, none⟩ 1 1 [.int .u32 (x : Int)] rfl rfl one_cell (fun u hu => by simp at hu; subst hu; rfl) (by unfold maxLen; omega) (by omega) (by simp; omega) ?_)
      intro v' w2 hown' hgrow _
      have hb2 : Below w.heap.size w w2 := (hb.alloc (by omega) _).grown hgrow (by simp; omega) (fun k hk => (HOW.out.lt k hk).1)
      have HP : Hid (OwnD w.heap.size w2 v' (ds ++ [x])) := by
        refine OwnD.push hOd.out hx2 ?_
        rw [← HL.out]; exact hown'
      clear hown' hgrow hb
      go_wp2
      go_roundg (gk - 1)
      case measure => have := HK.out; have := HL.out; omega
      case rel =>
        have hK := HK.out
        have hL := HL.out
        exact ⟨ds ++ [x], HP.out, hb2, by simp [← hL], by omega, by simp; omega, HST.out⟩
    · obtain ⟨m, hm⟩ : ∃ m, m = n / 4294967296 := ⟨_, rfl⟩
      obtain ⟨x, hx⟩ : ∃ x, x = m % 65536 := ⟨_, rfl⟩
      have hE : bits BinOp.and IntKind.u64 (m : Int) 65535 = (x : Int) := by rw [hx]; exact low16 m (by omega)
      have hr : (n : Int) / 4294967296 = (m : Int) := by omega
      have hx2 : x < 65536 := by omega
      have hxI : (x : Int) ≤ 65535 := by omega
      have hst := of_step HV.out
      have hL := HL.out
      rw [← hL] at hst
      have hp : n / 65536 ^ 2 % 65536 = x := by rw [hx, hm]
      rw [hp] at hst
      have HST := Lib.hid hst
      have hO := HO.out
      have hOd := Lib.hid hO.2
      have hown := hO.1
      rw [← hL] at hown
      have HOW := Lib.hid hown
      clear hst hp hm hx hO hown hL hn q0
      skip
      skip
      go_wp2_with (at_builtin; refine wpList_append_own _ rfl _ _ 70 rfl w.heap.size 68 i0 (.int .u32 0) 1 4 Tryz.underlying70 hi hz0 hz1 hz2 rfl (by decide) _ _ _ rfl (HOW.out.alloc _) ⟨wr.heap.size, 0, none⟩ 1 1 [.int .u32 (x : Int)] rfl rfl one_cell (fun u hu => by simp at hu; subst hu; rfl) (by unfold maxLen; omega) (by omega) (by simp; omega) ?_)
      intro v' w2 hown' hgrow _
      have hb2 : Below w.heap.size w w2 := (hb.alloc (by omega) _).grown hgrow (by simp; omega) (fun k hk => (HOW.out.lt k hk).1)
      have HP : Hid (OwnD w.heap.size w2 v' (ds ++ [x])) := by
        refine OwnD.push hOd.out hx2 ?_
        rw [← HL.out]; exact hown'
      clear hown' hgrow hb
      go_wp2
      go_roundg (gk - 1)
      case measure => have := HK.out; have := HL.out; omega
      case rel =>
        have hK := HK.out
        have hL := HL.out
        exact ⟨ds ++ [x], HP.out, hb2, by simp [← hL], by omega, by simp; omega, HST.out⟩
    · obtain ⟨m, hm⟩ : ∃ m, m = n / 281474976710656 := ⟨_, rfl⟩
      obtain ⟨x, hx⟩ : ∃ x, x = m % 65536 := ⟨_, rfl⟩
      have hE : bits BinOp.and IntKind.u64 (m : Int) 65535 = (x : Int) := by rw [hx]; exact low16 m (by omega)
      have hr : (n : Int) / 281474976710656 = (m : Int) := by omega
      have hx2 : x < 65536 := by omega
      have hxI : (x : Int) ≤ 65535 := by omega
      have hst := of_step HV.out
      have hL := HL.out
      rw [← hL] at hst
      have hp : n / 65536 ^ 3 % 65536 = x := by rw [hx, hm]
      rw [hp] at hst
      have HST := Lib.hid hst
      have hO := HO.out
      have hOd := Lib.hid hO.2
      have hown := hO.1
      rw [← hL] at hown
      have HOW := Lib.hid hown
      clear hst hp hm hx hO hown hL hn q0
      skip
      skip
      go_wp2_with (at_builtin; refine wpList_append_own _ rfl _ _ 70 rfl w.heap.size 68 i0 (.int .u32 0) 1 4 Tryz.underlying70 hi hz0 hz1 hz2 rfl (by decide) _ _ _ rfl (HOW.out.alloc _) ⟨wr.heap.size, 0, none⟩ 1 1 [.int .u32 (x : Int)] rfl rfl one_cell (fun u hu => by simp at hu; subst hu; rfl) (by unfold maxLen; omega) (by omega) (by simp; omega) ?_)
      intro v' w2 hown' hgrow _
      have hb2 : Below w.heap.size w w2 := (hb.alloc (by omega) _).grown hgrow (by simp; omega) (fun k hk => (HOW.out.lt k hk).1)
      have HP : Hid (OwnD w.heap.size w2 v' (ds ++ [x])) := by
        refine OwnD.push hOd.out hx2 ?_
        rw [← HL.out]; exact hown'
      clear hown' hgrow hb
      go_wp2
      go_roundg (gk - 1)
      case measure => have := HK.out; have := HL.out; omega
      case rel =>
        have hK := HK.out
        have hL := HL.out
        exact ⟨ds ++ [x], HP.out, hb2, by simp [← hL], by omega, by simp; omega, HST.out⟩
end Go.Proofs.YtpodgmibghcjdaaGreatDoor
