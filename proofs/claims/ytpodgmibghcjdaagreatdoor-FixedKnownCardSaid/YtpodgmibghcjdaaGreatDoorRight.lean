/-
  The document's Right: a text's sign and digits.
-/
import Derived.Test.YtpodgmibghcjdaaGreatDoorRnd
namespace Go.Proofs.YtpodgmibghcjdaaGreatDoor
open Go Go.RowKit

theorem infoI64 : (Tryz.prog.info? 3).map (fun i => (i.zero, i.size, i.bytes)) = some (some (.int .i64 0), 1, 8) := by kernel_rfl

/-- a value that reads as these small numbers -/
def IntR (w : World) (v : Value) (l : List Nat) : Prop :=
  ∃ A c, v = .slice A l.length c ∧ l.length ≤ c ∧ c ≤ 9223372036854775807 ∧ (l ≠ [] → ∃ g, A = some ⟨g, 0, none⟩ ∧ g < w.heap.size ∧ ∀ (j : Nat) (h : j < l.length), w.cell? ⟨g, j, none⟩ = some (.int .i64 ((l[j] : Nat) : Int)))

theorem IntR.below {w w' : World} {v : Value} {l : List Nat} (h : IntR w v l) (hb : Below w.heap.size w w') : IntR w' v l := by
  obtain ⟨A, c, e, hc, hc2, hx⟩ := h
  refine ⟨A, c, e, hc, hc2, fun hne => ?_⟩
  obtain ⟨g, hA, hg, hcell⟩ := hx hne
  have := hb.size
  exact ⟨g, hA, by omega, fun j hj => by rw [hb.cell (by exact hg)]; exact hcell j hj⟩

/-- a row of the call's own that holds these small numbers -/
def OwnI (B : Nat) (w : World) (v : Value) (ds : List Nat) : Prop := w.ownsRow B 3 1 v ds.length (ds.map fun d : Nat => Value.int .i64 (d : Int))

theorem OwnI.nil (B : Nat) (w : World) : OwnI B w (.slice none 0 0) [] := World.ownsRow_nil _ _ _ _

theorem OwnI.push {B : Nat} {w : World} {v : Value} {ds : List Nat} {d : Nat}
    (h : w.ownsRow B 3 1 v (ds.length + 1) ((ds.map fun d : Nat => Value.int .i64 (d : Int)) ++ [.int .i64 (d : Int)])) : OwnI B w v (ds ++ [d]) := by
  simpa [OwnI] using h

theorem OwnI.read {B : Nat} {w : World} {v : Value} {ds : List Nat} (h : OwnI B w v ds) : IntR w v ds := by
  have h1 : w.ownsRow B 3 1 v ds.length (ds.map fun d : Nat => Value.int .i64 (d : Int)) := h
  rcases h1.2 with ⟨rfl, h0⟩ | ⟨g, cap, cur, rfl, hb, hg, hc, hm, hs, ht⟩
  · exact ⟨none, 0, by rw [h0], by omega, by omega, fun hne => absurd (List.length_eq_zero_iff.1 h0) hne⟩
  · refine ⟨some ⟨g, 0, none⟩, cap, rfl, hc, by unfold maxLen at hm; omega, fun _ => ⟨g, rfl, ?_, fun j hj => ?_⟩⟩
    · rcases Nat.lt_or_ge g w.heap.size with h' | h'
      · exact h'
      · simp [Array.getElem?_eq_none h'] at hg
    · have := h1.cells (g := g) rfl j (.int .i64 ((ds[j] : Nat) : Int)) (by simp [hj])
      rwa [Lib.add_plain, Nat.zero_add] at this

theorem OwnI.len {B : Nat} {w : World} {v : Value} {ds : List Nat} (h : OwnI B w v ds) : ∃ A c, v = .slice A ds.length c := by
  obtain ⟨A, c, e, _⟩ := h.read
  exact ⟨A, c, e⟩

/-- at the head of each round of Right -/
def RightRel (w : World) (t : ByteArray) (N k : Nat) (vl vb vi : Value) (wr : World) : Prop :=
  ∃ (i : Nat) (ds : List Nat) (bh : Int), i + k = N ∧ vi = .int .i64 (i : Int) ∧ vb = .int .i64 bh ∧ OwnI w.heap.size wr vl ds ∧ Below w.heap.size w wr ∧ RightSt (t.data.toList.take i) ds bh

/-- how Right ends -/
def RightEnd (w : World) (s : ByteArray) (e : Ending) (w' : World) : Prop :=
  Below w.heap.size w w' ∧ ((splitP s.data.toList = none ∧ ∃ b v m, e = .returned (.tuple #[.bool b, v, .int .i64 m, .bool false])) ∨
    ∃ b X Y v, splitP s.data.toList = some (b, X, Y) ∧ e = .returned (.tuple #[.bool b, v, .int .i64 (Y.length : Int), .bool true]) ∧ IntR w' v ((X ++ Y).map dg))

theorem split_drop (t : ByteArray) (i : Nat) (h : i < t.size) : t.data.toList = t.data.toList.take i ++ t[i] :: t.data.toList.drop (i + 1) := by
  have e : t.data.toList.drop i = t[i] :: t.data.toList.drop (i + 1) := List.drop_eq_getElem_cons (by simpa using h)
  rw [← e, List.take_append_drop]

theorem not_dig {c : UInt8} (h : ¬ (48 ≤ c.toNat ∧ c.toNat ≤ 57)) : isDig c = false := by
  rcases hb : isDig c with _ | _
  · rfl
  · exact absurd ((isDig_iff c).1 hb) h

theorem results_tmp4 {fn : Func} {t u v x : Tmp} (h : fn.results = #[.tmp t, .tmp u, .tmp v, .tmp x]) (tmps : Array Value) (P : Program) (w : World) :
    (results fn tmps).run P w = .ok (.tuple #[tmps.getD t undef, tmps.getD u undef, tmps.getD v undef, tmps.getD x undef]) w := by
  simp [results, h]

theorem not_empty (s : ByteArray) (h : 0 < s.size) : s.toList.isEmpty = false := by
  rw [ByteArray.toList_eq]
  cases hl : s.data.toList with
  | nil =>
    have h2 : s.data.toList.length = s.size := by simp
    rw [hl] at h2; simp at h2; omega
  | cons _ _ => rfl

theorem big40 (s : List UInt8) (h : 40 < s.length) : splitP s = none := by
  unfold splitP
  simp only []
  rw [if_pos h]

set_option maxHeartbeats 4000000 in
set_option maxRecDepth 20000 in
theorem right_any (s : ByteArray) (hs : s.size ≤ 140737488351232) (w : World) :
    Calls Tryz.prog 26 #[.string s] w fun e w' => RightEnd w s e w' := by
  obtain ⟨i0, hi0, hz0, hz1, hz2⟩ := info_parts infoI64
  by_cases h40 : 40 < s.size
  · have HX : Hid (splitP s.data.toList = none) := Lib.hid (big40 _ (by simpa using h40))
    have h40I : (40 : Int) < (s.size : Int) := by omega
    clear h40
    go_enter Tryz.func26, Tryz.ntmps26
    go_wp2_with fail
    try simp only [Exit.inBlock, Exit.then]
    refine bodyPost_ret (results_tmp4 rfl _ _ _) rfl ?_
    exact ⟨Below.refl _ _, .inl ⟨HX.out, _, _, _, rfl⟩⟩
  · have hsp := splitP_parts s.data.toList (by simp; omega)
    rcases sign_parts s.data.toList with ⟨r, hr, hpre, htr⟩ | ⟨hr, hpre, htr⟩
    · have hsz : s.size = r.length + 1 := by
        have := congrArg List.length hr
        simpa using this
      have h0 : 0 < s.size := by omega
      have hc0 : ((s[0].toNat : Nat) : Int) = 45 := by
        have : s[0] = 45 := by
          have e : s.data.toList[0]? = some 45 := by rw [hr]; rfl
          have e2 : s.data.toList[0]? = some s[0] := by
            rw [List.getElem?_eq_getElem (by simpa using h0)]; rfl
          rw [e2] at e
          exact Option.some.inj e
        rw [this]; rfl
      have hne := not_empty s h0
      obtain ⟨t, ht⟩ : ∃ t, t = s.extract 1 s.size := ⟨_, rfl⟩
      have htd : t.data.toList = r := by
        rw [ht]
        simp [hr]
        exact List.take_of_length_le (by omega)
      rw [hpre, htr, ← htd] at hsp
      have HSP : Hid (partsP t.data.toList = none → splitP s.data.toList = none) := Lib.hid (fun h => by rw [hsp, h]; rfl)
      have HSS : Hid (∀ X Y, partsP t.data.toList = some (X, Y) → splitP s.data.toList = some (true, X, Y)) := Lib.hid (fun X Y h => by rw [hsp, h]; rfl)
      have htz : t.size = r.length := by have := congrArg List.length htd; simpa using this
      obtain ⟨N, hN⟩ : ∃ N, N = t.size := ⟨_, rfl⟩
      have hN40 : N ≤ 40 := by omega
      have HN := Lib.hid hN
      have h40I : ¬ (40 : Int) < (s.size : Int) := by omega
      have hsl : ∀ wx : World, (Instr.slice 9 (.string s) (some (.int .i64 1)) none none).run Tryz.prog wx = .ok (.string t) wx := by
        intro wx
        rw [ht]
        have h := run_slice_string_l (P := Tryz.prog) wx 9 s Tryz.underlying9 .i64 1 (by omega) (by omega)
        first | exact h | (simpa using h)
      have hNI : ((t.size : Nat) : Int) = (N : Int) := by omega
      clear hsp htd htr hr hpre htz hN ht h40 hsz
      go_enter Tryz.func26, Tryz.ntmps26
      go_wp2_with fail
      go_loopg [7, 8, 9] N (fun k vl vb vi wr => RightRel w t N k vl vb vi wr)
      case atStart => exact ⟨0, [], -1, by omega, rfl, rfl, OwnI.nil _ _, Below.refl _ _, .inl ⟨rfl, rfl, rfl⟩⟩
      case round =>
        obtain ⟨i, ds, bh, hik, rfl, rfl, ho, hb, hst⟩ := hrel
        obtain ⟨hg1, hg2, hg3⟩ := st_ge hst
        have hbI : bh ≤ 40 := by simp at hg2; omega
        have hlen : ds.length ≤ 40 := by simp at hg3; omega
        have HO := Lib.hid ho
        have HST := Lib.hid hst
        obtain ⟨A, cap, rfl⟩ := ho.len
        obtain ⟨L, hL⟩ : ∃ L, L = ds.length := ⟨_, rfl⟩
        have HL := Lib.hid hL
        rw [← hL] at hlen ⊢
        have HB := Lib.hid hb
        have hz := hb.size
        clear ho hst hg2 hg3 hL hb
        rcases Nat.eq_zero_or_pos gk with h0 | h0
        · obtain rfl := h0
          obtain rfl : i = N := by omega
          have hend := st_end HST.out
          have htl : t.data.toList.take i = t.data.toList := List.take_of_length_le (by have := HN.out; simp; omega)
          rw [htl] at hend
          have HE1 := Lib.hid hend.1
          have HE2 := Lib.hid hend.2
          clear hend htl
          by_cases hd : L = 0
          · obtain rfl := hd
            have HX : Hid (partsP t.data.toList = none) := Lib.hid (HE2.out fun h => h.1 (List.length_eq_zero_iff.1 HL.out.symm))
            by_cases hbn : bh < 0
            · go_wp2_with fail
              try simp only [Exit.inBlock, Exit.then]
              refine bodyPost_ret (results_tmp4 rfl _ _ _) rfl ?_
              exact ⟨HB.out, .inl ⟨HSP.out HX.out, _, _, _, rfl⟩⟩
            · go_wp2_with fail
              try simp only [Exit.inBlock, Exit.then]
              refine bodyPost_ret (results_tmp4 rfl _ _ _) rfl ?_
              exact ⟨HB.out, .inl ⟨HSP.out HX.out, _, _, _, rfl⟩⟩
          · have hdI : (0 : Int) < (L : Int) := by omega
            by_cases hb0 : bh = 0
            · obtain rfl := hb0
              have HX : Hid (partsP t.data.toList = none) := Lib.hid (HE2.out fun h => h.2 rfl)
              clear hd
              go_wp2_with fail
              try simp only [Exit.inBlock, Exit.then]
              refine bodyPost_ret (results_tmp4 rfl _ _ _) rfl ?_
              exact ⟨HB.out, .inl ⟨HSP.out HX.out, _, _, _, rfl⟩⟩
            · have hne : ds ≠ [] := by rintro rfl; exact hd HL.out
              obtain ⟨X, Y, hp, hm, hmx⟩ := HE1.out ⟨hne, hb0⟩
              have HP := Lib.hid hp
              have HM := Lib.hid hm
              have HMX := Lib.hid hmx
              clear hp hm hmx hne hd
              rcases (show bh = -1 ∨ 0 < bh by omega) with rfl | hpos
              · go_wp2_with fail
                try simp only [Exit.inBlock, Exit.then]
                refine bodyPost_ret (results_tmp4 rfl _ _ _) rfl ?_
                have hx := HMX.out
                refine ⟨HB.out, .inr ⟨_, X, Y, _, HSS.out X Y HP.out, ?_, by rw [← HM.out, ]; exact (by have := HO.out.read; rw [← HL.out] at *; exact this)⟩⟩
                rw [← hx]; rfl
              · go_wp2_with fail
                try simp only [Exit.inBlock, Exit.then]
                refine bodyPost_ret (results_tmp4 rfl _ _ _) rfl ?_
                have hx := HMX.out
                have hbt : (bh != 0) = true := by simp; omega
                refine ⟨HB.out, .inr ⟨_, X, Y, _, HSS.out X Y HP.out, ?_, by rw [← HM.out]; exact (by have := HO.out.read; rw [← HL.out] at *; exact this)⟩⟩
                show Ending.returned (Value.tuple #[_, _, Value.int .i64 (max bh 0), Value.bool (bh != 0)]) = _
                rw [hbt, hx]
                rfl
        · have hiN : i < N := by omega
          have hit : i < t.size := by have := HN.out; omega
          have HD : Hid (t.data.toList = t.data.toList.take i ++ t[i] :: t.data.toList.drop (i + 1)) := Lib.hid (split_drop t i hit)
          have HTK : Hid (t.data.toList.take (i + 1) = t.data.toList.take i ++ [t[i]]) := Lib.hid (take_snoc t i hit)
          by_cases hc : 48 ≤ t[i].toNat ∧ t[i].toNat ≤ 57
          · have hi : (48 : Int) ≤ ((t[i].toNat : Nat) : Int) := by omega
            have hj : ((t[i].toNat : Nat) : Int) ≤ 57 := by omega
            have HNX := Lib.hid (st_digit HST.out ((isDig_iff _).2 hc))
            obtain ⟨d, hd⟩ : ∃ d, d = dg t[i] := ⟨_, rfl⟩
            have hsub : ((t[i].toNat : Nat) : Int) - 48 = (d : Int) := by rw [hd]; unfold dg; omega
            have hdI : (d : Int) ≤ 9 := by omega
            rw [← hd] at HNX
            have hown : wr.ownsRow w.heap.size 3 1 (.slice A L cap) L (ds.map fun d : Nat => Value.int .i64 (d : Int)) := by have := HO.out; unfold OwnI at this; rw [← HL.out] at this; exact this
            have HOW := Lib.hid hown
            clear hc hd hown
            by_cases hbn : bh < 0
            · have HNX2 := Lib.hid HNX.out
              rw [if_neg (by omega)] at HNX2
              clear HNX
              go_wp2_with (at_builtin; refine wpList_append_own _ rfl _ _ 52 rfl w.heap.size 3 i0 (.int .i64 0) 1 8 Tryz.underlying52 hi0 hz0 hz1 hz2 rfl (by decide) _ _ _ rfl (HOW.out.alloc _) ⟨wr.heap.size, 0, none⟩ 1 1 [.int .i64 (d : Int)] rfl rfl one_cell (fun u hu => by simp at hu; subst hu; rfl) (by unfold maxLen; omega) (by omega) (by simp; omega) ?_)
              intro v' w2 hown' hgrow _
              have hb2 : Below w.heap.size w w2 := (HB.out.alloc (by omega) _).grown hgrow (by simp; omega) (fun k hk => (HOW.out.lt k hk).1)
              have HP : Hid (OwnI w.heap.size w2 v' (ds ++ [d])) := by
                refine OwnI.push ?_
                rw [← HL.out]; exact hown'
              clear hown' hgrow HB
              go_wp2
              go_roundg (gk - 1)
              case measure => omega
              case rel =>
                exact ⟨i + 1, ds ++ [d], bh, by omega, by first | rfl | exact congrArg _ (by omega), rfl, HP.out, hb2, by rw [HTK.out]; exact HNX2.out⟩
            · have HNX2 := Lib.hid HNX.out
              rw [if_pos (by omega)] at HNX2
              clear HNX
              go_wp2_with (at_builtin; refine wpList_append_own _ rfl _ _ 52 rfl w.heap.size 3 i0 (.int .i64 0) 1 8 Tryz.underlying52 hi0 hz0 hz1 hz2 rfl (by decide) _ _ _ rfl (HOW.out.alloc _) ⟨wr.heap.size, 0, none⟩ 1 1 [.int .i64 (d : Int)] rfl rfl one_cell (fun u hu => by simp at hu; subst hu; rfl) (by unfold maxLen; omega) (by omega) (by simp; omega) ?_)
              intro v' w2 hown' hgrow _
              have hb2 : Below w.heap.size w w2 := (HB.out.alloc (by omega) _).grown hgrow (by simp; omega) (fun k hk => (HOW.out.lt k hk).1)
              have HP : Hid (OwnI w.heap.size w2 v' (ds ++ [d])) := by
                refine OwnI.push ?_
                rw [← HL.out]; exact hown'
              clear hown' hgrow HB
              go_wp2
              go_roundg (gk - 1)
              case measure => omega
              case rel =>
                exact ⟨i + 1, ds ++ [d], bh + 1, by omega, by first | rfl | exact congrArg _ (by omega), rfl, HP.out, hb2, by rw [HTK.out]; exact HNX2.out⟩
          · have hnd := not_dig hc
            by_cases h46 : t[i].toNat = 46
            · have hv : t[i] = 46 := UInt8.toNat_inj.1 (by rw [h46]; rfl)
              have hi : ((t[i].toNat : Nat) : Int) = 46 := by omega
              by_cases hpt : bh < 0 ∧ 0 < L
              · have HNX := Lib.hid (st_point HST.out hpt.1 (by rintro rfl; have := HL.out; simp at this; omega))
                have hb1 : bh < 0 := hpt.1
                have hl1 : (0 : Int) < (L : Int) := by omega
                rw [← hv] at HNX
                clear hc hnd h46 hv hpt
                go_wp2_with fail
                go_roundg (gk - 1)
                case measure => omega
                case rel =>
                  refine ⟨i + 1, ds, 0, by omega, by first | rfl | exact congrArg _ (by omega), rfl, ?_, HB.out, by rw [HTK.out]; exact HNX.out⟩
                  have := HO.out
                  rw [HL.out]; exact this
              · have HX : Hid (partsP t.data.toList = none) := Lib.hid (by
                  rw [HD.out]
                  refine st_bad _ HST.out hnd fun _ => ?_
                  by_cases h : 0 ≤ bh
                  · exact .inl h
                  · right
                    have : L = 0 := by omega
                    exact List.length_eq_zero_iff.1 (by rw [← HL.out]; exact this))
                by_cases hbn : bh < 0
                · obtain rfl : L = 0 := by omega
                  clear hc hnd h46 hv hpt
                  go_wp2_with fail
                  try simp only [Exit.inBlock, Exit.then]
                  refine bodyPost_ret (results_tmp4 rfl _ _ _) rfl ?_
                  exact ⟨HB.out, .inl ⟨HSP.out HX.out, _, _, _, rfl⟩⟩
                · clear hc hnd h46 hv hpt
                  go_wp2_with fail
                  try simp only [Exit.inBlock, Exit.then]
                  refine bodyPost_ret (results_tmp4 rfl _ _ _) rfl ?_
                  exact ⟨HB.out, .inl ⟨HSP.out HX.out, _, _, _, rfl⟩⟩
            · have HX : Hid (partsP t.data.toList = none) := Lib.hid (by
                rw [HD.out]
                refine st_bad _ HST.out hnd fun h => absurd ?_ h46
                rw [h]; rfl)
              have hi : ¬ ((t[i].toNat : Nat) : Int) = 46 := by omega
              rcases (show t[i].toNat < 48 ∨ 57 < t[i].toNat by omega) with hlo | hhi
              · have hj : ((t[i].toNat : Nat) : Int) < 48 := by omega
                clear hc hnd h46 hlo
                go_wp2_with fail
                try simp only [Exit.inBlock, Exit.then]
                refine bodyPost_ret (results_tmp4 rfl _ _ _) rfl ?_
                exact ⟨HB.out, .inl ⟨HSP.out HX.out, _, _, _, rfl⟩⟩
              · have hj : (57 : Int) < ((t[i].toNat : Nat) : Int) := by omega
                clear hc hnd h46 hhi
                go_wp2_with fail
                try simp only [Exit.inBlock, Exit.then]
                refine bodyPost_ret (results_tmp4 rfl _ _ _) rfl ?_
                exact ⟨HB.out, .inl ⟨HSP.out HX.out, _, _, _, rfl⟩⟩
    · have HSP : Hid (partsP s.data.toList = none → splitP s.data.toList = none) := Lib.hid (fun h => by rw [hsp, htr, h]; rfl)
      have HSS : Hid (∀ X Y, partsP s.data.toList = some (X, Y) → splitP s.data.toList = some (false, X, Y)) := Lib.hid (fun X Y h => by rw [hsp, hpre, htr, h]; rfl)
      obtain ⟨t, ht⟩ : ∃ t, t = s := ⟨_, rfl⟩
      obtain ⟨N, hN⟩ : ∃ N, N = s.size := ⟨_, rfl⟩
      have hN40 : N ≤ 40 := by omega
      have h40I : ¬ (40 : Int) < (s.size : Int) := by omega
      have hNI : ((s.size : Nat) : Int) = (N : Int) := by omega
      subst ht
      have HN := Lib.hid hN
      rcases Nat.eq_zero_or_pos t.size with hz | hz
      · have he : t = ByteArray.mk #[] := by
          apply ByteArray.ext
          exact Array.eq_empty_of_size_eq_zero hz
        have hX : Hid (splitP t.data.toList = none) := Lib.hid (by rw [he]; kernel_rfl)
        clear HSP HSS hsp hpre htr hr
        subst he
        clear h40 hz hN HN h40I hNI hN40
        go_enter Tryz.func26, Tryz.ntmps26
        go_wp2_with fail
        go_loopg [7, 8, 9] 0 (fun k vl vb vi wr => w = wr ∧ vl = .slice none 0 0 ∧ vb = .int .i64 (-1) ∧ vi = .int .i64 0)
        case atStart => exact ⟨rfl, rfl, rfl, rfl⟩
        case round =>
          obtain ⟨rfl, rfl, rfl, rfl⟩ := hrel
          go_wp2_with fail
          try simp only [Exit.inBlock, Exit.then]
          refine bodyPost_ret (results_tmp4 rfl _ _ _) rfl ?_
          exact ⟨Below.refl _ _, .inl ⟨hX.out, _, _, _, rfl⟩⟩
      · have hne := not_empty t hz
        have hc0 : ¬ ((t[0].toNat : Nat) : Int) = 45 := by
          intro h
          have h2 : t[0] = 45 := UInt8.toNat_inj.1 (by have : t[0].toNat = 45 := by omega
                                                       rw [this]; rfl)
          refine hr (t.data.toList.drop 1) ?_
          have := split_drop t 0 hz
          rw [h2] at this
          simpa using this
        have hcb : (((t[0].toNat : Nat) : Int) == 45) = false := by simp; omega
        clear hsp htr hr hpre hN h40
        go_enter Tryz.func26, Tryz.ntmps26
        go_wp2_with fail
        go_loopg [7, 8, 9] N (fun k vl vb vi wr => RightRel w t N k vl vb vi wr)
        case atStart => exact ⟨0, [], -1, by omega, rfl, rfl, OwnI.nil _ _, Below.refl _ _, .inl ⟨rfl, rfl, rfl⟩⟩
        case round =>
          obtain ⟨i, ds, bh, hik, rfl, rfl, ho, hb, hst⟩ := hrel
          obtain ⟨hg1, hg2, hg3⟩ := st_ge hst
          have hbI : bh ≤ 40 := by simp at hg2; omega
          have hlen : ds.length ≤ 40 := by simp at hg3; omega
          have HO := Lib.hid ho
          have HST := Lib.hid hst
          obtain ⟨A, cap, rfl⟩ := ho.len
          obtain ⟨L, hL⟩ : ∃ L, L = ds.length := ⟨_, rfl⟩
          have HL := Lib.hid hL
          rw [← hL] at hlen ⊢
          have HB := Lib.hid hb
          have hz := hb.size
          clear ho hst hg2 hg3 hL hb
          rcases Nat.eq_zero_or_pos gk with h0 | h0
          · obtain rfl := h0
            obtain rfl : i = N := by omega
            have hend := st_end HST.out
            have htl : t.data.toList.take i = t.data.toList := List.take_of_length_le (by have := HN.out; simp; omega)
            rw [htl] at hend
            have HE1 := Lib.hid hend.1
            have HE2 := Lib.hid hend.2
            clear hend htl
            by_cases hd : L = 0
            · obtain rfl := hd
              have HX : Hid (partsP t.data.toList = none) := Lib.hid (HE2.out fun h => h.1 (List.length_eq_zero_iff.1 HL.out.symm))
              by_cases hbn : bh < 0
              · go_wp2_with fail
                try simp only [Exit.inBlock, Exit.then]
                refine bodyPost_ret (results_tmp4 rfl _ _ _) rfl ?_
                exact ⟨HB.out, .inl ⟨HSP.out HX.out, _, _, _, rfl⟩⟩
              · go_wp2_with fail
                try simp only [Exit.inBlock, Exit.then]
                refine bodyPost_ret (results_tmp4 rfl _ _ _) rfl ?_
                exact ⟨HB.out, .inl ⟨HSP.out HX.out, _, _, _, rfl⟩⟩
            · have hdI : (0 : Int) < (L : Int) := by omega
              by_cases hb0 : bh = 0
              · obtain rfl := hb0
                have HX : Hid (partsP t.data.toList = none) := Lib.hid (HE2.out fun h => h.2 rfl)
                clear hd
                go_wp2_with fail
                try simp only [Exit.inBlock, Exit.then]
                refine bodyPost_ret (results_tmp4 rfl _ _ _) rfl ?_
                exact ⟨HB.out, .inl ⟨HSP.out HX.out, _, _, _, rfl⟩⟩
              · have hne : ds ≠ [] := by rintro rfl; exact hd HL.out
                obtain ⟨X, Y, hp, hm, hmx⟩ := HE1.out ⟨hne, hb0⟩
                have HP := Lib.hid hp
                have HM := Lib.hid hm
                have HMX := Lib.hid hmx
                clear hp hm hmx hne hd
                rcases (show bh = -1 ∨ 0 < bh by omega) with rfl | hpos
                · go_wp2_with fail
                  try simp only [Exit.inBlock, Exit.then]
                  refine bodyPost_ret (results_tmp4 rfl _ _ _) rfl ?_
                  have hx := HMX.out
                  refine ⟨HB.out, .inr ⟨_, X, Y, _, HSS.out X Y HP.out, ?_, by rw [← HM.out, ]; exact (by have := HO.out.read; rw [← HL.out] at *; exact this)⟩⟩
                  rw [← hx]; rfl
                · go_wp2_with fail
                  try simp only [Exit.inBlock, Exit.then]
                  refine bodyPost_ret (results_tmp4 rfl _ _ _) rfl ?_
                  have hx := HMX.out
                  have hbt : (bh != 0) = true := by simp; omega
                  refine ⟨HB.out, .inr ⟨_, X, Y, _, HSS.out X Y HP.out, ?_, by rw [← HM.out]; exact (by have := HO.out.read; rw [← HL.out] at *; exact this)⟩⟩
                  show Ending.returned (Value.tuple #[_, _, Value.int .i64 (max bh 0), Value.bool (bh != 0)]) = _
                  rw [hbt, hx]
                  rfl
          · have hiN : i < N := by omega
            have hit : i < t.size := by have := HN.out; omega
            have HD : Hid (t.data.toList = t.data.toList.take i ++ t[i] :: t.data.toList.drop (i + 1)) := Lib.hid (split_drop t i hit)
            have HTK : Hid (t.data.toList.take (i + 1) = t.data.toList.take i ++ [t[i]]) := Lib.hid (take_snoc t i hit)
            by_cases hc : 48 ≤ t[i].toNat ∧ t[i].toNat ≤ 57
            · have hi : (48 : Int) ≤ ((t[i].toNat : Nat) : Int) := by omega
              have hj : ((t[i].toNat : Nat) : Int) ≤ 57 := by omega
              have HNX := Lib.hid (st_digit HST.out ((isDig_iff _).2 hc))
              obtain ⟨d, hd⟩ : ∃ d, d = dg t[i] := ⟨_, rfl⟩
              have hsub : ((t[i].toNat : Nat) : Int) - 48 = (d : Int) := by rw [hd]; unfold dg; omega
              have hdI : (d : Int) ≤ 9 := by omega
              rw [← hd] at HNX
              have hown : wr.ownsRow w.heap.size 3 1 (.slice A L cap) L (ds.map fun d : Nat => Value.int .i64 (d : Int)) := by have := HO.out; unfold OwnI at this; rw [← HL.out] at this; exact this
              have HOW := Lib.hid hown
              clear hc hd hown
              by_cases hbn : bh < 0
              · have HNX2 := Lib.hid HNX.out
                rw [if_neg (by omega)] at HNX2
                clear HNX
                go_wp2_with (at_builtin; refine wpList_append_own _ rfl _ _ 52 rfl w.heap.size 3 i0 (.int .i64 0) 1 8 Tryz.underlying52 hi0 hz0 hz1 hz2 rfl (by decide) _ _ _ rfl (HOW.out.alloc _) ⟨wr.heap.size, 0, none⟩ 1 1 [.int .i64 (d : Int)] rfl rfl one_cell (fun u hu => by simp at hu; subst hu; rfl) (by unfold maxLen; omega) (by omega) (by simp; omega) ?_)
                intro v' w2 hown' hgrow _
                have hb2 : Below w.heap.size w w2 := (HB.out.alloc (by omega) _).grown hgrow (by simp; omega) (fun k hk => (HOW.out.lt k hk).1)
                have HP : Hid (OwnI w.heap.size w2 v' (ds ++ [d])) := by
                  refine OwnI.push ?_
                  rw [← HL.out]; exact hown'
                clear hown' hgrow HB
                go_wp2
                go_roundg (gk - 1)
                case measure => omega
                case rel =>
                  exact ⟨i + 1, ds ++ [d], bh, by omega, by first | rfl | exact congrArg _ (by omega), rfl, HP.out, hb2, by rw [HTK.out]; exact HNX2.out⟩
              · have HNX2 := Lib.hid HNX.out
                rw [if_pos (by omega)] at HNX2
                clear HNX
                go_wp2_with (at_builtin; refine wpList_append_own _ rfl _ _ 52 rfl w.heap.size 3 i0 (.int .i64 0) 1 8 Tryz.underlying52 hi0 hz0 hz1 hz2 rfl (by decide) _ _ _ rfl (HOW.out.alloc _) ⟨wr.heap.size, 0, none⟩ 1 1 [.int .i64 (d : Int)] rfl rfl one_cell (fun u hu => by simp at hu; subst hu; rfl) (by unfold maxLen; omega) (by omega) (by simp; omega) ?_)
                intro v' w2 hown' hgrow _
                have hb2 : Below w.heap.size w w2 := (HB.out.alloc (by omega) _).grown hgrow (by simp; omega) (fun k hk => (HOW.out.lt k hk).1)
                have HP : Hid (OwnI w.heap.size w2 v' (ds ++ [d])) := by
                  refine OwnI.push ?_
                  rw [← HL.out]; exact hown'
                clear hown' hgrow HB
                go_wp2
                go_roundg (gk - 1)
                case measure => omega
                case rel =>
                  exact ⟨i + 1, ds ++ [d], bh + 1, by omega, by first | rfl | exact congrArg _ (by omega), rfl, HP.out, hb2, by rw [HTK.out]; exact HNX2.out⟩
            · have hnd := not_dig hc
              by_cases h46 : t[i].toNat = 46
              · have hv : t[i] = 46 := UInt8.toNat_inj.1 (by rw [h46]; rfl)
                have hi : ((t[i].toNat : Nat) : Int) = 46 := by omega
                by_cases hpt : bh < 0 ∧ 0 < L
                · have HNX := Lib.hid (st_point HST.out hpt.1 (by rintro rfl; have := HL.out; simp at this; omega))
                  have hb1 : bh < 0 := hpt.1
                  have hl1 : (0 : Int) < (L : Int) := by omega
                  rw [← hv] at HNX
                  clear hc hnd h46 hv hpt
                  go_wp2_with fail
                  go_roundg (gk - 1)
                  case measure => omega
                  case rel =>
                    refine ⟨i + 1, ds, 0, by omega, by first | rfl | exact congrArg _ (by omega), rfl, ?_, HB.out, by rw [HTK.out]; exact HNX.out⟩
                    have := HO.out
                    rw [HL.out]; exact this
                · have HX : Hid (partsP t.data.toList = none) := Lib.hid (by
                    rw [HD.out]
                    refine st_bad _ HST.out hnd fun _ => ?_
                    by_cases h : 0 ≤ bh
                    · exact .inl h
                    · right
                      have : L = 0 := by omega
                      exact List.length_eq_zero_iff.1 (by rw [← HL.out]; exact this))
                  by_cases hbn : bh < 0
                  · obtain rfl : L = 0 := by omega
                    clear hc hnd h46 hv hpt
                    go_wp2_with fail
                    try simp only [Exit.inBlock, Exit.then]
                    refine bodyPost_ret (results_tmp4 rfl _ _ _) rfl ?_
                    exact ⟨HB.out, .inl ⟨HSP.out HX.out, _, _, _, rfl⟩⟩
                  · clear hc hnd h46 hv hpt
                    go_wp2_with fail
                    try simp only [Exit.inBlock, Exit.then]
                    refine bodyPost_ret (results_tmp4 rfl _ _ _) rfl ?_
                    exact ⟨HB.out, .inl ⟨HSP.out HX.out, _, _, _, rfl⟩⟩
              · have HX : Hid (partsP t.data.toList = none) := Lib.hid (by
                  rw [HD.out]
                  refine st_bad _ HST.out hnd fun h => absurd ?_ h46
                  rw [h]; rfl)
                have hi : ¬ ((t[i].toNat : Nat) : Int) = 46 := by omega
                rcases (show t[i].toNat < 48 ∨ 57 < t[i].toNat by omega) with hlo | hhi
                · have hj : ((t[i].toNat : Nat) : Int) < 48 := by omega
                  clear hc hnd h46 hlo
                  go_wp2_with fail
                  try simp only [Exit.inBlock, Exit.then]
                  refine bodyPost_ret (results_tmp4 rfl _ _ _) rfl ?_
                  exact ⟨HB.out, .inl ⟨HSP.out HX.out, _, _, _, rfl⟩⟩
                · have hj : (57 : Int) < ((t[i].toNat : Nat) : Int) := by omega
                  clear hc hnd h46 hhi
                  go_wp2_with fail
                  try simp only [Exit.inBlock, Exit.then]
                  refine bodyPost_ret (results_tmp4 rfl _ _ _) rfl ?_
                  exact ⟨HB.out, .inl ⟨HSP.out HX.out, _, _, _, rfl⟩⟩
end Go.Proofs.YtpodgmibghcjdaaGreatDoor
