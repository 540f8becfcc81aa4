/-
  FixedReads: any text is read as the document says; noughts behind the point, and ahead, change nothing.
-/
import Derived.Test.YtpodgmibghcjdaaGreatDoorReadR
import Derived.Test.YtpodgmibghcjdaaGreatDoorWorks
import Derived.Stop.LaidErr
import Derived.LaidSub
import Derived.Deep.RegionHeld3
namespace Go.Proofs.YtpodgmibghcjdaaGreatDoor
open Go Go.RowKit Go.ChangeShapes

/-- strconv.ErrRange holds an error value -/
abbrev ErrW (w : World) : Prop := ∃ ev, w.cell? ⟨5, 0, none⟩ = some ev ∧ (ev = .nilIface ∨ ∃ te pe, ev = .iface te pe)

theorem err_below {w w' : World} (h : ErrW w) (hb : Below w.heap.size w w') : ErrW w' := by
  obtain ⟨ev, h1, h2⟩ := h
  exact ⟨ev, by rw [hb.cell (World.block_lt_of_cell? w _ h1)]; exact h1, h2⟩

theorem star_errorString : "*" ++ "errors.errorString" = "*errors.errorString" := by decide

theorem row_errorString (u : TypeId) (h : Tryz.prog.typeName? 3 u = some "*errors.errorString") : u = 134 :=
  typeName_ptr_named (nm := "errors.errorString") (by rw [star_errorString]; kernel_rfl) (by kernel_rfl) (by decide) u (by rw [star_errorString]; exact h)

theorem err_of_laid {L : List (String × DataW Unit)} {W : World} {text : List UInt8}
    (he : ((L.filter fun x => x.2.handleName?.isNone).filter fun x => x.1 == "strconv.ErrRange") = [("strconv.ErrRange", .iface "*errors.errorString" (.ptr (.agg [.lit (.string text)])))])
    (hL : laidMetH Tryz.prog L W) : ErrW W := by
  have h1 := ((laidMetH_iff.1 hL).1).filter (fun x => x.1 == "strconv.ErrRange")
  rw [he] at h1
  have hg : Tryz.prog.globalNamed "strconv.ErrRange" = some 5 := by kernel_rfl
  obtain ⟨a, s, hv, _⟩ := laid_sentinel h1 hg (by kernel_rfl) Tryz.underlying44 row_errorString Tryz.underlying134 Tryz.underlying136 rfl rfl Tryz.underlying9 (by kernel_rfl) (by kernel_rfl)
  exact ⟨_, by rw [World.var?_cell hg hv 0]; rfl, .inr ⟨_, _, rfl⟩⟩

/-! ### the texts -/

/-- a sign's text -/
def sgn (b : Bool) : List UInt8 := if b then [45] else []

theorem sgn_parts (b : Bool) (l : List UInt8) (h : ∀ r, l ≠ 45 :: r) : Lib.hasPrefix (sgn b ++ l) [45] = b ∧ Lib.trimPrefix (sgn b ++ l) [45] = l := by
  cases b with
  | true => simp [sgn, Lib.hasPrefix, Lib.trimPrefix]
  | false =>
    rcases sign_parts l with ⟨r, hr, _⟩ | ⟨_, h1, h2⟩
    · exact absurd hr (h r)
    · exact ⟨h1, h2⟩

theorem dig_no_sign (X R : List UInt8) (hX : X.all isDig = true) (hne : X ≠ []) : ∀ r, X ++ R ≠ 45 :: r := by
  intro r h
  cases X with
  | nil => exact hne rfl
  | cons c t =>
    injection h with h1
    rw [h1] at hX
    simp only [List.all_cons, Bool.and_eq_true] at hX
    exact absurd hX.1 (by decide)

theorem split_mk (b : Bool) (X Y : List UInt8) (hX : X.all isDig = true) (hne : X ≠ []) (hY : Y.all isDig = true) (hY0 : Y ≠ []) (hl : (sgn b ++ (X ++ 46 :: Y)).length ≤ 40) :
    splitP (sgn b ++ (X ++ 46 :: Y)) = some (b, X, Y) := by
  obtain ⟨h1, h2⟩ := sgn_parts b _ (dig_no_sign X (46 :: Y) hX hne)
  rw [splitP_parts _ hl, h1, h2]
  unfold partsP
  rw [cut_point X Y hX]
  have e1 : digitsB X = true := by simp [digitsB, hX, hne]
  have e2 : digitsB Y = true := by simp [digitsB, hY, hY0]
  simp [e1, e2]

theorem split_mk0 (b : Bool) (X : List UInt8) (hX : X.all isDig = true) (hne : X ≠ []) (hl : (sgn b ++ X).length ≤ 40) :
    splitP (sgn b ++ X) = some (b, X, []) := by
  have h0 := dig_no_sign X [] hX hne
  rw [List.append_nil] at h0
  obtain ⟨h1, h2⟩ := sgn_parts b X h0
  rw [splitP_parts _ hl, h1, h2]
  unfold partsP
  rw [cut_whole X hX]
  have e1 : digitsB X = true := by simp [digitsB, hX, hne]
  simp [e1]

theorem zeros_digits (z : Nat) : (List.replicate z (48 : UInt8)).all isDig = true := by
  rw [List.all_eq_true]; intro c hc; rw [List.eq_of_mem_replicate hc]; decide

theorem num_zeros (z : Nat) (X : List UInt8) : numL (List.replicate z 48 ++ X) = numL X := by
  show numF 0 _ = numF 0 X
  rw [numF_append, numF_zeros, Nat.zero_mul]

theorem scaled_zeros (z : Nat) (Y : List UInt8) : scaledN (Y ++ List.replicate z 48) = scaledN Y := by
  have e : dec17 (Y ++ List.replicate z 48) = dec17 Y := by
    unfold dec17
    rw [List.append_assoc, List.replicate_append_replicate, List.take_append, List.take_append (l₁ := Y), List.take_replicate, List.take_replicate, Nat.min_eq_left (by omega), Nat.min_eq_left (by omega)]
  unfold scaledN
  rw [e]

/-- the text that FixedReads makes anew -/
def again (b : Bool) (z : Nat) (X Y : List UInt8) : List UInt8 :=
  sgn b ++ (List.replicate z 48 ++ X ++ (if Y = [] ∧ z = 0 then [] else 46 :: (Y ++ List.replicate z 48)))

theorem again_reads (l : List UInt8) (b : Bool) (z : Nat) (X Y : List UInt8) (h : splitP l = some (b, X, Y)) (hl : X.length + Y.length + 2 * z ≤ 36) :
    (again b z X Y).length ≤ 40 ∧ readE (again b z X Y) = readE l ∧ (tooGreat (again b z X Y) → tooGreat l) := by
  obtain ⟨_, _, _, hXd, hYd⟩ := split_parts h
  obtain ⟨hX, hne⟩ := digits_ne hXd
  have hZX : (List.replicate z (48 : UInt8) ++ X).all isDig = true := by rw [List.all_append, zeros_digits, hX]; rfl
  have hZne : List.replicate z (48 : UInt8) ++ X ≠ [] := by simp [hne]
  have hs : (sgn b).length ≤ 1 := by unfold sgn; split <;> simp
  have hsp : (again b z X Y).length ≤ 40 ∧ splitP (again b z X Y) = some (b, List.replicate z 48 ++ X, if Y = [] ∧ z = 0 then [] else Y ++ List.replicate z 48) := by
    unfold again
    by_cases hc : Y = [] ∧ z = 0
    · rw [if_pos hc, if_pos hc, List.append_nil]
      have hlen : (sgn b ++ (List.replicate z (48 : UInt8) ++ X)).length ≤ 40 := by simp; omega
      exact ⟨hlen, split_mk0 b _ hZX hZne hlen⟩
    · rw [if_neg hc, if_neg hc]
      have hlen : (sgn b ++ (List.replicate z (48 : UInt8) ++ X ++ 46 :: (Y ++ List.replicate z 48))).length ≤ 40 := by simp; omega
      refine ⟨hlen, split_mk b _ _ hZX hZne (by rw [List.all_append, zeros_digits, hYd]; rfl) ?_ hlen⟩
      intro e
      obtain ⟨e1, e2⟩ := List.append_eq_nil_iff.1 e
      exact hc ⟨e1, by simpa using e2⟩
  have hsc : scaledN (if Y = [] ∧ z = 0 then [] else Y ++ List.replicate z 48) = scaledN Y := by
    by_cases hc : Y = [] ∧ z = 0
    · rw [if_pos hc, hc.1]
    · rw [if_neg hc, scaled_zeros]
  refine ⟨hsp.1, ?_, ?_⟩
  · unfold readE
    rw [hsp.2, h]
    simp only [num_zeros, hsc]
  · rintro ⟨b', X', Y', h1, h2⟩
    rw [hsp.2] at h1
    injection h1 with h1
    injection h1 with _ h1
    injection h1 with h1 _
    rw [← h1, num_zeros] at h2
    exact ⟨b, X, Y, h, h2⟩

theorem told_some (E : Ending) : ∃ z k : Int, told E = .returned (.tuple #[.int .i64 z, .int .i64 k]) := by
  unfold told
  split
  · exact ⟨_, _, rfl⟩
  · exact ⟨_, _, rfl⟩
  · exact ⟨_, _, rfl⟩

/-- the text of the digits so far, with its point -/
def mid (X Y : List UInt8) (i : Nat) : List UInt8 := if i ≤ X.length then X.take i else X ++ 46 :: Y.take (i - X.length)

theorem mid_end (X Y : List UInt8) : mid X Y (X.length + Y.length) = X ++ (if Y = [] then [] else 46 :: Y) := by
  unfold mid
  by_cases h : Y = []
  · subst h; rw [if_pos (by simp), if_pos rfl, List.take_of_length_le (by simp), List.append_nil]
  · have : 0 < Y.length := List.length_pos_iff.2 h
    rw [if_neg (by omega), if_neg h, List.take_of_length_le (by omega)]

theorem mid_ahead (X Y : List UInt8) (i : Nat) (h : i < X.length) : mid X Y (i + 1) = mid X Y i ++ [(X ++ Y).getD i 0] := by
  unfold mid
  rw [if_pos (by omega), if_pos (by omega), List.take_succ_eq_append_getElem h]
  simp [List.getElem?_append, h]

theorem mid_point (X Y : List UInt8) (h : 0 < Y.length) : mid X Y (X.length + 1) = mid X Y X.length ++ [46] ++ [(X ++ Y).getD X.length 0] := by
  unfold mid
  rw [if_neg (by omega), if_pos (by omega), List.take_of_length_le (Nat.le_refl _), show X.length + 1 - X.length = 1 by omega]
  cases Y with
  | nil => simp at h
  | cons c r => simp

theorem mid_behind (X Y : List UInt8) (i : Nat) (h : X.length < i) (h2 : i < X.length + Y.length) : mid X Y (i + 1) = mid X Y i ++ [(X ++ Y).getD i 0] := by
  unfold mid
  rw [if_neg (by omega), if_neg (by omega), show i + 1 - X.length = (i - X.length) + 1 by omega, List.take_succ_eq_append_getElem (by omega)]
  simp [List.getElem?_append, show ¬ i < X.length by omega, show i - X.length < Y.length by omega]

theorem mid_len (X Y : List UInt8) (i : Nat) : (mid X Y i).length ≤ X.length + Y.length + 1 := by
  unfold mid
  split
  · simp; omega
  · simp; omega

theorem dg_back {X Y : List UInt8} (hX : X.all isDig = true) (hY : Y.all isDig = true) (i : Nat) (h : i < X.length + Y.length) :
    ((X ++ Y).map dg).getD i 0 < 10 ∧ (X ++ Y).getD i 0 = UInt8.ofNat (48 + ((X ++ Y).map dg).getD i 0) := by
  have hi : i < (X ++ Y).length := by simpa using h
  have hi2 : i < ((X ++ Y).map dg).length := by simpa using h
  have e1 : (X ++ Y).getD i 0 = (X ++ Y)[i] := by rw [List.getD_eq_getElem?_getD, List.getElem?_eq_getElem hi]; rfl
  have e2 : ((X ++ Y).map dg).getD i 0 = dg (X ++ Y)[i] := by rw [List.getD_eq_getElem?_getD, List.getElem?_eq_getElem hi2, List.getElem_map]; rfl
  have hd : isDig (X ++ Y)[i] = true := by
    have : (X ++ Y).all isDig = true := by rw [List.all_append, hX, hY]; rfl
    exact List.all_eq_true.1 this _ (List.getElem_mem _)
  have hr := (isDig_iff _).1 hd
  rw [e1, e2]
  generalize (X ++ Y)[i] = c at *
  unfold dg
  refine ⟨by omega, ?_⟩
  apply UInt8.toNat_inj.1
  rw [show 48 + (c.toNat - 48) = c.toNat by omega]
  simp

/-- at the head of each round of the two loops that put noughts -/
def ZeroRel (w1 : World) (base : List UInt8) (z k : Nat) (vt vi : Value) (wr : World) : Prop :=
  ∃ (i : Nat) (tl : List UInt8), i + k = z ∧ vi = .int .u8 ((i : Nat) : Int) ∧ vt = .string ⟨tl.toArray⟩ ∧ tl = base ++ List.replicate i 48 ∧ Below w1.heap.size w1 wr

/-- at the head of each round of the loop that puts the digits -/
def MidRel (w1 : World) (base X Y : List UInt8) (N k : Nat) (vt vi : Value) (wr : World) : Prop :=
  ∃ (i : Nat) (tl : List UInt8), i + k = N ∧ vi = .int .i64 ((i : Nat) : Int) ∧ vt = .string ⟨tl.toArray⟩ ∧ tl = base ++ mid X Y i ∧ Below w1.heap.size w1 wr

set_option maxHeartbeats 8000000 in
set_option maxRecDepth 20000 in
theorem reads_walk (s : ByteArray) (n : Nat) (hn : n < 256) (w : World) (hg : Glob w) (hE : ErrW w) :
    Calls Tryz.prog 7 #[.string s, .int .u8 (n : Int)] w fun e w' => e = .returned (.bool true) ∧ Below w.heap.size w w' := by
  have H5 := Lib.hid (fun w hg => works_any w hg)
  by_cases h200 : 200 < s.size
  · have h200I : (200 : Int) < (s.size : Int) := by omega
    clear h200
    go_enter Tryz.func7, Tryz.ntmps7
    go_wp2_with fail
    refine (H5.out _ hg).mono ?_
    rintro e w1 ⟨rfl, hb1⟩
    go_wp2_with fail
    go_ret
    exact ⟨rfl, hb1⟩
  · have h200I : (s.size : Int) ≤ 200 := by omega
    have hs : s.size ≤ 140737488351232 := by omega
    have H1 := Lib.hid (fun w hg hE => read_any s hs w hg (fun _ => hE))
    have H2 := Lib.hid (fun w => refRead_any s hs w)
    have H3 := Lib.hid (fun w => right_any s hs w)
    obtain ⟨E, hEE⟩ : ∃ E, E = readE s.data.toList := ⟨_, rfl⟩
    rw [← hEE] at H1 H2
    have HEE := Lib.hid hEE
    clear hEE
    obtain ⟨z0, k0, ht0⟩ := told_some E
    simp only [ht0] at H1 H2
    have HT0 := Lib.hid ht0
    clear ht0
    obtain ⟨z, hz⟩ : ∃ z, z = n % 8 := ⟨_, rfl⟩
    have hz7 : z ≤ 7 := by omega
    have hzI : (n : Int) % 8 = (z : Int) := by omega
    have hz7I : (z : Int) ≤ 7 := by omega
    have hnI : (n : Int) ≤ 255 := by omega
    clear h200 hz hs
    go_enter Tryz.func7, Tryz.ntmps7
    go_wp2_with fail
    refine (H1.out _ hg hE).mono ?_
    rintro e w1 ⟨rfl, hb1⟩
    have hE1 := err_below hE hb1
    go_wp2_with fail
    refine (H2.out _).mono ?_
    rintro e w2 ⟨rfl, hb2⟩
    have HB2 := Lib.hid (hb1.trans (hb2.mono hb1.size))
    have HE2 := Lib.hid (err_below hE1 hb2)
    clear hb1 hb2 hE1
    go_wp2_with fail
    refine (H3.out _).mono ?_
    rintro e w3 ⟨hb3, hend⟩
    have HB3 := Lib.hid (HB2.out.trans (hb3.mono HB2.out.size))
    have HE3 := Lib.hid (err_below HE2.out hb3)
    clear hb3
    rcases hend with ⟨hnone, b, v, m, rfl⟩ | ⟨b, X, Y, v, hsome, rfl, hv⟩
    · clear hnone
      go_wp2_with fail
      refine (H5.out _ (hg.below HB3.out)).mono ?_
      rintro e w4 ⟨rfl, hb4⟩
      go_wp2_with fail
      go_ret
      exact ⟨rfl, HB3.out.trans (hb4.mono HB3.out.size)⟩
    · obtain ⟨_, hX40, hY40, hXd, hYd⟩ := split_parts hsome
      obtain ⟨hX, hXne⟩ := digits_ne hXd
      have HSOME := Lib.hid hsome
      have HBACK := Lib.hid (fun i h => dg_back hX hYd i h)
      have hln : ((X ++ Y).map dg).length = X.length + Y.length := by simp
      obtain ⟨l, hl⟩ : ∃ l, l = (X ++ Y).map dg := ⟨_, rfl⟩
      rw [← hl] at HBACK hln hv
      obtain ⟨m, hm⟩ : ∃ m, m = Y.length := ⟨_, rfl⟩
      obtain ⟨N, hN⟩ : ∃ N, N = l.length := ⟨_, rfl⟩
      have hmN : m ≤ N := by omega
      have hN80 : N ≤ 80 := by omega
      have hx0 : X.length + m = N := by omega
      obtain ⟨A, cap, rfl, hcap, hcap2, hx⟩ := hv
      rw [← hN] at hcap ⊢
      rw [← hm]
      have HX := Lib.hid hx
      have HN := Lib.hid hN
      have HM := Lib.hid hm
      have HX0 := Lib.hid hx0
      have hmI : (m : Int) ≤ N := by omega
      have hN80I : (N : Int) ≤ 80 := by omega
      have hXpos : 0 < X.length := List.length_pos_iff.2 hXne
      have HXP := Lib.hid hXpos
      obtain ⟨K, hK⟩ : ∃ K, K = N - m := ⟨_, rfl⟩
      have q1 : IntKind.i64.wrap ((N : Int) - (m : Int)) = (K : Int) := by rw [IntKind.wrap_i64]; omega
      have q0 : (N : Int) - (m : Int) = (K : Int) := by omega
      have HK := Lib.hid (show K = X.length by omega)
      have q2 : IntKind.i64.wrap ((z : Int) * 2) = (z : Int) * 2 := by rw [IntKind.wrap_i64]; omega
      have q3 : IntKind.i64.wrap ((N : Int) + (z : Int) * 2) = (N : Int) + (z : Int) * 2 := by rw [IntKind.wrap_i64]; omega
      clear hsome hX40 hY40 hXd hYd hX hXne hln hl hm hN hx0 hx hXpos hK
      by_cases h36 : 36 < N + z * 2
      · have h36I : (36 : Int) < (N : Int) + (z : Int) * 2 := by omega
        clear h36
        go_wp2_with fail
        refine (H5.out _ (hg.below HB3.out)).mono ?_
        rintro e w4 ⟨rfl, hb4⟩
        go_wp2_with fail
        go_ret
        exact ⟨rfl, HB3.out.trans (hb4.mono HB3.out.size)⟩
      · have h36I : (N : Int) + (z : Int) * 2 ≤ 36 := by omega
        have hN36 : N ≤ 36 := by omega
        obtain ⟨hT40, hTE, hTG⟩ := again_reads s.data.toList b z X Y HSOME.out (by have := HX0.out; have := HM.out; omega)
        have HT40 := Lib.hid hT40
        have h4 := fun w hg hE => read_any ⟨(again b z X Y).toArray⟩ (by simp [ByteArray.size]; omega) w hg (fun _ => hE)
        rw [show (ByteArray.mk (again b z X Y).toArray).data.toList = again b z X Y by simp, hTE, ← HEE.out] at h4
        simp only [HT0.out] at h4
        have H4 := Lib.hid h4
        clear h36 hT40 hTE hTG h4
        rcases b with _ | _
        · go_wp2_with fail
          go_loopg [13, 14] z (fun k vt vi wr => ZeroRel w3 (sgn false) z k vt vi wr)
          case atStart => exact ⟨0, [], by omega, rfl, rfl, by simp [sgn], Below.refl _ _⟩
          case round =>
            obtain ⟨i, tl, hik, rfl, rfl, htl, hb4⟩ := hrel
            obtain ⟨TL, hTL⟩ : ∃ TL, TL = tl.length := ⟨_, rfl⟩
            have htlz : tl.length ≤ 8 := by rw [htl]; simp [sgn]; omega
            have HTL := Lib.hid htl
            have HB4 := Lib.hid hb4
            clear htl hb4
            rcases Nat.eq_zero_or_pos gk with h0 | h0
            · obtain rfl := h0
              obtain rfl : i = z := by omega
              have HTL2 : Hid (tl = sgn false ++ List.replicate i 48) := HTL
              go_wp2_with fail
              go_loopg [13, 15] N (fun k vt vi wr => MidRel w3 tl X Y N k vt vi wr)
              case atStart => exact ⟨0, tl, by omega, rfl, rfl, by simp [mid], HB4.out⟩
              case round =>
                obtain ⟨j, tm, hjk, rfl, rfl, htm, hb5⟩ := hrel
                have htmz : tm.length ≤ 50 := by
                  rw [htm]
                  have := mid_len X Y j
                  have h1 := HX0.out
                  have h2 := HM.out
                  simp; omega
                have HTM := Lib.hid htm
                have HB5 := Lib.hid hb5
                have hz5 := hb5.size
                clear htm hb5
                rcases Nat.eq_zero_or_pos gk with h1 | h1
                · obtain rfl := h1
                  obtain rfl : j = N := by omega
                  have HME : Hid (tm = tl ++ (X ++ (if Y = [] then [] else 46 :: Y))) := Lib.hid (by
                    rw [HTM.out, ← mid_end, ← HX0.out, HM.out])
                  clear HTM
                  rcases (show (m = 0 ∧ 0 < i) ∨ ¬ (m = 0 ∧ 0 < i) by omega) with hpt | hpt
                  · obtain ⟨rfl, hi0⟩ := hpt
                    have hi0I : (0 : Int) < (i : Int) := by omega
                    have HY : Hid (Y = []) := Lib.hid (List.length_eq_zero_iff.1 HM.out.symm)
                    clear hi0
                    go_wp2_with fail
                    go_loopg [13, 16] i (fun k vt vi wr => ZeroRel w3 (tm ++ [46]) i k vt vi wr)
                    case atStart => exact ⟨0, tm ++ [46], by omega, rfl, by first | exact congrArg Value.string (str_app tm [46]) | simp, by simp, HB5.out⟩
                    case round =>
                      obtain ⟨q, tz, hqk, rfl, rfl, htz, hb6⟩ := hrel
                      have htzz : tz.length ≤ 60 := by rw [htz]; simp; omega
                      have HTZ := Lib.hid htz
                      have HB6 := Lib.hid hb6
                      clear htz hb6
                      rcases Nat.eq_zero_or_pos gk with h2 | h2
                      · obtain rfl := h2
                        obtain rfl : i = q := by omega
                        have HFIN : Hid (tz = again false i X Y) := Lib.hid (by
                          unfold again; rw [HTZ.out, HME.out, HTL2.out, HY.out]; simp [show ¬ i = 0 by omega])
                        have HW6 := Lib.hid (HB3.out.trans (HB6.out.mono HB3.out.size))
                        have H6 := Lib.hid (fun w hg hE => by have h := H4.out w hg hE; rw [← HFIN.out] at h; exact h)
                        clear H4 HFIN HTZ
                        go_wp2_with fail
                        refine (H6.out _ (hg.below HW6.out) (err_below HE3.out HB6.out)).mono ?_
                        rintro e w7 ⟨rfl, hb7⟩
                        have HW7 := Lib.hid (HW6.out.trans (hb7.mono HW6.out.size))
                        clear hb7
                        go_wp2_with fail
                        refine (H5.out _ (hg.below HW7.out)).mono ?_
                        rintro e w8 ⟨rfl, hb8⟩
                        go_wp2_with fail
                        go_ret
                        exact ⟨rfl, HW7.out.trans (hb8.mono HW7.out.size)⟩
                      · have hqI : (q : Int) < (i : Int) := by omega
                        go_wp2_with fail
                        go_roundg (gk - 1)
                        case measure => omega
                        case rel =>
                          refine ⟨q + 1, tz ++ [48], by omega, by first | rfl | exact congrArg _ (by omega), ?_, by rw [HTZ.out, List.append_assoc, ← List.replicate_succ'], HB6.out⟩
                          exact congrArg Value.string (str_app tz [48])
                  · have HYZ := Lib.hid hpt
                    rcases (show m = 0 ∨ 0 < m by omega) with rfl | hm0
                    · obtain rfl : i = 0 := by omega
                      clear hpt
                      go_wp2_with fail
                      go_loopg [13, 16] 0 (fun k vt vi wr => ZeroRel w3 (tm ++ []) 0 k vt vi wr)
                      case atStart => exact ⟨0, tm ++ [], by omega, rfl, by first | exact congrArg Value.string (str_app tm [46]) | simp, by simp, HB5.out⟩
                      case round =>
                        obtain ⟨q, tz, hqk, rfl, rfl, htz, hb6⟩ := hrel
                        have htzz : tz.length ≤ 60 := by rw [htz]; simp; omega
                        have HTZ := Lib.hid htz
                        have HB6 := Lib.hid hb6
                        clear htz hb6
                        rcases Nat.eq_zero_or_pos gk with h2 | h2
                        · obtain rfl := h2
                          obtain rfl : 0 = q := by omega
                          have HFIN : Hid (tz = again false 0 X Y) := Lib.hid (by
                            unfold again; have hY : Y = [] := List.length_eq_zero_iff.1 HM.out.symm; rw [HTZ.out, HME.out, HTL2.out, hY]; simp)
                          have HW6 := Lib.hid (HB3.out.trans (HB6.out.mono HB3.out.size))
                          have H6 := Lib.hid (fun w hg hE => by have h := H4.out w hg hE; rw [← HFIN.out] at h; exact h)
                          clear H4 HFIN HTZ
                          go_wp2_with fail
                          refine (H6.out _ (hg.below HW6.out) (err_below HE3.out HB6.out)).mono ?_
                          rintro e w7 ⟨rfl, hb7⟩
                          have HW7 := Lib.hid (HW6.out.trans (hb7.mono HW6.out.size))
                          clear hb7
                          go_wp2_with fail
                          refine (H5.out _ (hg.below HW7.out)).mono ?_
                          rintro e w8 ⟨rfl, hb8⟩
                          go_wp2_with fail
                          go_ret
                          exact ⟨rfl, HW7.out.trans (hb8.mono HW7.out.size)⟩
                        · omega
                    · have hm0I : (0 : Int) < (m : Int) := by omega
                      clear hpt
                      go_wp2_with fail
                      go_loopg [13, 16] i (fun k vt vi wr => ZeroRel w3 (tm ++ []) i k vt vi wr)
                      case atStart => exact ⟨0, tm ++ [], by omega, rfl, by first | exact congrArg Value.string (str_app tm [46]) | simp, by simp, HB5.out⟩
                      case round =>
                        obtain ⟨q, tz, hqk, rfl, rfl, htz, hb6⟩ := hrel
                        have htzz : tz.length ≤ 60 := by rw [htz]; simp; omega
                        have HTZ := Lib.hid htz
                        have HB6 := Lib.hid hb6
                        clear htz hb6
                        rcases Nat.eq_zero_or_pos gk with h2 | h2
                        · obtain rfl := h2
                          obtain rfl : i = q := by omega
                          have HFIN : Hid (tz = again false i X Y) := Lib.hid (by
                            unfold again; have hY : Y ≠ [] := (by rintro rfl; have := HM.out; simp at this; omega); rw [HTZ.out, HME.out, HTL2.out]; simp [hY])
                          have HW6 := Lib.hid (HB3.out.trans (HB6.out.mono HB3.out.size))
                          have H6 := Lib.hid (fun w hg hE => by have h := H4.out w hg hE; rw [← HFIN.out] at h; exact h)
                          clear H4 HFIN HTZ
                          go_wp2_with fail
                          refine (H6.out _ (hg.below HW6.out) (err_below HE3.out HB6.out)).mono ?_
                          rintro e w7 ⟨rfl, hb7⟩
                          have HW7 := Lib.hid (HW6.out.trans (hb7.mono HW6.out.size))
                          clear hb7
                          go_wp2_with fail
                          refine (H5.out _ (hg.below HW7.out)).mono ?_
                          rintro e w8 ⟨rfl, hb8⟩
                          go_wp2_with fail
                          go_ret
                          exact ⟨rfl, HW7.out.trans (hb8.mono HW7.out.size)⟩
                        · have hqI : (q : Int) < (i : Int) := by omega
                          go_wp2_with fail
                          go_roundg (gk - 1)
                          case measure => omega
                          case rel =>
                            refine ⟨q + 1, tz ++ [48], by omega, by first | rfl | exact congrArg _ (by omega), ?_, by rw [HTZ.out, List.append_assoc, ← List.replicate_succ'], HB6.out⟩
                            exact congrArg Value.string (str_app tz [48])
                · have hjN : j < N := by omega
                  have hjl : j < l.length := by have := HN.out; omega
                  obtain ⟨g, rfl, hg3, hcell⟩ := HX.out (by intro e; rw [e] at hjl; simp at hjl)
                  obtain ⟨x, hx⟩ : ∃ x, x = l.getD j 0 := ⟨_, rfl⟩
                  have hcx : wr.cell? ⟨g, j, none⟩ = some (.int .i64 (x : Int)) := by rw [HB5.out.cell hg3, hx, hcell j hjl]; simp [hjl]
                  obtain ⟨hx10, hxc⟩ := HBACK.out j (by have := HX0.out; have := HM.out; omega)
                  rw [← hx] at hx10 hxc
                  obtain ⟨c, hc⟩ : ∃ c, c = (X ++ Y).getD j 0 := ⟨_, rfl⟩
                  rw [← hc] at hxc
                  have hds := digit_str x hx10
                  rw [← hxc] at hds
                  have hxI : (x : Int) ≤ 9 := by omega
                  have hj0 : (0 : Int) ≤ (j : Int) := Int.natCast_nonneg _
                  have hj1 : (j : Int) < (N : Int) := by omega
                  have hx0I : (0 : Int) ≤ (x : Int) := Int.natCast_nonneg _
                  have hsl : ∀ wx : World, (Instr.slice 9 (.string (ByteArray.mk #[48, 49, 50, 51, 52, 53, 54, 55, 56, 57])) (some (.int .i64 (x : Int))) (some (.int .i64 ((x : Int) + 1))) none).run Tryz.prog wx = .ok (.string (ByteArray.mk #[c])) wx := by
                    intro wx
                    have h := run_slice_string (P := Tryz.prog) wx 9 (ByteArray.mk #[48, 49, 50, 51, 52, 53, 54, 55, 56, 57]) .i64 .i64 (x : Int) ((x : Int) + 1) Tryz.underlying9 (by omega) (by omega) (by show (x : Int) + 1 ≤ 10; omega)
                    have e1 : ((x : Int)).toNat = x := by omega
                    have e2 : ((x : Int) + 1).toNat = x + 1 := by omega
                    rw [e1, e2, hds] at h
                    exact h
                  have q4 : IntKind.i64.wrap ((x : Int) + 1) = (x : Int) + 1 := by rw [IntKind.wrap_i64]; omega
                  have HC := Lib.hid hc
                  have hst1 : ∀ wx : World, (Op.stringOp .add (ByteArray.mk tm.toArray) (ByteArray.mk #[c])).run Tryz.prog wx = .ok (.string (ByteArray.mk tm.toArray ++ ByteArray.mk #[c])) wx := fun wx => run_string_add_sum wx _ _ (by simp [ByteArray.size]; omega)
                  have hst2 : ∀ wx : World, (Op.stringOp .add (ByteArray.mk tm.toArray ++ ByteArray.mk #[46]) (ByteArray.mk #[c])).run Tryz.prog wx = .ok (.string (ByteArray.mk tm.toArray ++ ByteArray.mk #[46] ++ ByteArray.mk #[c])) wx := fun wx => run_string_add_sum wx _ _ (by simp [ByteArray.size]; omega)
                  have hcA : ¬ 9223372036854775807 < tm.length + 1 := by omega
                  have hcB : ¬ 9223372036854775806 < tm.length := by omega
                  have hcC : ¬ 9223372036854775807 < tm.length + 1 + 1 := by omega
                  have hcD : ¬ 9223372036854775805 < tm.length := by omega
                  clear hcell hx hxc hds hc hx10 hzI
                  by_cases hpt : j = X.length
                  · obtain rfl : j = K := by have := HK.out; omega
                    have HNX : Hid (tm ++ [46] ++ [c] = tl ++ mid X Y (j + 1)) := Lib.hid (by
                      rw [HTM.out, HC.out, hpt, mid_point X Y (by have := HX0.out; have := HM.out; omega)]
                      simp)
                    clear hpt
                    go_wp2_with fail
                    go_region_held3 (fun w' => w'.cell? ⟨g, j, none⟩ = some (.int .i64 (x : Int))) (go_keep) (fail)
                    all_goals go_wp2_with fail
                    go_roundg (gk - 1)
                    case measure => omega
                    case rel =>
                      refine ⟨j + 1, tm ++ [46] ++ [c], by omega, by first | rfl | exact congrArg _ (by omega), ?_, HNX.out, ?_⟩
                      · exact (congrArg Value.string (congrArg (· ++ ByteArray.mk #[c]) (str_app tm [46]))).trans (congrArg Value.string (str_app (tm ++ [46]) [c]))
                      · exact HB5.out.drew
                  · have hptI : ¬ (j : Int) = (K : Int) := by have := HK.out; omega
                    have HNX : Hid (tm ++ [c] = tl ++ mid X Y (j + 1)) := Lib.hid (by
                      rw [HTM.out, HC.out]
                      rcases Nat.lt_or_ge j X.length with hlt | hge
                      · rw [mid_ahead X Y j hlt]; simp
                      · rw [mid_behind X Y j (by omega) (by have := HX0.out; have := HM.out; omega)]; simp)
                    clear hpt
                    go_wp2_with fail
                    go_region_held3 (fun w' => w'.cell? ⟨g, j, none⟩ = some (.int .i64 (x : Int))) (go_keep) (fail)
                    all_goals go_wp2_with fail
                    go_roundg (gk - 1)
                    case measure => omega
                    case rel =>
                      refine ⟨j + 1, tm ++ [c], by omega, by first | rfl | exact congrArg _ (by omega), ?_, HNX.out, ?_⟩
                      · exact congrArg Value.string (str_app tm [c])
                      · exact HB5.out.drew
            · have hizI : (i : Int) < (z : Int) := by omega
              go_wp2_with fail
              go_roundg (gk - 1)
              case measure => omega
              case rel =>
                refine ⟨i + 1, tl ++ [48], by omega, by first | rfl | exact congrArg _ (by omega), ?_, by rw [HTL.out, List.append_assoc, ← List.replicate_succ'], HB4.out⟩
                exact congrArg Value.string (str_app tl [48])
        · go_wp2_with fail
          go_loopg [13, 14] z (fun k vt vi wr => ZeroRel w3 (sgn true) z k vt vi wr)
          case atStart => exact ⟨0, [45], by omega, rfl, rfl, by simp [sgn], Below.refl _ _⟩
          case round =>
            obtain ⟨i, tl, hik, rfl, rfl, htl, hb4⟩ := hrel
            obtain ⟨TL, hTL⟩ : ∃ TL, TL = tl.length := ⟨_, rfl⟩
            have htlz : tl.length ≤ 8 := by rw [htl]; simp [sgn]; omega
            have HTL := Lib.hid htl
            have HB4 := Lib.hid hb4
            clear htl hb4
            rcases Nat.eq_zero_or_pos gk with h0 | h0
            · obtain rfl := h0
              obtain rfl : i = z := by omega
              have HTL2 : Hid (tl = sgn true ++ List.replicate i 48) := HTL
              go_wp2_with fail
              go_loopg [13, 15] N (fun k vt vi wr => MidRel w3 tl X Y N k vt vi wr)
              case atStart => exact ⟨0, tl, by omega, rfl, rfl, by simp [mid], HB4.out⟩
              case round =>
                obtain ⟨j, tm, hjk, rfl, rfl, htm, hb5⟩ := hrel
                have htmz : tm.length ≤ 50 := by
                  rw [htm]
                  have := mid_len X Y j
                  have h1 := HX0.out
                  have h2 := HM.out
                  simp; omega
                have HTM := Lib.hid htm
                have HB5 := Lib.hid hb5
                have hz5 := hb5.size
                clear htm hb5
                rcases Nat.eq_zero_or_pos gk with h1 | h1
                · obtain rfl := h1
                  obtain rfl : j = N := by omega
                  have HME : Hid (tm = tl ++ (X ++ (if Y = [] then [] else 46 :: Y))) := Lib.hid (by
                    rw [HTM.out, ← mid_end, ← HX0.out, HM.out])
                  clear HTM
                  rcases (show (m = 0 ∧ 0 < i) ∨ ¬ (m = 0 ∧ 0 < i) by omega) with hpt | hpt
                  · obtain ⟨rfl, hi0⟩ := hpt
                    have hi0I : (0 : Int) < (i : Int) := by omega
                    have HY : Hid (Y = []) := Lib.hid (List.length_eq_zero_iff.1 HM.out.symm)
                    clear hi0
                    go_wp2_with fail
                    go_loopg [13, 16] i (fun k vt vi wr => ZeroRel w3 (tm ++ [46]) i k vt vi wr)
                    case atStart => exact ⟨0, tm ++ [46], by omega, rfl, by first | exact congrArg Value.string (str_app tm [46]) | simp, by simp, HB5.out⟩
                    case round =>
                      obtain ⟨q, tz, hqk, rfl, rfl, htz, hb6⟩ := hrel
                      have htzz : tz.length ≤ 60 := by rw [htz]; simp; omega
                      have HTZ := Lib.hid htz
                      have HB6 := Lib.hid hb6
                      clear htz hb6
                      rcases Nat.eq_zero_or_pos gk with h2 | h2
                      · obtain rfl := h2
                        obtain rfl : i = q := by omega
                        have HFIN : Hid (tz = again true i X Y) := Lib.hid (by
                          unfold again; rw [HTZ.out, HME.out, HTL2.out, HY.out]; simp [show ¬ i = 0 by omega])
                        have HW6 := Lib.hid (HB3.out.trans (HB6.out.mono HB3.out.size))
                        have H6 := Lib.hid (fun w hg hE => by have h := H4.out w hg hE; rw [← HFIN.out] at h; exact h)
                        clear H4 HFIN HTZ
                        go_wp2_with fail
                        refine (H6.out _ (hg.below HW6.out) (err_below HE3.out HB6.out)).mono ?_
                        rintro e w7 ⟨rfl, hb7⟩
                        have HW7 := Lib.hid (HW6.out.trans (hb7.mono HW6.out.size))
                        clear hb7
                        go_wp2_with fail
                        refine (H5.out _ (hg.below HW7.out)).mono ?_
                        rintro e w8 ⟨rfl, hb8⟩
                        go_wp2_with fail
                        go_ret
                        exact ⟨rfl, HW7.out.trans (hb8.mono HW7.out.size)⟩
                      · have hqI : (q : Int) < (i : Int) := by omega
                        go_wp2_with fail
                        go_roundg (gk - 1)
                        case measure => omega
                        case rel =>
                          refine ⟨q + 1, tz ++ [48], by omega, by first | rfl | exact congrArg _ (by omega), ?_, by rw [HTZ.out, List.append_assoc, ← List.replicate_succ'], HB6.out⟩
                          exact congrArg Value.string (str_app tz [48])
                  · have HYZ := Lib.hid hpt
                    rcases (show m = 0 ∨ 0 < m by omega) with rfl | hm0
                    · obtain rfl : i = 0 := by omega
                      clear hpt
                      go_wp2_with fail
                      go_loopg [13, 16] 0 (fun k vt vi wr => ZeroRel w3 (tm ++ []) 0 k vt vi wr)
                      case atStart => exact ⟨0, tm ++ [], by omega, rfl, by first | exact congrArg Value.string (str_app tm [46]) | simp, by simp, HB5.out⟩
                      case round =>
                        obtain ⟨q, tz, hqk, rfl, rfl, htz, hb6⟩ := hrel
                        have htzz : tz.length ≤ 60 := by rw [htz]; simp; omega
                        have HTZ := Lib.hid htz
                        have HB6 := Lib.hid hb6
                        clear htz hb6
                        rcases Nat.eq_zero_or_pos gk with h2 | h2
                        · obtain rfl := h2
                          obtain rfl : 0 = q := by omega
                          have HFIN : Hid (tz = again true 0 X Y) := Lib.hid (by
                            unfold again; have hY : Y = [] := List.length_eq_zero_iff.1 HM.out.symm; rw [HTZ.out, HME.out, HTL2.out, hY]; simp)
                          have HW6 := Lib.hid (HB3.out.trans (HB6.out.mono HB3.out.size))
                          have H6 := Lib.hid (fun w hg hE => by have h := H4.out w hg hE; rw [← HFIN.out] at h; exact h)
                          clear H4 HFIN HTZ
                          go_wp2_with fail
                          refine (H6.out _ (hg.below HW6.out) (err_below HE3.out HB6.out)).mono ?_
                          rintro e w7 ⟨rfl, hb7⟩
                          have HW7 := Lib.hid (HW6.out.trans (hb7.mono HW6.out.size))
                          clear hb7
                          go_wp2_with fail
                          refine (H5.out _ (hg.below HW7.out)).mono ?_
                          rintro e w8 ⟨rfl, hb8⟩
                          go_wp2_with fail
                          go_ret
                          exact ⟨rfl, HW7.out.trans (hb8.mono HW7.out.size)⟩
                        · omega
                    · have hm0I : (0 : Int) < (m : Int) := by omega
                      clear hpt
                      go_wp2_with fail
                      go_loopg [13, 16] i (fun k vt vi wr => ZeroRel w3 (tm ++ []) i k vt vi wr)
                      case atStart => exact ⟨0, tm ++ [], by omega, rfl, by first | exact congrArg Value.string (str_app tm [46]) | simp, by simp, HB5.out⟩
                      case round =>
                        obtain ⟨q, tz, hqk, rfl, rfl, htz, hb6⟩ := hrel
                        have htzz : tz.length ≤ 60 := by rw [htz]; simp; omega
                        have HTZ := Lib.hid htz
                        have HB6 := Lib.hid hb6
                        clear htz hb6
                        rcases Nat.eq_zero_or_pos gk with h2 | h2
                        · obtain rfl := h2
                          obtain rfl : i = q := by omega
                          have HFIN : Hid (tz = again true i X Y) := Lib.hid (by
                            unfold again; have hY : Y ≠ [] := (by rintro rfl; have := HM.out; simp at this; omega); rw [HTZ.out, HME.out, HTL2.out]; simp [hY])
                          have HW6 := Lib.hid (HB3.out.trans (HB6.out.mono HB3.out.size))
                          have H6 := Lib.hid (fun w hg hE => by have h := H4.out w hg hE; rw [← HFIN.out] at h; exact h)
                          clear H4 HFIN HTZ
                          go_wp2_with fail
                          refine (H6.out _ (hg.below HW6.out) (err_below HE3.out HB6.out)).mono ?_
                          rintro e w7 ⟨rfl, hb7⟩
                          have HW7 := Lib.hid (HW6.out.trans (hb7.mono HW6.out.size))
                          clear hb7
                          go_wp2_with fail
                          refine (H5.out _ (hg.below HW7.out)).mono ?_
                          rintro e w8 ⟨rfl, hb8⟩
                          go_wp2_with fail
                          go_ret
                          exact ⟨rfl, HW7.out.trans (hb8.mono HW7.out.size)⟩
                        · have hqI : (q : Int) < (i : Int) := by omega
                          go_wp2_with fail
                          go_roundg (gk - 1)
                          case measure => omega
                          case rel =>
                            refine ⟨q + 1, tz ++ [48], by omega, by first | rfl | exact congrArg _ (by omega), ?_, by rw [HTZ.out, List.append_assoc, ← List.replicate_succ'], HB6.out⟩
                            exact congrArg Value.string (str_app tz [48])
                · have hjN : j < N := by omega
                  have hjl : j < l.length := by have := HN.out; omega
                  obtain ⟨g, rfl, hg3, hcell⟩ := HX.out (by intro e; rw [e] at hjl; simp at hjl)
                  obtain ⟨x, hx⟩ : ∃ x, x = l.getD j 0 := ⟨_, rfl⟩
                  have hcx : wr.cell? ⟨g, j, none⟩ = some (.int .i64 (x : Int)) := by rw [HB5.out.cell hg3, hx, hcell j hjl]; simp [hjl]
                  obtain ⟨hx10, hxc⟩ := HBACK.out j (by have := HX0.out; have := HM.out; omega)
                  rw [← hx] at hx10 hxc
                  obtain ⟨c, hc⟩ : ∃ c, c = (X ++ Y).getD j 0 := ⟨_, rfl⟩
                  rw [← hc] at hxc
                  have hds := digit_str x hx10
                  rw [← hxc] at hds
                  have hxI : (x : Int) ≤ 9 := by omega
                  have hj0 : (0 : Int) ≤ (j : Int) := Int.natCast_nonneg _
                  have hj1 : (j : Int) < (N : Int) := by omega
                  have hx0I : (0 : Int) ≤ (x : Int) := Int.natCast_nonneg _
                  have hsl : ∀ wx : World, (Instr.slice 9 (.string (ByteArray.mk #[48, 49, 50, 51, 52, 53, 54, 55, 56, 57])) (some (.int .i64 (x : Int))) (some (.int .i64 ((x : Int) + 1))) none).run Tryz.prog wx = .ok (.string (ByteArray.mk #[c])) wx := by
                    intro wx
                    have h := run_slice_string (P := Tryz.prog) wx 9 (ByteArray.mk #[48, 49, 50, 51, 52, 53, 54, 55, 56, 57]) .i64 .i64 (x : Int) ((x : Int) + 1) Tryz.underlying9 (by omega) (by omega) (by show (x : Int) + 1 ≤ 10; omega)
                    have e1 : ((x : Int)).toNat = x := by omega
                    have e2 : ((x : Int) + 1).toNat = x + 1 := by omega
                    rw [e1, e2, hds] at h
                    exact h
                  have q4 : IntKind.i64.wrap ((x : Int) + 1) = (x : Int) + 1 := by rw [IntKind.wrap_i64]; omega
                  have HC := Lib.hid hc
                  have hst1 : ∀ wx : World, (Op.stringOp .add (ByteArray.mk tm.toArray) (ByteArray.mk #[c])).run Tryz.prog wx = .ok (.string (ByteArray.mk tm.toArray ++ ByteArray.mk #[c])) wx := fun wx => run_string_add_sum wx _ _ (by simp [ByteArray.size]; omega)
                  have hst2 : ∀ wx : World, (Op.stringOp .add (ByteArray.mk tm.toArray ++ ByteArray.mk #[46]) (ByteArray.mk #[c])).run Tryz.prog wx = .ok (.string (ByteArray.mk tm.toArray ++ ByteArray.mk #[46] ++ ByteArray.mk #[c])) wx := fun wx => run_string_add_sum wx _ _ (by simp [ByteArray.size]; omega)
                  have hcA : ¬ 9223372036854775807 < tm.length + 1 := by omega
                  have hcB : ¬ 9223372036854775806 < tm.length := by omega
                  have hcC : ¬ 9223372036854775807 < tm.length + 1 + 1 := by omega
                  have hcD : ¬ 9223372036854775805 < tm.length := by omega
                  clear hcell hx hxc hds hc hx10 hzI
                  by_cases hpt : j = X.length
                  · obtain rfl : j = K := by have := HK.out; omega
                    have HNX : Hid (tm ++ [46] ++ [c] = tl ++ mid X Y (j + 1)) := Lib.hid (by
                      rw [HTM.out, HC.out, hpt, mid_point X Y (by have := HX0.out; have := HM.out; omega)]
                      simp)
                    clear hpt
                    go_wp2_with fail
                    go_region_held3 (fun w' => w'.cell? ⟨g, j, none⟩ = some (.int .i64 (x : Int))) (go_keep) (fail)
                    all_goals go_wp2_with fail
                    go_roundg (gk - 1)
                    case measure => omega
                    case rel =>
                      refine ⟨j + 1, tm ++ [46] ++ [c], by omega, by first | rfl | exact congrArg _ (by omega), ?_, HNX.out, ?_⟩
                      · exact (congrArg Value.string (congrArg (· ++ ByteArray.mk #[c]) (str_app tm [46]))).trans (congrArg Value.string (str_app (tm ++ [46]) [c]))
                      · exact HB5.out.drew
                  · have hptI : ¬ (j : Int) = (K : Int) := by have := HK.out; omega
                    have HNX : Hid (tm ++ [c] = tl ++ mid X Y (j + 1)) := Lib.hid (by
                      rw [HTM.out, HC.out]
                      rcases Nat.lt_or_ge j X.length with hlt | hge
                      · rw [mid_ahead X Y j hlt]; simp
                      · rw [mid_behind X Y j (by omega) (by have := HX0.out; have := HM.out; omega)]; simp)
                    clear hpt
                    go_wp2_with fail
                    go_region_held3 (fun w' => w'.cell? ⟨g, j, none⟩ = some (.int .i64 (x : Int))) (go_keep) (fail)
                    all_goals go_wp2_with fail
                    go_roundg (gk - 1)
                    case measure => omega
                    case rel =>
                      refine ⟨j + 1, tm ++ [c], by omega, by first | rfl | exact congrArg _ (by omega), ?_, HNX.out, ?_⟩
                      · exact congrArg Value.string (str_app tm [c])
                      · exact HB5.out.drew
            · have hizI : (i : Int) < (z : Int) := by omega
              go_wp2_with fail
              go_roundg (gk - 1)
              case measure => omega
              case rel =>
                refine ⟨i + 1, tl ++ [48], by omega, by first | rfl | exact congrArg _ (by omega), ?_, by rw [HTL.out, List.append_assoc, ← List.replicate_succ'], HB4.out⟩
                exact congrArg Value.string (str_app tl [48])

theorem reads_int (s : ByteArray) (n : Int) (hn : 0 ≤ n ∧ n ≤ 255) (w : World) (hg : Glob w) (hE : ErrW w) :
    Calls Tryz.prog 7 #[.string s, .int .u8 n] w fun e w' => e = .returned (.bool true) ∧ Below w.heap.size w w' := by
  obtain ⟨m, rfl⟩ : ∃ m : Nat, n = (m : Int) := ⟨n.toNat, by omega⟩
  exact reads_walk s m (by omega) w hg hE
end Go.Proofs.YtpodgmibghcjdaaGreatDoor
