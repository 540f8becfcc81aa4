/-
  Readers, walked.
-/
import Derived.Test.YtgjlpiljacecpaaZG
namespace Go.Proofs.Ytgjlpiljacecpaa
open Go Go.RowKit
set_option linter.unusedVariables false
set_option maxRecDepth 100000
set_option maxHeartbeats 4000000
theorem bTog_ok (g gs : Nat) (A : Option Addr) (n c : Nat) (T : Nat) (w : World) (hr : w.heap[g]? = some (.cells [.pointer (some ⟨gs, 0, none⟩), .slice A n c].toArray T (0, 0))) :
    Calls Try.prog 82 #[.pointer (some ⟨g, 0, none⟩)] w fun e w' => ∃ v, e = .returned v ∧ (v = .pointer (some ⟨gs, 0, none⟩) ∧ w = w') := by
  have hc : w.cell? ⟨g, 0, none⟩ = some (.pointer (some ⟨gs, 0, none⟩)) := by rw [cell_of_row w g 0 _ _ _ hr]; rfl
  go_enter Try.func82, Try.ntmps82
  go_wp2_with fail
  go_ret
  exact ⟨_, rfl, rfl, rfl⟩
def qCloneS (_N : Nat) (p0 : List Int) : Option (List Int) :=
  ((apx ([]) p0).bind fun l11 => some l11)
def qCloneS_R (r : List Int) (w0 : World) (v : Value) (w : World) : Prop := ∃ (A0' : Option Addr) (c0' : Nat), v = .slice A0' r.length c0' ∧ St [] w0 w [rowE .u8 5 A0' c0' r]
theorem qCloneS_ok (N : Nat) (p0 : List Int) (a0 : Addr) (c0 : Nat) (r : List Int) (hF : qCloneS N p0 = some r) (w0 : World) (hv0 : Vw [] .u8 w0 (some a0) c0 p0) :
    Calls Try.prog 27 #[.slice (some a0) p0.length c0] w0 fun e w => ∃ v, e = .returned v ∧ qCloneS_R r w0 v w := by
 have hS0 := St.start w0
 unfold qCloneS at hF
 refine calls_of Try.func27 rfl ⟨((.slice (some a0) p0.length c0) :: un 7 ([])).toArray, []⟩ (by kernel_rfl) (gx_seq (fun K1 hK2 => gx_region (gx_val (nS) w0 (by kernel_rfl) (by kernel_rfl) (gx_nil (gx_thenN (hK2 _ _ (gx_seq (fun K3 hK4 => ?_))))))))
 refine gx_seq (fun K5 hK6 => gx_region (gx_val (.slice (some a0) p0.length c0) w0 (by kernel_rfl) (by kernel_rfl) (gx_val (.bool false) w0 (by kernel_rfl) (by kernel_rfl) (gx_nil (gx_thenN (hK6 _ _ (gx_no (by kernel_rfl) ?_)))))))
 refine gx_pass (gx_thenN (hK4 _ _ (gx_seq (fun K7 hK8 => gx_region (gx_R (by kernel_rfl) (st_made .u8 5 [] hS0 (by show 0 ≤ 1000000000; decide) (by kernel_rfl)) ?_)))))
 rintro _ w9 ⟨rfl, hS10⟩
 have hS10 : St _ _ w9 [rowE .u8 5 (some ⟨w0.heap.size, 0, none⟩) 0 ([])] := hS10
 refine gx_val (.slice (some a0) p0.length c0) w9 (by kernel_rfl) (by kernel_rfl) ?_
 obtain ⟨l11, ha12, hF⟩ := bind_in hF
 obtain ⟨ha12, hq13⟩ := apx_in ha12
 refine gx_R (by kernel_rfl) (st_append rfl (by kernel_rfl) (by kernel_rfl) hS10 0 rfl (hS10.view hv0) hv0.nn ha12 (by kernel_rfl) (by kernel_rfl)) ?_
 rintro _ w16 ⟨A14, c15, rfl, hS17⟩
 rw [← hq13] at hS17 ⊢
 have hS17 : St _ _ w16 [rowE .u8 5 A14 c15 l11] := hS17
 refine gx_val (.slice A14 l11.length c15) w16 (by kernel_rfl) (by kernel_rfl) (gx_nil (gx_thenN (hK8 _ _ (gx_ret ?_))))
 obtain rfl := sj hF
 exact gxF (.slice A14 l11.length c15) ⟨_, rfl, A14, c15, rfl, hS17⟩
def qCloneN (_N : Nat) : Option (List Int) :=
  some ([])
def qCloneN_R (r : List Int) (w0 : World) (v : Value) (w : World) : Prop := ∃ (A0' : Option Addr) (c0' : Nat), v = .slice A0' r.length c0' ∧ St [] w0 w [rowE .u8 5 A0' c0' r]
theorem qCloneN_ok (N : Nat)  (r : List Int) (hF : qCloneN N = some r) (w0 : World)  :
    Calls Try.prog 27 #[.slice none ((([] : List Int)).length) 0] w0 fun e w => ∃ v, e = .returned v ∧ qCloneN_R r w0 v w := by
 have hS0 := St.start w0
 unfold qCloneN at hF
 refine calls_of Try.func27 rfl ⟨((.slice none ((([] : List Int)).length) 0) :: un 7 ([])).toArray, []⟩ (by kernel_rfl) (gx_seq (fun K1 hK2 => gx_region (gx_val (nS) w0 (by kernel_rfl) (by kernel_rfl) (gx_nil (gx_thenN (hK2 _ _ (gx_seq (fun K3 hK4 => ?_))))))))
 refine gx_seq (fun K5 hK6 => gx_region (gx_val (.slice none ((([] : List Int)).length) 0) w0 (by kernel_rfl) (by kernel_rfl) (gx_val (.bool true) w0 (by kernel_rfl) (by kernel_rfl) (gx_nil (gx_thenN (hK6 _ _ (gx_yes (by kernel_rfl) ?_)))))))
 refine gx_seq (fun K7 hK8 => gx_region (gx_val (nS) w0 (by kernel_rfl) (by kernel_rfl) (gx_nil (gx_thenN (hK8 _ _ (gx_ret (gx_thenR ?_)))))))
 have hS9 : St _ _ w0 [rowE .u8 5 none 0 ([])] := hS0.nilrow .u8 5
 obtain rfl := sj hF
 exact gxF (.slice none (([] : List Int).length) 0) ⟨_, rfl, none, 0, rfl, hS9⟩
def qClone (N : Nat) (p0 : List Int) : Option (List Int) := qCloneS N p0
def qClone_R (r : List Int) (w0 : World) (v : Value) (w : World) : Prop := qCloneS_R r w0 v w
theorem qClone_ok (N : Nat) (p0 : List Int) (A0 : Option Addr) (c0 : Nat) (r : List Int) (hF : qClone N p0 = some r) (w0 : World) (hv0 : Vw [] .u8 w0 A0 c0 p0) :
    Calls Try.prog 27 #[.slice A0 p0.length c0] w0 fun e w => ∃ v, e = .returned v ∧ qClone_R r w0 v w := by
 rcases A0 with _ | a
 obtain rfl : p0 = [] := List.length_eq_zero_iff.1 (num_nil hv0.num rfl)
 obtain rfl := hv0.nn rfl
 have hr : r = [] := (sj hF).symm
 subst hr
 exact qCloneN_ok N [] rfl w0
 exact qCloneS_ok N p0 a c0 r hF w0 hv0
def qOpen (N : Nat) (p0 : List Int) : Option (List Int × Bool) :=
 ((qClone N p0).bind fun l11 => some (l11, false))
def qOpen_R (r : List Int × Bool) (w0 : World) (v : Value) (w : World) : Prop := ∃ (g0' : Nat) (A0_1' : Option Addr) (c0_1' : Nat) (g0_0' : Nat), v = .pointer (some ⟨g0', 0, none⟩) ∧ St [] w0 w [boxE g0' [.pointer (some ⟨g0_0', 0, none⟩), .slice A0_1' r.1.length c0_1'] 72, rowE .u8 5 A0_1' c0_1' r.1, boxE g0_0' [.bool r.2] 69]
theorem qOpen_ok (N : Nat) (p0 : List Int) (A0 : Option Addr) (c0 : Nat) (r : List Int × Bool) (hF : qOpen N p0 = some r) (w0 : World) (hv0 : Vw [] .u8 w0 A0 c0 p0) :
  Calls Try.prog 10 #[.slice A0 p0.length c0] w0 fun e w => ∃ v, e = .returned v ∧ qOpen_R r w0 v w := by
 have hS0 := St.start w0
 unfold qOpen at hF
 refine calls_of Try.func10 rfl ⟨((.slice A0 p0.length c0) :: un 8 ([])).toArray, []⟩ (by kernel_rfl) (gx_seq (fun K1 hK2 => gx_region (gx_k (.pointer none) w0 (gx_nil (gx_thenN (hK2 _ _ (gx_seq (fun K3 hK4 => ?_))))))))
 refine gx_region (gx_k (.agg #[.bool false]) w0 (gx_r (st_boxed [.bool false] 69 hS0 (by kernel_rfl)) ?_))
 rintro _ w5 ⟨rfl, hS6⟩
 have hS6 : St _ _ w5 [boxE w0.heap.size [.bool false] 69] := hS6
 refine gx_k (.slice A0 p0.length c0) w5 ?_
 obtain ⟨l11, hc8, hF⟩ := bind_in hF
 try dsimp only at hF
 refine gx_c _ (qClone_ok N p0 A0 c0 _ hc8 w5 (Vw.of (hS6.view hv0) hv0.nn)) ?_
 rintro _ w9 ⟨A12, c13, rfl, hT14⟩
 have hS10 : St _ _ w9 [boxE w0.heap.size [.bool false] 69, rowE .u8 5 A12 c13 l11] := hS6.take _ hT14
 refine gx_k (.agg #[vP w0.heap.size, .slice A12 l11.length c13]) w9 (gx_r (st_boxed [vP w0.heap.size, .slice A12 l11.length c13] 72 hS10 (by kernel_rfl)) ?_)
 rintro _ w15 ⟨rfl, hS16⟩
 have hS16 : St _ _ w15 [boxE w0.heap.size [.bool false] 69, rowE .u8 5 A12 c13 l11, boxE w9.heap.size [vP w0.heap.size, .slice A12 l11.length c13] 72] := hS16
 refine gx_k (vP w9.heap.size) w15 (gx_nil (gx_thenN (hK4 _ _ (gx_ret ?_))))
 obtain rfl := sj hF
 exact gxF (vP w9.heap.size) ⟨_, rfl, w9.heap.size, A12, c13, w0.heap.size, rfl, (hS16.pick [2, 1, 0] rfl rfl)⟩
def qBad (_N : Nat) (_p0 : List Int) (p0s_0 : Bool) : Option (Bool) :=
 some p0s_0
def qBad_R (p0 : List Int) (p0s_0 : Bool) (g0 : Nat) (A0 : Option Addr) (c0 : Nat) (g0s : Nat) (r : Bool) (w0 : World) (v : Value) (w : World) : Prop := v = .bool r ∧ St (foots [boxE g0 [.pointer (some ⟨g0s, 0, none⟩), .slice A0 p0.length c0] 72, boxE g0s [.bool p0s_0] 69]) w0 w [boxE g0 [.pointer (some ⟨g0s, 0, none⟩), .slice A0 p0.length c0] 72, boxE g0s [.bool p0s_0] 69]
theorem qBad_ok (N : Nat) (p0 : List Int) (p0s_0 : Bool) (g0 : Nat) (A0 : Option Addr) (c0 : Nat) (g0s : Nat) (r : Bool) (hF : qBad N p0 p0s_0 = some r) (w0 : World) (_hv0 : Vw (foots [boxE g0 [.pointer (some ⟨g0s, 0, none⟩), .slice A0 p0.length c0] 72, boxE g0s [.bool p0s_0] 69]) .u8 w0 A0 c0 p0) (hl : St (foots [boxE g0 [.pointer (some ⟨g0s, 0, none⟩), .slice A0 p0.length c0] 72, boxE g0s [.bool p0s_0] 69]) w0 w0 [boxE g0 [.pointer (some ⟨g0s, 0, none⟩), .slice A0 p0.length c0] 72, boxE g0s [.bool p0s_0] 69]) :
  Calls Try.prog 44 #[.pointer (some ⟨g0, 0, none⟩)] w0 fun e w => ∃ v, e = .returned v ∧ qBad_R p0 p0s_0 g0 A0 c0 g0s r w0 v w := by
 have hS0 := hl
 unfold qBad at hF
 refine calls_of Try.func44 rfl ⟨((vP g0) :: un 20 ([])).toArray, []⟩ (by kernel_rfl) (gx_seq (fun K1 hK2 => gx_region (gx_k (.bool false) w0 (gx_nil (gx_thenN (hK2 _ _ (gx_seq (fun K3 hK4 => ?_))))))))
 refine gx_region (gx_k (vP g0) w0 (gx_k (.bool false) w0 (gx_k (.bool false) w0 (gx_k (vP g0) w0 (gx_k (vP g0) w0 (gx_k (vP g0) w0 (gx_v (vP g0s) w0 (rl1 (hS0.box 0 rfl 0 rfl)) (gx_k (.bool true) w0 (gx_k (.bool true) w0 (gx_k (vP g0) w0 (gx_k (vP g0) w0 (gx_k (vP g0) w0 (gx_v (vP g0s) w0 (rl1 (hS0.box 0 rfl 0 rfl)) (gx_k (vP g0s) w0 (gx_k (vP g0s) w0 (gx_v (.bool p0s_0) w0 (rl1 (hS0.box 1 rfl 0 rfl)) (gx_k (.bool p0s_0) w0 (gx_k (.bool p0s_0) w0 (gx_k (.bool p0s_0) w0 ?_)))))))))))))))))))
 refine gx_nil (gx_thenN (hK4 _ _ (gx_ret ?_)))
 obtain rfl := sj hF
 exact gxF (.bool p0s_0) ⟨_, rfl, rfl, hS0⟩
def qHas (_N : Nat) (p0 : List Int) (p0s_0 : Bool) (p1 : Int) (p2 : Int) (p3 : Int) : Option (Bool × Bool) :=
 (((if p1 ≥ 0 then (if p2 ≥ 0 then some (true) else some (false)) else some (false)) : Option (Bool)).bind fun b14 => (((match b14 with | true => (if p1 ≤ ((p0.length : Nat) : Int) then some (true) else some (false)) | false => some (false)) : Option (Bool)).bind fun b24 => (match b24 with | true => (if p3 = 0 then none else (if p2 ≤ (IntKind.i64.wrap (Int.tdiv (IntKind.i64.wrap (((p0.length : Nat) : Int) - p1)) p3)) then some (true, p0s_0) else some (false, true))) | false => some (false, true))))
def qHas_R (p0 : List Int) (p0s_0 : Bool) (p1 : Int) (p2 : Int) (p3 : Int) (g0 : Nat) (A0 : Option Addr) (c0 : Nat) (g0s : Nat) (r : Bool × Bool) (w0 : World) (v : Value) (w : World) : Prop := v = .bool r.1 ∧ St (foots [boxE g0 [.pointer (some ⟨g0s, 0, none⟩), .slice A0 p0.length c0] 72, boxE g0s [.bool p0s_0] 69]) w0 w [boxE g0 [.pointer (some ⟨g0s, 0, none⟩), .slice A0 p0.length c0] 72, boxE g0s [.bool r.2] 69]
theorem qHas_ok (N : Nat) (p0 : List Int) (p0s_0 : Bool) (p1 : Int) (p2 : Int) (p3 : Int) (g0 : Nat) (A0 : Option Addr) (c0 : Nat) (g0s : Nat) (r : Bool × Bool) (hF : qHas N p0 p0s_0 p1 p2 p3 = some r) (w0 : World) (_hv0 : Vw (foots [boxE g0 [.pointer (some ⟨g0s, 0, none⟩), .slice A0 p0.length c0] 72, boxE g0s [.bool p0s_0] 69]) .u8 w0 A0 c0 p0) (hl : St (foots [boxE g0 [.pointer (some ⟨g0s, 0, none⟩), .slice A0 p0.length c0] 72, boxE g0s [.bool p0s_0] 69]) w0 w0 [boxE g0 [.pointer (some ⟨g0s, 0, none⟩), .slice A0 p0.length c0] 72, boxE g0s [.bool p0s_0] 69]) :
  Calls Try.prog 68 #[.pointer (some ⟨g0, 0, none⟩), .int .i64 p1, .int .i64 p2, .int .i64 p3] w0 fun e w => ∃ v, e = .returned v ∧ qHas_R p0 p0s_0 p1 p2 p3 g0 A0 c0 g0s r w0 v w := by
 have hS0 := hl
 unfold qHas at hF
 refine calls_of Try.func68 rfl ⟨((vP g0) :: (i6 p1) :: (i6 p2) :: (i6 p3) :: un 39 ([])).toArray, []⟩ (by kernel_rfl) (gx_seq (fun K1 hK2 => gx_region (gx_k (.bool false) w0 (gx_nil (gx_thenN (hK2 _ _ (gx_seq (fun K3 hK4 => ?_))))))))
 refine gx_seq (fun K5 hK6 => gx_region (gx_k (vP g0) w0 (gx_k (.bool false) w0 (gx_nil (gx_thenN (hK6 _ _ (gx_no (by kernel_rfl) (gx_pass ?_))))))))
 refine gx_thenN (hK4 _ _ (gx_seq (fun K7 hK8 => gx_seq (fun K9 hK10 => gx_region (gx_k (i6 p1) w0 ?_)))))
 obtain ⟨c15, hE16, hO17⟩ := bind_in hF
 refine gx_part (l1 := [_, _, _, _, _]) (fun a w => ∃ (b14 : Bool), selfA (fun u13 => ⟨((vP g0) :: (i6 p1) :: (i6 p2) :: (i6 p3) :: un 4 ((.bool false) :: (vP g0) :: (.bool false) :: (i6 p1) :: dd u13 12 4 ((.bool b14) :: un 26 ([])))).toArray, []⟩) a ∧ b14 = c15 ∧ St (foots [boxE g0 [vP g0s, .slice A0 p0.length c0] 72, boxE g0s [.bool p0s_0] 69]) w0 w [boxE g0 [vP g0s, .slice A0 p0.length c0] 72, boxE g0s [.bool p0s_0] 69]) rfl ?_ ?_
 rcases if_in hE16 with ⟨h19, hE16⟩ | ⟨h19, hE16⟩
 refine gx_v (.bool true) w0 (rbE (decide_eq_true h19)) (gx_k (.bool true) w0 (gx_k (i6 p2) w0 ?_))
 rcases if_in hE16 with ⟨h20, hE16⟩ | ⟨h20, hE16⟩
 refine gx_v (.bool true) w0 (rbE (decide_eq_true h20)) (gx_k (.bool true) w0 (gx_nil (gx_thenN ?_)))
 exact ⟨true, selfA_i (by kernel_rfl), (sj hE16), hS0⟩
 refine gx_v (.bool false) w0 (rbE (decide_eq_false h20)) (gx_k (.bool false) w0 (gx_nil (gx_thenN ?_)))
 exact ⟨false, selfA_i (by kernel_rfl), (sj hE16), hS0⟩
 refine gx_v (.bool false) w0 (rbE (decide_eq_false h19)) (gx_k (.bool false) w0 (gx_o (gx_o (gx_k (.bool false) w0 (gx_nil (gx_thenN ?_))))))
 exact ⟨false, selfA_i (by kernel_rfl), (sj hE16), hS0⟩
 rintro _ w11 ⟨b14, hq18, rfl, hS12⟩
 obtain ⟨u13, rfl⟩ := selfA_u hq18
 try dsimp only at hO17
 obtain ⟨c25, hE26, hO27⟩ := bind_in hO17
 refine gx_part (l1 := [_, _, _, _, _, _, _, _, _]) (fun a w => ∃ (b24 : Bool), selfA (fun u23 => ⟨((vP g0) :: (i6 p1) :: (i6 p2) :: (i6 p3) :: un 4 ((.bool false) :: (vP g0) :: (.bool false) :: (i6 p1) :: dd u13 12 4 ((.bool b14) :: dd u23 17 8 ((.bool b24) :: un 17 ([]))))).toArray, []⟩) a ∧ b24 = c25 ∧ St (foots [boxE g0 [vP g0s, .slice A0 p0.length c0] 72, boxE g0s [.bool p0s_0] 69]) w0 w [boxE g0 [vP g0s, .slice A0 p0.length c0] 72, boxE g0s [.bool p0s_0] 69]) rfl ?_ ?_
 refine gx_k (.bool b14) w11 ?_
 rcases b14 with _ | _
 try dsimp only at hE26
 refine gx_o (gx_o (gx_o (gx_o (gx_o (gx_o (gx_o (gx_k (.bool false) w11 (gx_nil (gx_thenN ?_)))))))))
 exact ⟨false, selfA_i (by kernel_rfl), (sj hE26), hS12⟩
 try dsimp only at hE26
 refine gx_k (i6 p1) w11 (gx_k (vP g0) w11 (gx_k (vP g0) w11 (gx_k (vQ g0 1) w11 (gx_v (.slice A0 p0.length c0) w11 (rl1 (hS12.box 0 rfl 1 rfl)) (gx_k (i6 ((p0.length : Nat) : Int)) w11 ?_)))))
 rcases if_in hE26 with ⟨h29, hE26⟩ | ⟨h29, hE26⟩
 refine gx_v (.bool true) w11 (rbE (decide_eq_true h29)) (gx_k (.bool true) w11 (gx_nil (gx_thenN ?_)))
 exact ⟨true, selfA_i (by kernel_rfl), (sj hE26), hS12⟩
 refine gx_v (.bool false) w11 (rbE (decide_eq_false h29)) (gx_k (.bool false) w11 (gx_nil (gx_thenN ?_)))
 exact ⟨false, selfA_i (by kernel_rfl), (sj hE26), hS12⟩
 rintro _ w21 ⟨b24, hq28, rfl, hS22⟩
 obtain ⟨u23, rfl⟩ := selfA_u hq28
 try dsimp only at hO27
 refine gx_k (.bool b24) w21 ?_
 rcases b24 with _ | _
 try dsimp only at hO27
 refine gx_o (gx_o (gx_o (gx_o (gx_o (gx_o (gx_o (gx_o (gx_o (gx_o (gx_o (gx_k (.bool false) w21 (gx_nil (gx_thenN (hK10 _ _ (gx_no (by kernel_rfl) (gx_pass (gx_thenN ?_)))))))))))))))))
 refine hK8 _ _ (gx_seq (fun K40 hK41 => gx_region (gx_k (vP g0) w21 (gx_c (fun v w => v = vP g0s ∧ w21 = w) (bTog_ok g0 g0s _ _ _ _ w21 (hS22.get 0 rfl)) ?_))))
 rintro _ _ ⟨rfl, rfl⟩
 refine gx_k (vP g0s) w21 (gx_k (vP g0s) w21 (gx_s (st_store (j := 0) (v := (.bool true)) rfl (by kernel_rfl) (by kernel_rfl) rfl (fun _ => by kernel_rfl) hS22 1 rfl (by show 0 < 1; decide)) ?_))
 rintro w42 hS43
 have hS43 : St _ _ w42 [boxE g0 [vP g0s, .slice A0 p0.length c0] 72, boxE g0s [.bool true] 69] := hS43
 refine gx_nil (gx_thenN (hK41 _ _ (gx_seq (fun K44 hK45 => gx_region (gx_k (.bool false) w42 (gx_nil (gx_thenN ?_)))))))
 refine hK45 _ _ (gx_ret ?_)
 obtain rfl := sj hO27
 exact gxF (.bool false) ⟨_, rfl, rfl, hS43⟩
 try dsimp only at hO27
 refine gx_k (i6 p2) w21 (gx_k (vP g0) w21 (gx_k (vP g0) w21 (gx_k (vQ g0 1) w21 (gx_v (.slice A0 p0.length c0) w21 (rl1 (hS22.box 0 rfl 1 rfl)) (gx_k (i6 ((p0.length : Nat) : Int)) w21 (gx_k (i6 p1) w21 (gx_k (i6 (iw (((p0.length : Nat) : Int) - p1))) w21 (gx_k (i6 p3) w21 ?_))))))))
 rcases if_in hO27 with ⟨h30, hO27⟩ | ⟨h30, hO27⟩
 cases hO27
 refine gx_v (i6 (iw (Int.tdiv (iw (((p0.length : Nat) : Int) - p1)) p3))) w21 (run_quo (T := 3) rfl (by kernel_rfl) (by kernel_rfl) rfl h30) ?_
 rcases if_in hO27 with ⟨h31, hO27⟩ | ⟨h31, hO27⟩
 refine gx_v (.bool true) w21 (rbE (decide_eq_true h31)) (gx_k (.bool true) w21 (gx_nil (gx_thenN (hK10 _ _ (gx_yes (by kernel_rfl) (gx_seq (fun K32 hK33 => gx_region ?_)))))))
 refine gx_k (.bool true) w21 (gx_nil (gx_thenN (hK33 _ _ (gx_ret (gx_thenR ?_)))))
 obtain rfl := sj hO27
 exact gxF (.bool true) ⟨_, rfl, rfl, hS22⟩
 refine gx_v (.bool false) w21 (rbE (decide_eq_false h31)) (gx_k (.bool false) w21 (gx_nil (gx_thenN (hK10 _ _ (gx_no (by kernel_rfl) (gx_pass (gx_thenN ?_)))))))
 refine hK8 _ _ (gx_seq (fun K34 hK35 => gx_region (gx_k (vP g0) w21 (gx_c (fun v w => v = vP g0s ∧ w21 = w) (bTog_ok g0 g0s _ _ _ _ w21 (hS22.get 0 rfl)) ?_))))
 rintro _ _ ⟨rfl, rfl⟩
 refine gx_k (vP g0s) w21 (gx_k (vP g0s) w21 (gx_s (st_store (j := 0) (v := (.bool true)) rfl (by kernel_rfl) (by kernel_rfl) rfl (fun _ => by kernel_rfl) hS22 1 rfl (by show 0 < 1; decide)) ?_))
 rintro w36 hS37
 have hS37 : St _ _ w36 [boxE g0 [vP g0s, .slice A0 p0.length c0] 72, boxE g0s [.bool true] 69] := hS37
 refine gx_nil (gx_thenN (hK35 _ _ (gx_seq (fun K38 hK39 => gx_region (gx_k (.bool false) w36 (gx_nil (gx_thenN ?_)))))))
 refine hK39 _ _ (gx_ret ?_)
 obtain rfl := sj hO27
 exact gxF (.bool false) ⟨_, rfl, rfl, hS37⟩
def qByte (N : Nat) (p0 : List Int) (p0s_0 : Bool) (p1 : Int) : Option (Int × Bool) :=
 ((qHas N p0 p0s_0 p1 (1 : Int) (1 : Int)).bind fun (b10, b9) => (match b10 with | true => ((ix p0 p1).bind fun x16 => some (x16, b9)) | false => some (0, b9)))
def qByte_R (p0 : List Int) (p0s_0 : Bool) (p1 : Int) (g0 : Nat) (A0 : Option Addr) (c0 : Nat) (g0s : Nat) (r : Int × Bool) (w0 : World) (v : Value) (w : World) : Prop := v = .int .u8 r.1 ∧ St (foots [boxE g0 [.pointer (some ⟨g0s, 0, none⟩), .slice A0 p0.length c0] 72, boxE g0s [.bool p0s_0] 69]) w0 w [boxE g0 [.pointer (some ⟨g0s, 0, none⟩), .slice A0 p0.length c0] 72, boxE g0s [.bool r.2] 69]
theorem qByte_ok (N : Nat) (p0 : List Int) (p0s_0 : Bool) (p1 : Int) (g0 : Nat) (A0 : Option Addr) (c0 : Nat) (g0s : Nat) (r : Int × Bool) (hF : qByte N p0 p0s_0 p1 = some r) (w0 : World) (hv0 : Vw (foots [boxE g0 [.pointer (some ⟨g0s, 0, none⟩), .slice A0 p0.length c0] 72, boxE g0s [.bool p0s_0] 69]) .u8 w0 A0 c0 p0) (hl : St (foots [boxE g0 [.pointer (some ⟨g0s, 0, none⟩), .slice A0 p0.length c0] 72, boxE g0s [.bool p0s_0] 69]) w0 w0 [boxE g0 [.pointer (some ⟨g0s, 0, none⟩), .slice A0 p0.length c0] 72, boxE g0s [.bool p0s_0] 69]) :
  Calls Try.prog 86 #[.pointer (some ⟨g0, 0, none⟩), .int .i64 p1] w0 fun e w => ∃ v, e = .returned v ∧ qByte_R p0 p0s_0 p1 g0 A0 c0 g0s r w0 v w := by
 have hS0 := hl
 unfold qByte at hF
 refine calls_of Try.func86 rfl ⟨((vP g0) :: (i6 p1) :: un 14 ([])).toArray, []⟩ (by kernel_rfl) (gx_seq (fun K1 hK2 => gx_region (gx_k (.int .u8 0) w0 (gx_nil (gx_thenN (hK2 _ _ (gx_seq (fun K3 hK4 => ?_))))))))
 refine gx_seq (fun K5 hK6 => gx_region (gx_k (vP g0) w0 (gx_k (i6 p1) w0 ?_)))
 have hP7 : St _ _ w0 ([boxE g0 [vP g0s, .slice A0 p0.length c0] 72, boxE g0s [.bool p0s_0] 69] ++ []) := hS0
 obtain ⟨⟨b10, b9⟩, hc8, hF⟩ := bind_in hF
 try dsimp only at hF
 refine gx_c _ (qHas_ok N p0 p0s_0 p1 (1 : Int) (1 : Int) g0 A0 c0 g0s _ hc8 w0 (hP7.vwA hv0) hP7.part) ?_
 rintro _ w11 ⟨rfl, hT13⟩
 have hS12 : St _ _ w11 [boxE g0 [vP g0s, .slice A0 p0.length c0] 72, boxE g0s [.bool b9] 69] := hP7.lendN _ hT13
 rcases b10 with _ | _
 try dsimp only at hF
 refine gx_k (.bool true) w11 (gx_nil (gx_thenN (hK6 _ _ (gx_yes (by kernel_rfl) (gx_seq (fun K18 hK19 => gx_region (gx_k (.int .u8 0) w11 ?_)))))))
 refine gx_nil (gx_thenN (hK19 _ _ (gx_ret (gx_thenR ?_))))
 obtain rfl := sj hF
 exact gxF (.int .u8 0) ⟨_, rfl, rfl, hS12⟩
 try dsimp only at hF
 refine gx_k (.bool false) w11 (gx_nil (gx_thenN (hK6 _ _ (gx_no (by kernel_rfl) (gx_pass (gx_thenN (hK4 _ _ ?_)))))))
 refine gx_seq (fun K14 hK15 => gx_region (gx_k (vP g0) w11 (gx_k (vP g0) w11 (gx_k (vQ g0 1) w11 (gx_v (.slice A0 p0.length c0) w11 (rl1 (hS12.box 0 rfl 1 rfl)) (gx_k (i6 p1) w11 ?_))))))
 obtain ⟨x16, hx17, hF⟩ := bind_in hF
 refine gx_v (pI p1 A0) w11 (rix 5 .i64 hx17 ((hS12.view hv0))) (gx_v (.int .u8 x16) w11 (rlx (hS12.view hv0) hx17) (gx_k (.int .u8 x16) w11 (gx_nil (gx_thenN (hK15 _ _ (gx_ret ?_))))))
 obtain rfl := sj hF
 exact gxF (.int .u8 x16) ⟨_, rfl, rfl, hS12⟩
def qWord (N : Nat) (p0 : List Int) (p0s_0 : Bool) (p1 : Int) : Option (Int × Bool) :=
 ((qHas N p0 p0s_0 p1 (1 : Int) (2 : Int)).bind fun (b10, b9) => (match b10 with | true => ((ix p0 p1).bind fun x18 => ((ix p0 (IntKind.i64.wrap (p1 + 1))).bind fun x20 => some ((ior .u16 (IntKind.u16.wrap ((IntKind.u16.wrap x18) * 256)) (IntKind.u16.wrap x20)), b9))) | false => some (0, b9)))
def qWord_R (p0 : List Int) (p0s_0 : Bool) (p1 : Int) (g0 : Nat) (A0 : Option Addr) (c0 : Nat) (g0s : Nat) (r : Int × Bool) (w0 : World) (v : Value) (w : World) : Prop := v = .int .u16 r.1 ∧ St (foots [boxE g0 [.pointer (some ⟨g0s, 0, none⟩), .slice A0 p0.length c0] 72, boxE g0s [.bool p0s_0] 69]) w0 w [boxE g0 [.pointer (some ⟨g0s, 0, none⟩), .slice A0 p0.length c0] 72, boxE g0s [.bool r.2] 69]
theorem qWord_ok (N : Nat) (p0 : List Int) (p0s_0 : Bool) (p1 : Int) (g0 : Nat) (A0 : Option Addr) (c0 : Nat) (g0s : Nat) (r : Int × Bool) (hF : qWord N p0 p0s_0 p1 = some r) (w0 : World) (hv0 : Vw (foots [boxE g0 [.pointer (some ⟨g0s, 0, none⟩), .slice A0 p0.length c0] 72, boxE g0s [.bool p0s_0] 69]) .u8 w0 A0 c0 p0) (hl : St (foots [boxE g0 [.pointer (some ⟨g0s, 0, none⟩), .slice A0 p0.length c0] 72, boxE g0s [.bool p0s_0] 69]) w0 w0 [boxE g0 [.pointer (some ⟨g0s, 0, none⟩), .slice A0 p0.length c0] 72, boxE g0s [.bool p0s_0] 69]) :
  Calls Try.prog 45 #[.pointer (some ⟨g0, 0, none⟩), .int .i64 p1] w0 fun e w => ∃ v, e = .returned v ∧ qWord_R p0 p0s_0 p1 g0 A0 c0 g0s r w0 v w := by
 have hS0 := hl
 unfold qWord at hF
 refine calls_of Try.func45 rfl ⟨((vP g0) :: (i6 p1) :: un 26 ([])).toArray, []⟩ (by kernel_rfl) (gx_seq (fun K1 hK2 => gx_region (gx_k (u6 0) w0 (gx_nil (gx_thenN (hK2 _ _ (gx_seq (fun K3 hK4 => ?_))))))))
 refine gx_seq (fun K5 hK6 => gx_region (gx_k (vP g0) w0 (gx_k (i6 p1) w0 ?_)))
 have hP7 : St _ _ w0 ([boxE g0 [vP g0s, .slice A0 p0.length c0] 72, boxE g0s [.bool p0s_0] 69] ++ []) := hS0
 obtain ⟨⟨b10, b9⟩, hc8, hF⟩ := bind_in hF
 try dsimp only at hF
 refine gx_c _ (qHas_ok N p0 p0s_0 p1 (1 : Int) (2 : Int) g0 A0 c0 g0s _ hc8 w0 (hP7.vwA hv0) hP7.part) ?_
 rintro _ w11 ⟨rfl, hT13⟩
 have hS12 : St _ _ w11 [boxE g0 [vP g0s, .slice A0 p0.length c0] 72, boxE g0s [.bool b9] 69] := hP7.lendN _ hT13
 rcases b10 with _ | _
 try dsimp only at hF
 refine gx_k (.bool true) w11 (gx_nil (gx_thenN (hK6 _ _ (gx_yes (by kernel_rfl) (gx_seq (fun K22 hK23 => gx_region (gx_k (u6 0) w11 ?_)))))))
 refine gx_nil (gx_thenN (hK23 _ _ (gx_ret (gx_thenR ?_))))
 obtain rfl := sj hF
 exact gxF (u6 0) ⟨_, rfl, rfl, hS12⟩
 try dsimp only at hF
 refine gx_k (.bool false) w11 (gx_nil (gx_thenN (hK6 _ _ (gx_no (by kernel_rfl) (gx_pass (gx_thenN (hK4 _ _ ?_)))))))
 refine gx_seq (fun K14 hK15 => gdst (fun w => St (foots [boxE g0 [vP g0s, .slice A0 p0.length c0] 72, boxE g0s [.bool p0s_0] 69]) w0 w [boxE g0 [vP g0s, .slice A0 p0.length c0] 72, boxE g0s [.bool b9] 69]) 20 ?_)
 have hS17 := hS12.drew
 generalize w11.drew = w16 at hS17 ⊢
 refine gv1 0 9 (vP g0) rfl hS17 (gv1 1 10 (vP g0) rfl hS17 (gv1 2 11 (vQ g0 1) rfl hS17 (gu1 3 12 (.slice A0 p0.length c0) rfl hS17 (fun w hSw => rl1 (hSw.box 0 rfl 1 rfl)) (gv1 4 13 (i6 p1) rfl hS17 ?_))))
 obtain ⟨x18, hx19, hF⟩ := bind_in hF
 refine gu1 5 14 (pI p1 A0) rfl hS17 (fun w hSw => rix 5 .i64 hx19 ((hS17.view hv0))) (gu1 6 15 (.int .u8 x18) rfl hS17 (fun w hSw => rlx (hSw.view hv0) hx19) (gv1 7 16 (u6 (IntKind.u16.wrap x18)) rfl hS17 (gv1 8 17 (u6 (IntKind.u16.wrap ((IntKind.u16.wrap x18) * 256))) rfl hS17 (gv1 9 18 (vP g0) rfl hS17 (gv1 10 19 (vP g0) rfl hS17 (gv1 11 20 (vQ g0 1) rfl hS17 (gu1 12 21 (.slice A0 p0.length c0) rfl hS17 (fun w hSw => rl1 (hSw.box 0 rfl 1 rfl)) ?_)))))))
 refine gv1 13 22 (i6 p1) rfl hS17 (gv1 14 23 (i6 (iw (p1 + 1))) rfl hS17 ?_)
 obtain ⟨x20, hx21, hF⟩ := bind_in hF
 refine gu1 15 24 (pI (iw (p1 + 1)) A0) rfl hS17 (fun w hSw => rix 5 .i64 hx21 ((hS17.view hv0))) (gu1 16 25 (.int .u8 x20) rfl hS17 (fun w hSw => rlx (hSw.view hv0) hx21) (gv1 17 26 (u6 (IntKind.u16.wrap x20)) rfl hS17 (gv1 18 27 (u6 (ior .u16 (IntKind.u16.wrap ((IntKind.u16.wrap x18) * 256)) (IntKind.u16.wrap x20))) rfl hS17 (gv1 19 4 (u6 (ior .u16 (IntKind.u16.wrap ((IntKind.u16.wrap x18) * 256)) (IntKind.u16.wrap x20))) rfl hS17 (gd_done (by kernel_rfl) (gx_thenN (hK15 _ _ ?_)))))))
 refine gx_ret ?_
 obtain rfl := sj hF
 exact gxF (u6 (ior .u16 (IntKind.u16.wrap ((IntKind.u16.wrap x18) * 256)) (IntKind.u16.wrap x20))) ⟨_, rfl, rfl, hS17⟩
def qWords_L1 (N : Nat) (p0 : List Int) (p1 : Int) (l16 : List Int) : Nat → Bool → (List Int) → Int → Option (Bool × List Int)
 | 0, _, _, _ => none
 | k40+1, b36, l38, x39 => (if x39 < ((l16.length : Nat) : Int) then ((qWord N p0 b36 (IntKind.i64.wrap (p1 + (IntKind.i64.wrap ((2 : Int) * x39))))).bind fun (x54, b53) => ((ix l38 x39).bind fun _x58 => ((setx l38 x39 x54).bind fun l62 => qWords_L1 N p0 p1 l16 k40 b53 l62 (IntKind.i64.wrap (x39 + 1))))) else some ((b36, l38)))
def qWords (N : Nat) (p0 : List Int) (p0s_0 : Bool) (p1 : Int) (p2 : Int) : Option (List Int × Bool) :=
 ((qHas N p0 p0s_0 p1 p2 (2 : Int)).bind fun (b10, b9) => (match b10 with | true => ((mkx p2).bind fun l16 => ((qWords_L1 N p0 p1 l16 N b9 l16 0 : Option (Bool × List Int)).bind fun (b25, l27) => some (l27, b25))) | false => some ([], b9)))
def qWords_R (p0 : List Int) (p0s_0 : Bool) (p1 : Int) (p2 : Int) (g0 : Nat) (A0 : Option Addr) (c0 : Nat) (g0s : Nat) (r : List Int × Bool) (w0 : World) (v : Value) (w : World) : Prop := ∃ (A0' : Option Addr) (c0' : Nat), v = .slice A0' r.1.length c0' ∧ St (foots [boxE g0 [.pointer (some ⟨g0s, 0, none⟩), .slice A0 p0.length c0] 72, boxE g0s [.bool p0s_0] 69]) w0 w [boxE g0 [.pointer (some ⟨g0s, 0, none⟩), .slice A0 p0.length c0] 72, boxE g0s [.bool r.2] 69, rowE .u16 31 A0' c0' r.1]
theorem qWords_ok (N : Nat) (p0 : List Int) (p0s_0 : Bool) (p1 : Int) (p2 : Int) (g0 : Nat) (A0 : Option Addr) (c0 : Nat) (g0s : Nat) (r : List Int × Bool) (hF : qWords N p0 p0s_0 p1 p2 = some r) (w0 : World) (hv0 : Vw (foots [boxE g0 [.pointer (some ⟨g0s, 0, none⟩), .slice A0 p0.length c0] 72, boxE g0s [.bool p0s_0] 69]) .u8 w0 A0 c0 p0) (hl : St (foots [boxE g0 [.pointer (some ⟨g0s, 0, none⟩), .slice A0 p0.length c0] 72, boxE g0s [.bool p0s_0] 69]) w0 w0 [boxE g0 [.pointer (some ⟨g0s, 0, none⟩), .slice A0 p0.length c0] 72, boxE g0s [.bool p0s_0] 69]) :
  Calls Try.prog 83 #[.pointer (some ⟨g0, 0, none⟩), .int .i64 p1, .int .i64 p2] w0 fun e w => ∃ v, e = .returned v ∧ qWords_R p0 p0s_0 p1 p2 g0 A0 c0 g0s r w0 v w := by
 have hS0 := hl
 unfold qWords at hF
 refine calls_of Try.func83 rfl ⟨((vP g0) :: (i6 p1) :: (i6 p2) :: un 29 ([])).toArray, []⟩ (by kernel_rfl) (gx_seq (fun K1 hK2 => gx_region (gx_k (nS) w0 (gx_nil (gx_thenN (hK2 _ _ (gx_seq (fun K3 hK4 => ?_))))))))
 refine gx_seq (fun K5 hK6 => gx_region (gx_k (vP g0) w0 (gx_k (i6 p1) w0 (gx_k (i6 p2) w0 ?_))))
 have hP7 : St _ _ w0 ([boxE g0 [vP g0s, .slice A0 p0.length c0] 72, boxE g0s [.bool p0s_0] 69] ++ []) := hS0
 obtain ⟨⟨b10, b9⟩, hc8, hF⟩ := bind_in hF
 try dsimp only at hF
 refine gx_c _ (qHas_ok N p0 p0s_0 p1 p2 (2 : Int) g0 A0 c0 g0s _ hc8 w0 (hP7.vwA hv0) hP7.part) ?_
 rintro _ w11 ⟨rfl, hT13⟩
 have hS12 : St _ _ w11 [boxE g0 [vP g0s, .slice A0 p0.length c0] 72, boxE g0s [.bool b9] 69] := hP7.lendN _ hT13
 rcases b10 with _ | _
 try dsimp only at hF
 refine gx_k (.bool true) w11 (gx_nil (gx_thenN (hK6 _ _ (gx_yes (by kernel_rfl) (gx_seq (fun K70 hK71 => gx_region (gx_k (nS) w11 ?_)))))))
 refine gx_nil (gx_thenN (hK71 _ _ (gx_ret (gx_thenR ?_))))
 have hS72 : St _ _ w11 [boxE g0 [vP g0s, .slice A0 p0.length c0] 72, boxE g0s [.bool b9] 69, rowE .u16 31 none 0 ([])] := hS12.nilrow .u16 31
 obtain rfl := sj hF
 exact gxF (.slice none (([] : List Int).length) 0) ⟨_, rfl, none, 0, rfl, hS72⟩
 try dsimp only at hF
 refine gx_k (.bool false) w11 (gx_nil (gx_thenN (hK6 _ _ (gx_no (by kernel_rfl) (gx_pass (gx_thenN (hK4 _ _ ?_)))))))
 refine gx_seq (fun K14 hK15 => gx_region (gx_k (i6 p2) w11 ?_))
 obtain ⟨l16, hm17, hF⟩ := bind_in hF
 refine gx_r (st_make (T := 31) (k := .u16) (by_ := 2) rfl (by kernel_rfl) (by kernel_rfl) (by kernel_rfl) (by kernel_rfl) (by kernel_rfl) hS12 hm17) ?_
 rintro _ w18 ⟨A20, c21, rfl, hS19⟩
 have hS19 : St _ _ w18 [boxE g0 [vP g0s, .slice A0 p0.length c0] 72, boxE g0s [.bool b9] 69, rowE .u16 31 A20 c21 l16] := hS19
 refine gx_k (.slice A20 l16.length c21) w18 (gx_nil (gx_thenN (hK15 _ _ ?_)))
 obtain ⟨c28, hE29, hO30⟩ := bind_in hF
 refine gx_cut (fun a w => ∃ (b25 : Bool) (l27 : List Int), selfA (fun u24 => ⟨((vP g0) :: (i6 p1) :: (i6 p2) :: un 3 ((nS) :: (.slice A20 l16.length c21) :: (u24 8) :: (vP g0) :: (i6 p1) :: (i6 p2) :: (.bool true) :: (.bool false) :: (i6 p2) :: dd u24 15 16 (undef :: []))).toArray, []⟩) a ∧ (b25, l27) = c28 ∧ St (foots [boxE g0 [vP g0s, .slice A0 p0.length c0] 72, boxE g0s [.bool p0s_0] 69]) w0 w [boxE g0 [vP g0s, .slice A0 p0.length c0] 72, boxE g0s [.bool b25] 69, rowE .u16 31 A20 c21 l27] ∧ l16.length = l27.length) ?_ ?_
 refine gx_seq (fun K31 hK32 => gx_region (gx_k (.slice A20 l16.length c21) w18 (gx_k (i6 ((l16.length : Nat) : Int)) w18 (gx_k (i6 0) w18 (gx_nil (gx_thenN (hK32 _ _ (gx_block (gx_loop (fun k a w => ∃ (b36 : Bool) (l38 : List Int) (x39 : Int), selfA (fun u35 => ⟨((vP g0) :: (i6 p1) :: (i6 p2) :: un 3 ((nS) :: (.slice A20 l16.length c21) :: (u35 8) :: (vP g0) :: (i6 p1) :: (i6 p2) :: (.bool true) :: (.bool false) :: (i6 p2) :: dd u35 15 2 ((i6 ((l16.length : Nat) : Int)) :: (i6 x39) :: dd u35 19 12 (undef :: [])))).toArray, []⟩) a ∧ qWords_L1 N p0 p1 l16 k b36 l38 x39 = some c28 ∧ St (foots [boxE g0 [vP g0s, .slice A0 p0.length c0] 72, boxE g0s [.bool p0s_0] 69]) w0 w [boxE g0 [vP g0s, .slice A0 p0.length c0] 72, boxE g0s [.bool b36] 69, rowE .u16 31 A20 c21 l38] ∧ l16.length = l38.length) N ?_ ?_)))))))))
 exact ⟨b9, l16, 0, selfA_i (by kernel_rfl), hE29, hS19, rfl⟩
 rintro k40 _ w33 ⟨b36, l38, x39, hq66, hL41, hS34, hn37⟩
 obtain ⟨u35, rfl⟩ := selfA_u hq66
 rcases k40 with _ | k40
 cases hL41
 first | rw [qWords_L1] at hL41 | unfold qWords_L1 at hL41
 refine gx_seq (fun K42 hK43 => gx_region ?_)
 rcases if_in hL41 with ⟨h44, hL41⟩ | ⟨h44, hL41⟩
 refine gx_v (.bool true) w33 (rbE (decide_eq_true h44)) (gx_nil (gx_thenN (hK43 _ _ (gx_seq (fun K45 hK46 => gx_yes (by kernel_rfl) (gx_pass (gx_thenN ?_)))))))
 refine hK46 _ _ (gx_seq (fun K47 hK48 => gx_block (gx_seq (fun K49 hK50 => gx_region (gx_k (i6 x39) w33 (gx_k (i6 x39) w33 (gx_nil (gx_thenN ?_))))))))
 refine hK50 _ _ (gx_region (gx_k (.slice A20 l16.length c21) w33 (gx_k (i6 x39) w33 (gx_k (vP g0) w33 (gx_k (i6 p1) w33 (gx_k (i6 x39) w33 (gx_k (i6 (iw ((2 : Int) * x39))) w33 (gx_k (i6 (iw (p1 + (iw ((2 : Int) * x39))))) w33 ?_))))))))
 have hP51 : St _ _ w33 ([boxE g0 [vP g0s, .slice A0 p0.length c0] 72, boxE g0s [.bool b36] 69] ++ [rowE .u16 31 A20 c21 l38]) := hS34
 obtain ⟨⟨x54, b53⟩, hc52, hL41⟩ := bind_in hL41
 try dsimp only at hL41
 refine gx_c _ (qWord_ok N p0 b36 (iw (p1 + (iw ((2 : Int) * x39)))) g0 A0 c0 g0s _ hc52 w33 (hP51.vwA hv0) hP51.part) ?_
 rintro _ w55 ⟨rfl, hT57⟩
 have hS56 : St _ _ w55 [rowE .u16 31 A20 c21 l38, boxE g0 [vP g0s, .slice A0 p0.length c0] 72, boxE g0s [.bool b53] 69] := hP51.lendN _ hT57
 obtain ⟨x58, hx59, hL41⟩ := bind_in hL41
 refine gx_v (pI x39 A20) w55 (riy 31 .i64 hx59 hn37 (((hS56.row 0 rfl).1))) ?_
 obtain ⟨l62, hx63, hL41⟩ := bind_in hL41
 refine gx_s (st_storeix rfl (by kernel_rfl) (by kernel_rfl) (fun _ => by kernel_rfl) hS56 0 rfl hx63) ?_
 rintro w60 hS61
 have hS61 : St _ _ w60 [rowE .u16 31 A20 c21 l62, boxE g0 [vP g0s, .slice A0 p0.length c0] 72, boxE g0s [.bool b53] 69] := hS61
 refine gx_nil (gx_blkN (gx_thenN (hK48 _ _ (gx_region (gx_k (i6 (iw (x39 + 1))) w60 (gx_k (i6 (iw (x39 + 1))) w60 (gx_nil (gx_thenN ?_))))))))
 exact ⟨k40, Nat.lt_succ_self k40, b53, l62, (iw (x39 + 1)), selfA_i (by kernel_rfl), hL41, (hS61.pick [1, 2, 0] rfl rfl), (hn37.trans (setx_len hx63).symm)⟩
 refine gx_v (.bool false) w33 (rbE (decide_eq_false h44)) (gx_nil (gx_thenN (hK43 _ _ (gx_seq (fun K64 hK65 => gx_no (by kernel_rfl) (gx_exit (gx_thenE ?_)))))))
 refine gx_thenE (gx_blkE (gx_thenN ?_))
 exact ⟨b36, l38, selfA_i (by kernel_rfl), (sj hL41), hS34, hn37⟩
 rintro _ w22 ⟨b25, l27, hq69, rfl, hS23, hn26⟩
 obtain ⟨u24, rfl⟩ := selfA_u hq69
 try dsimp only at hO30
 refine gx_seq (fun K67 hK68 => gx_region (gx_k (.slice A20 l16.length c21) w22 (gx_k (.slice A20 l16.length c21) w22 (gx_nil (gx_thenN (hK68 _ _ (gx_ret ?_)))))))
 obtain rfl := sj hO30
 exact gxF (.slice A20 l16.length c21) ⟨_, rfl, A20, c21, by rw [← hn26] <;> kernel_rfl, hS23⟩
end Go.Proofs.Ytgjlpiljacecpaa
