/-
  slices.Sort, walked.
-/
import Derived.Test.YtgjlpiljacecpaaGu
namespace Go.Proofs.Ytgjlpiljacecpaa
open Go Go.RowKit
set_option linter.unusedVariables false
set_option maxRecDepth 100000
set_option maxHeartbeats 4000000
def zNaN (_N : Nat) (p0 : Int) : Option (Bool) :=
 some (p0 != p0)
def zNaN_R (r : Bool) (w0 : World) (v : Value) (w : World) : Prop := v = .bool r ∧ St [] w0 w []
theorem zNaN_ok (N : Nat) (p0 : Int)  (r : Bool) (hF : zNaN N p0 = some r) (w0 : World)  :
  Calls Try.prog 140 #[.int .u16 p0] w0 fun e w => ∃ v, e = .returned v ∧ zNaN_R r w0 v w := by
 have hS0 := St.start w0
 unfold zNaN at hF
 refine calls_of Try.func140 rfl ⟨((u6 p0) :: un 5 ([])).toArray, []⟩ (by kernel_rfl) (gx_seq (fun K1 hK2 => gx_region (gx_k (.bool false) w0 (gx_nil (gx_thenN (hK2 _ _ (gx_seq (fun K3 hK4 => ?_))))))))
 refine gx_region (gx_k (u6 p0) w0 (gx_k (u6 p0) w0 (gx_k (.bool (p0 != p0)) w0 (gx_k (.bool (p0 != p0)) w0 (gx_nil (gx_thenN (hK4 _ _ (gx_ret ?_))))))))
 obtain rfl := sj hF
 exact gxF (.bool (p0 != p0)) ⟨_, rfl, rfl, hS0⟩
def zLess (N : Nat) (p0 : Int) (p1 : Int) : Option (Bool) :=
 ((zNaN N p0).bind fun b7 => (match b7 with | true => ((zNaN N p1).bind fun b13 => (match b13 with | true => some (decide (p0 < p1)) | false => some true)) | false => some (decide (p0 < p1))))
def zLess_R (r : Bool) (w0 : World) (v : Value) (w : World) : Prop := v = .bool r ∧ St [] w0 w []
theorem zLess_ok (N : Nat) (p0 : Int) (p1 : Int)  (r : Bool) (hF : zLess N p0 p1 = some r) (w0 : World)  :
  Calls Try.prog 127 #[.int .u16 p0, .int .u16 p1] w0 fun e w => ∃ v, e = .returned v ∧ zLess_R r w0 v w := by
 have hS0 := St.start w0
 unfold zLess at hF
 refine calls_of Try.func127 rfl ⟨((u6 p0) :: (u6 p1) :: un 15 ([])).toArray, []⟩ (by kernel_rfl) (gx_seq (fun K1 hK2 => gx_region (gx_k (.bool false) w0 (gx_nil (gx_thenN (hK2 _ _ (gx_seq (fun K3 hK4 => ?_))))))))
 refine gx_region (gx_k (u6 p0) w0 ?_)
 have hP5 : St _ _ w0 ([] ++ []) := hS0
 obtain ⟨b7, hc6, hF⟩ := bind_in hF
 try dsimp only at hF
 refine gx_c _ (zNaN_ok N p0 _ hc6 w0 ) ?_
 rintro _ w8 ⟨rfl, hT10⟩
 have hS9 : St _ _ w8 [] := hS0.take _ hT10
 refine gx_k (.bool b7) w8 ?_
 rcases b7 with _ | _
 try dsimp only at hF
 refine gx_o (gx_o (gx_o (gx_k (.bool false) w8 (gx_k (.bool false) w8 (gx_k (u6 p0) w8 (gx_k (u6 p1) w8 (gx_k (.bool (decide (p0 < p1))) w8 (gx_k (.bool (decide (p0 < p1))) w8 (gx_k (.bool (decide (p0 < p1))) w8 (gx_nil (gx_thenN (hK4 _ _ (gx_ret ?_)))))))))))))
 obtain rfl := sj hF
 exact gxF (.bool (decide (p0 < p1))) ⟨_, rfl, rfl, hS9⟩
 try dsimp only at hF
 refine gx_k (u6 p1) w8 ?_
 have hP11 : St _ _ w8 ([] ++ []) := hS9
 obtain ⟨b13, hc12, hF⟩ := bind_in hF
 try dsimp only at hF
 refine gx_c _ (zNaN_ok N p1 _ hc12 w8 ) ?_
 rintro _ w14 ⟨rfl, hT16⟩
 have hS15 : St _ _ w14 [] := hS9.take _ hT16
 rcases b13 with _ | _
 try dsimp only at hF
 refine gx_k (.bool true) w14 (gx_k (.bool true) w14 (gx_k (.bool true) w14 (gx_o (gx_o (gx_o (gx_k (.bool true) w14 (gx_k (.bool true) w14 (gx_nil (gx_thenN (hK4 _ _ (gx_ret ?_)))))))))))
 obtain rfl := sj hF
 exact gxF (.bool true) ⟨_, rfl, rfl, hS15⟩
 try dsimp only at hF
 refine gx_k (.bool false) w14 (gx_k (.bool false) w14 (gx_k (.bool false) w14 (gx_k (u6 p0) w14 (gx_k (u6 p1) w14 (gx_k (.bool (decide (p0 < p1))) w14 (gx_k (.bool (decide (p0 < p1))) w14 (gx_k (.bool (decide (p0 < p1))) w14 (gx_nil (gx_thenN (hK4 _ _ (gx_ret ?_)))))))))))
 obtain rfl := sj hF
 exact gxF (.bool (decide (p0 < p1))) ⟨_, rfl, rfl, hS15⟩
def tab_zLen64 : ByteArray := ⟨([0, 1, 2, 2, 3, 3, 3, 3, 4, 4, 4, 4, 4, 4, 4, 4, 5, 5, 5, 5, 5, 5, 5, 5, 5, 5, 5, 5, 5, 5, 5, 5] ++ [6, 6, 6, 6, 6, 6, 6, 6, 6, 6, 6, 6, 6, 6, 6, 6, 6, 6, 6, 6, 6, 6, 6, 6, 6, 6, 6, 6, 6, 6, 6, 6] ++ [7, 7, 7, 7, 7, 7, 7, 7, 7, 7, 7, 7, 7, 7, 7, 7, 7, 7, 7, 7, 7, 7, 7, 7, 7, 7, 7, 7, 7, 7, 7, 7] ++ [7, 7, 7, 7, 7, 7, 7, 7, 7, 7, 7, 7, 7, 7, 7, 7, 7, 7, 7, 7, 7, 7, 7, 7, 7, 7, 7, 7, 7, 7, 7, 7] ++ [8, 8, 8, 8, 8, 8, 8, 8, 8, 8, 8, 8, 8, 8, 8, 8, 8, 8, 8, 8, 8, 8, 8, 8, 8, 8, 8, 8, 8, 8, 8, 8] ++ [8, 8, 8, 8, 8, 8, 8, 8, 8, 8, 8, 8, 8, 8, 8, 8, 8, 8, 8, 8, 8, 8, 8, 8, 8, 8, 8, 8, 8, 8, 8, 8] ++ [8, 8, 8, 8, 8, 8, 8, 8, 8, 8, 8, 8, 8, 8, 8, 8, 8, 8, 8, 8, 8, 8, 8, 8, 8, 8, 8, 8, 8, 8, 8, 8] ++ [8, 8, 8, 8, 8, 8, 8, 8, 8, 8, 8, 8, 8, 8, 8, 8, 8, 8, 8, 8, 8, 8, 8, 8, 8, 8, 8, 8, 8, 8, 8, 8] : List UInt8).toArray⟩
def zLen64 (_N : Nat) (p0 : Int) : Option (Int) :=
 (((if p0 ≥ 4294967296 then some (((Int.fdiv p0 4294967296), 32)) else some ((p0, 0))) : Option (Int × Int)).bind fun (x6, x7) => (((if x6 ≥ 65536 then some (((Int.fdiv x6 65536), (IntKind.i64.wrap (x7 + 16)))) else some ((x6, x7))) : Option (Int × Int)).bind fun (x19, x20) => (((if x19 ≥ 256 then some (((Int.fdiv x19 256), (IntKind.i64.wrap (x20 + 8)))) else some ((x19, x20))) : Option (Int × Int)).bind fun (x32, x33) => ((ix (strL tab_zLen64) (IntKind.u8.wrap x32)).bind fun x44 => some (IntKind.i64.wrap (x33 + (IntKind.i64.wrap x44)))))))
def zLen64_R (r : Int) (w0 : World) (v : Value) (w : World) : Prop := v = .int .i64 r ∧ St [] w0 w []
theorem zLen64_ok (N : Nat) (p0 : Int)  (r : Int) (hF : zLen64 N p0 = some r) (w0 : World)  :
  Calls Try.prog 131 #[.int .u64 p0] w0 fun e w => ∃ v, e = .returned v ∧ zLen64_R r w0 v w := by
 have hS0 := St.start w0
 unfold zLen64 at hF
 refine calls_of Try.func131 rfl ⟨((.int .u64 p0) :: un 24 ([])).toArray, []⟩ (by kernel_rfl) (gx_seq (fun K1 hK2 => gx_region (gx_k (i6 0) w0 (gx_nil (gx_thenN (hK2 _ _ ?_))))))
 obtain ⟨c8, hE9, hO10⟩ := bind_in hF
 refine gx_cut (fun a w => ∃ (x6 : Int) (x7 : Int), selfA (fun u5 => ⟨((.int .u64 x6) :: undef :: (i6 x7) :: dd u5 3 4 (un 18 ([]))).toArray, []⟩) a ∧ (x6, x7) = c8 ∧ St [] w0 w []) ?_ ?_
 refine gx_seq (fun K11 hK12 => gx_region (gx_k (.int .u64 p0) w0 ?_))
 rcases if_in hE9 with ⟨h13, hE9⟩ | ⟨h13, hE9⟩
 refine gx_v (.bool true) w0 (rbE (decide_eq_true h13)) (gx_nil (gx_thenN (hK12 _ _ (gx_yes (by kernel_rfl) (gx_seq (fun K14 hK15 => gx_region (gx_k (.int .u64 p0) w0 (gx_k (.int .u64 (Int.fdiv p0 4294967296)) w0 (gx_k (.int .u64 (Int.fdiv p0 4294967296)) w0 ?_)))))))))
 refine gx_nil (gx_thenN (hK15 _ _ (gx_region (gx_k (i6 32) w0 (gx_nil (gx_thenN ?_))))))
 exact ⟨(Int.fdiv p0 4294967296), 32, selfA_i (by kernel_rfl), (sj hE9), hS0⟩
 refine gx_v (.bool false) w0 (rbE (decide_eq_false h13)) (gx_nil (gx_thenN (hK12 _ _ (gx_no (by kernel_rfl) (gx_pass (gx_thenN ?_))))))
 exact ⟨p0, 0, selfA_i (by kernel_rfl), (sj hE9), hS0⟩
 rintro _ w3 ⟨x6, x7, hq48, rfl, hS4⟩
 obtain ⟨u5, rfl⟩ := selfA_u hq48
 try dsimp only at hO10
 obtain ⟨c21, hE22, hO23⟩ := bind_in hO10
 refine gx_cut (fun a w => ∃ (x19 : Int) (x20 : Int), selfA (fun u18 => ⟨((.int .u64 x19) :: undef :: (i6 x20) :: dd u5 3 4 (dd u18 7 6 (un 12 ([])))).toArray, []⟩) a ∧ (x19, x20) = c21 ∧ St [] w0 w []) ?_ ?_
 refine gx_seq (fun K24 hK25 => gx_region (gx_k (.int .u64 x6) w3 ?_))
 rcases if_in hE22 with ⟨h26, hE22⟩ | ⟨h26, hE22⟩
 refine gx_v (.bool true) w3 (rbE (decide_eq_true h26)) (gx_nil (gx_thenN (hK25 _ _ (gx_yes (by kernel_rfl) (gx_seq (fun K27 hK28 => gx_region (gx_k (.int .u64 x6) w3 (gx_k (.int .u64 (Int.fdiv x6 65536)) w3 (gx_k (.int .u64 (Int.fdiv x6 65536)) w3 ?_)))))))))
 refine gx_nil (gx_thenN (hK28 _ _ (gx_region (gx_k (i6 x7) w3 (gx_k (i6 (iw (x7 + 16))) w3 (gx_k (i6 (iw (x7 + 16))) w3 (gx_nil (gx_thenN ?_))))))))
 exact ⟨(Int.fdiv x6 65536), (iw (x7 + 16)), selfA_i (by kernel_rfl), (sj hE22), hS4⟩
 refine gx_v (.bool false) w3 (rbE (decide_eq_false h26)) (gx_nil (gx_thenN (hK25 _ _ (gx_no (by kernel_rfl) (gx_pass (gx_thenN ?_))))))
 exact ⟨x6, x7, selfA_i (by kernel_rfl), (sj hE22), hS4⟩
 rintro _ w16 ⟨x19, x20, hq47, rfl, hS17⟩
 obtain ⟨u18, rfl⟩ := selfA_u hq47
 try dsimp only at hO23
 obtain ⟨c34, hE35, hO36⟩ := bind_in hO23
 refine gx_cut (fun a w => ∃ (x32 : Int) (x33 : Int), selfA (fun u31 => ⟨((.int .u64 x32) :: undef :: (i6 x33) :: dd u5 3 4 (dd u18 7 6 (dd u31 13 6 (un 6 ([]))))).toArray, []⟩) a ∧ (x32, x33) = c34 ∧ St [] w0 w []) ?_ ?_
 refine gx_seq (fun K37 hK38 => gx_region (gx_k (.int .u64 x19) w16 ?_))
 rcases if_in hE35 with ⟨h39, hE35⟩ | ⟨h39, hE35⟩
 refine gx_v (.bool true) w16 (rbE (decide_eq_true h39)) (gx_nil (gx_thenN (hK38 _ _ (gx_yes (by kernel_rfl) (gx_seq (fun K40 hK41 => gx_region (gx_k (.int .u64 x19) w16 (gx_k (.int .u64 (Int.fdiv x19 256)) w16 (gx_k (.int .u64 (Int.fdiv x19 256)) w16 ?_)))))))))
 refine gx_nil (gx_thenN (hK41 _ _ (gx_region (gx_k (i6 x20) w16 (gx_k (i6 (iw (x20 + 8))) w16 (gx_k (i6 (iw (x20 + 8))) w16 (gx_nil (gx_thenN ?_))))))))
 exact ⟨(Int.fdiv x19 256), (iw (x20 + 8)), selfA_i (by kernel_rfl), (sj hE35), hS17⟩
 refine gx_v (.bool false) w16 (rbE (decide_eq_false h39)) (gx_nil (gx_thenN (hK38 _ _ (gx_no (by kernel_rfl) (gx_pass (gx_thenN ?_))))))
 exact ⟨x19, x20, selfA_i (by kernel_rfl), (sj hE35), hS17⟩
 rintro _ w29 ⟨x32, x33, hq46, rfl, hS30⟩
 obtain ⟨u31, rfl⟩ := selfA_u hq46
 try dsimp only at hO36
 refine gx_seq (fun K42 hK43 => gx_region (gx_k (i6 x33) w29 (gx_k (.int .u64 x32) w29 (gx_k (.int .u8 (IntKind.u8.wrap x32)) w29 ?_))))
 obtain ⟨x44, hx45, hO36⟩ := bind_in hO36
 refine gx_v (.int .u8 x44) w29 (run_strix (k := .u8) rfl (by kernel_rfl) (by kernel_rfl) (by kernel_rfl) hx45) (gx_k (i6 (iw x44)) w29 (gx_k (i6 (iw (x33 + (iw x44)))) w29 (gx_k (i6 (iw (x33 + (iw x44)))) w29 (gx_nil (gx_thenN (hK43 _ _ (gx_ret ?_)))))))
 obtain rfl := sj hO36
 exact gxF (i6 (iw (x33 + (iw x44)))) ⟨_, rfl, rfl, hS30⟩
def zLen (N : Nat) (p0 : Int) : Option (Int) :=
 ((zLen64 N p0).bind fun x9 => some x9)
def zLen_R (r : Int) (w0 : World) (v : Value) (w : World) : Prop := v = .int .i64 r ∧ St [] w0 w []
theorem zLen_ok (N : Nat) (p0 : Int)  (r : Int) (hF : zLen N p0 = some r) (w0 : World)  :
  Calls Try.prog 100 #[.int .u64 p0] w0 fun e w => ∃ v, e = .returned v ∧ zLen_R r w0 v w := by
 have hS0 := St.start w0
 unfold zLen at hF
 refine calls_of Try.func100 rfl ⟨((.int .u64 p0) :: un 7 ([])).toArray, []⟩ (by kernel_rfl) (gx_seq (fun K1 hK2 => gx_region (gx_k (i6 0) w0 (gx_nil (gx_thenN (hK2 _ _ (gx_seq (fun K3 hK4 => ?_))))))))
 refine gx_no (by kernel_rfl) (gx_pass (gx_thenN (hK4 _ _ (gx_seq (fun K5 hK6 => gx_region (gx_k (.int .u64 p0) w0 ?_))))))
 have hP7 : St _ _ w0 ([] ++ []) := hS0
 obtain ⟨x9, hc8, hF⟩ := bind_in hF
 try dsimp only at hF
 refine gx_c _ (zLen64_ok N p0 _ hc8 w0 ) ?_
 rintro _ w10 ⟨rfl, hT12⟩
 have hS11 : St _ _ w10 [] := hS0.take _ hT12
 refine gx_k (i6 x9) w10 (gx_nil (gx_thenN (hK6 _ _ (gx_ret ?_))))
 obtain rfl := sj hF
 exact gxF (i6 x9) ⟨_, rfl, rfl, hS11⟩
def zPow (N : Nat) (p0 : Int) : Option (Int) :=
 ((zLen N (IntKind.u64.wrap p0)).bind fun x7 => (if x7 < 0 then none else some (ishl .u64 1 x7)))
def zPow_R (r : Int) (w0 : World) (v : Value) (w : World) : Prop := v = .int .u64 r ∧ St [] w0 w []
theorem zPow_ok (N : Nat) (p0 : Int)  (r : Int) (hF : zPow N p0 = some r) (w0 : World)  :
  Calls Try.prog 136 #[.int .i64 p0] w0 fun e w => ∃ v, e = .returned v ∧ zPow_R r w0 v w := by
 have hS0 := St.start w0
 unfold zPow at hF
 refine calls_of Try.func136 rfl ⟨((i6 p0) :: un 6 ([])).toArray, []⟩ (by kernel_rfl) (gx_seq (fun K1 hK2 => gx_region (gx_k (.int .u64 0) w0 (gx_nil (gx_thenN (hK2 _ _ (gx_seq (fun K3 hK4 => ?_))))))))
 refine gx_region (gx_k (i6 p0) w0 (gx_k (.int .u64 (IntKind.u64.wrap p0)) w0 ?_))
 have hP5 : St _ _ w0 ([] ++ []) := hS0
 obtain ⟨x7, hc6, hF⟩ := bind_in hF
 try dsimp only at hF
 refine gx_c _ (zLen_ok N (IntKind.u64.wrap p0) _ hc6 w0 ) ?_
 rintro _ w8 ⟨rfl, hT10⟩
 have hS9 : St _ _ w8 [] := hS0.take _ hT10
 rcases if_in hF with ⟨h11, hF⟩ | ⟨h11, hF⟩
 cases hF
 refine gx_v (.int .u64 (ishl .u64 1 x7)) w8 (run_shl (k2 := .i64) rfl (by kernel_rfl) (by kernel_rfl) h11) (gx_k (.int .u64 (ishl .u64 1 x7)) w8 (gx_nil (gx_thenN (hK4 _ _ (gx_ret ?_)))))
 obtain rfl := sj hF
 exact gxF (.int .u64 (ishl .u64 1 x7)) ⟨_, rfl, rfl, hS9⟩
def zXor (_N : Nat) (zb : Int) : Option (Int × Int) :=
 some ((ixor .u64 (ixor .u64 (ixor .u64 zb (IntKind.u64.wrap (zb * 8192))) (Int.fdiv (ixor .u64 zb (IntKind.u64.wrap (zb * 8192))) 128)) (IntKind.u64.wrap ((ixor .u64 (ixor .u64 zb (IntKind.u64.wrap (zb * 8192))) (Int.fdiv (ixor .u64 zb (IntKind.u64.wrap (zb * 8192))) 128)) * 131072))), (ixor .u64 (ixor .u64 (ixor .u64 zb (IntKind.u64.wrap (zb * 8192))) (Int.fdiv (ixor .u64 zb (IntKind.u64.wrap (zb * 8192))) 128)) (IntKind.u64.wrap ((ixor .u64 (ixor .u64 zb (IntKind.u64.wrap (zb * 8192))) (Int.fdiv (ixor .u64 zb (IntKind.u64.wrap (zb * 8192))) 128)) * 131072))))
def zXor_R (zb : Int) (g0 : Nat) (r : Int × Int) (w0 : World) (v : Value) (w : World) : Prop := v = .int .u64 r.1 ∧ St (foots [boxE g0 [.int .u64 zb] 214]) w0 w [boxE g0 [.int .u64 r.2] 214]
theorem zXor_ok (N : Nat) (zb : Int) (g0 : Nat) (r : Int × Int) (hF : zXor N zb = some r) (w0 : World) (hl : St (foots [boxE g0 [.int .u64 zb] 214]) w0 w0 [boxE g0 [.int .u64 zb] 214]) :
  Calls Try.prog 137 #[.pointer (some ⟨g0, 0, none⟩)] w0 fun e w => ∃ v, e = .returned v ∧ zXor_R zb g0 r w0 v w := by
 have hS0 := hl
 unfold zXor at hF
 refine calls_of Try.func137 rfl ⟨((vP g0) :: un 32 ([])).toArray, []⟩ (by kernel_rfl) (gx_seq (fun K1 hK2 => gx_region (gx_k (.int .u64 0) w0 (gx_nil (gx_thenN (hK2 _ _ (gx_seq (fun K3 hK4 => ?_))))))))
 refine gdst (fun w => St (foots [boxE g0 [.int .u64 zb] 214]) w0 w [boxE g0 [.int .u64 zb] 214]) 10 ?_
 have hS6 := hS0.drew
 generalize w0.drew = w5 at hS6 ⊢
 refine gv1 0 3 (vP g0) rfl hS6 (gv1 1 4 (vP g0) rfl hS6 (gu1 2 5 (.int .u64 zb) rfl hS6 (fun w hSw => rl1 (hSw.box 0 rfl 0 rfl)) (gv1 3 6 (vP g0) rfl hS6 (gv1 4 7 (vP g0) rfl hS6 (gu1 5 8 (.int .u64 zb) rfl hS6 (fun w hSw => rl1 (hSw.box 0 rfl 0 rfl)) (gv1 6 9 (.int .u64 (IntKind.u64.wrap (zb * 8192))) rfl hS6 (gv1 7 10 (.int .u64 (ixor .u64 zb (IntKind.u64.wrap (zb * 8192)))) rfl hS6 ?_)))))))
 refine gv1 8 11 (vP g0) rfl hS6 (gdSz 9 ⟨none, _, _, _, _, _⟩ rfl (st_store (j := 0) (v := (.int .u64 (ixor .u64 zb (IntKind.u64.wrap (zb * 8192))))) rfl (by kernel_rfl) (by kernel_rfl) rfl (fun _ => by kernel_rfl) hS6 0 rfl (by show 0 < 1; decide)) ?_)
 rintro w7 hS8
 have hS8 : St _ _ w7 [boxE g0 [.int .u64 (ixor .u64 zb (IntKind.u64.wrap (zb * 8192)))] 214] := hS8
 refine gd_done (by kernel_rfl) (gx_thenN (hK4 _ _ (gx_seq (fun K9 hK10 => gdst (fun w => St (foots [boxE g0 [.int .u64 zb] 214]) w0 w [boxE g0 [.int .u64 (ixor .u64 zb (IntKind.u64.wrap (zb * 8192)))] 214]) 10 ?_))))
 have hS12 := hS8.drew
 generalize w7.drew = w11 at hS12 ⊢
 refine gv1 0 12 (vP g0) rfl hS12 (gv1 1 13 (vP g0) rfl hS12 (gu1 2 14 (.int .u64 (ixor .u64 zb (IntKind.u64.wrap (zb * 8192)))) rfl hS12 (fun w hSw => rl1 (hSw.box 0 rfl 0 rfl)) (gv1 3 15 (vP g0) rfl hS12 (gv1 4 16 (vP g0) rfl hS12 (gu1 5 17 (.int .u64 (ixor .u64 zb (IntKind.u64.wrap (zb * 8192)))) rfl hS12 (fun w hSw => rl1 (hSw.box 0 rfl 0 rfl)) (gv1 6 18 (.int .u64 (Int.fdiv (ixor .u64 zb (IntKind.u64.wrap (zb * 8192))) 128)) rfl hS12 (gv1 7 19 (.int .u64 (ixor .u64 (ixor .u64 zb (IntKind.u64.wrap (zb * 8192))) (Int.fdiv (ixor .u64 zb (IntKind.u64.wrap (zb * 8192))) 128))) rfl hS12 ?_)))))))
 refine gv1 8 20 (vP g0) rfl hS12 (gdSz 9 ⟨none, _, _, _, _, _⟩ rfl (st_store (j := 0) (v := (.int .u64 (ixor .u64 (ixor .u64 zb (IntKind.u64.wrap (zb * 8192))) (Int.fdiv (ixor .u64 zb (IntKind.u64.wrap (zb * 8192))) 128)))) rfl (by kernel_rfl) (by kernel_rfl) rfl (fun _ => by kernel_rfl) hS12 0 rfl (by show 0 < 1; decide)) ?_)
 rintro w13 hS14
 have hS14 : St _ _ w13 [boxE g0 [.int .u64 (ixor .u64 (ixor .u64 zb (IntKind.u64.wrap (zb * 8192))) (Int.fdiv (ixor .u64 zb (IntKind.u64.wrap (zb * 8192))) 128))] 214] := hS14
 refine gd_done (by kernel_rfl) (gx_thenN (hK10 _ _ (gx_seq (fun K15 hK16 => gdst (fun w => St (foots [boxE g0 [.int .u64 zb] 214]) w0 w [boxE g0 [.int .u64 (ixor .u64 (ixor .u64 zb (IntKind.u64.wrap (zb * 8192))) (Int.fdiv (ixor .u64 zb (IntKind.u64.wrap (zb * 8192))) 128))] 214]) 10 ?_))))
 have hS18 := hS14.drew
 generalize w13.drew = w17 at hS18 ⊢
 refine gv1 0 21 (vP g0) rfl hS18 (gv1 1 22 (vP g0) rfl hS18 (gu1 2 23 (.int .u64 (ixor .u64 (ixor .u64 zb (IntKind.u64.wrap (zb * 8192))) (Int.fdiv (ixor .u64 zb (IntKind.u64.wrap (zb * 8192))) 128))) rfl hS18 (fun w hSw => rl1 (hSw.box 0 rfl 0 rfl)) (gv1 3 24 (vP g0) rfl hS18 (gv1 4 25 (vP g0) rfl hS18 (gu1 5 26 (.int .u64 (ixor .u64 (ixor .u64 zb (IntKind.u64.wrap (zb * 8192))) (Int.fdiv (ixor .u64 zb (IntKind.u64.wrap (zb * 8192))) 128))) rfl hS18 (fun w hSw => rl1 (hSw.box 0 rfl 0 rfl)) (gv1 6 27 (.int .u64 (IntKind.u64.wrap ((ixor .u64 (ixor .u64 zb (IntKind.u64.wrap (zb * 8192))) (Int.fdiv (ixor .u64 zb (IntKind.u64.wrap (zb * 8192))) 128)) * 131072))) rfl hS18 (gv1 7 28 (.int .u64 (ixor .u64 (ixor .u64 (ixor .u64 zb (IntKind.u64.wrap (zb * 8192))) (Int.fdiv (ixor .u64 zb (IntKind.u64.wrap (zb * 8192))) 128)) (IntKind.u64.wrap ((ixor .u64 (ixor .u64 zb (IntKind.u64.wrap (zb * 8192))) (Int.fdiv (ixor .u64 zb (IntKind.u64.wrap (zb * 8192))) 128)) * 131072)))) rfl hS18 ?_)))))))
 refine gv1 8 29 (vP g0) rfl hS18 (gdSz 9 ⟨none, _, _, _, _, _⟩ rfl (st_store (j := 0) (v := (.int .u64 (ixor .u64 (ixor .u64 (ixor .u64 zb (IntKind.u64.wrap (zb * 8192))) (Int.fdiv (ixor .u64 zb (IntKind.u64.wrap (zb * 8192))) 128)) (IntKind.u64.wrap ((ixor .u64 (ixor .u64 zb (IntKind.u64.wrap (zb * 8192))) (Int.fdiv (ixor .u64 zb (IntKind.u64.wrap (zb * 8192))) 128)) * 131072))))) rfl (by kernel_rfl) (by kernel_rfl) rfl (fun _ => by kernel_rfl) hS18 0 rfl (by show 0 < 1; decide)) ?_)
 rintro w19 hS20
 have hS20 : St _ _ w19 [boxE g0 [.int .u64 (ixor .u64 (ixor .u64 (ixor .u64 zb (IntKind.u64.wrap (zb * 8192))) (Int.fdiv (ixor .u64 zb (IntKind.u64.wrap (zb * 8192))) 128)) (IntKind.u64.wrap ((ixor .u64 (ixor .u64 zb (IntKind.u64.wrap (zb * 8192))) (Int.fdiv (ixor .u64 zb (IntKind.u64.wrap (zb * 8192))) 128)) * 131072)))] 214] := hS20
 refine gd_done (by kernel_rfl) (gx_thenN (hK16 _ _ (gx_seq (fun K21 hK22 => gx_region (gx_k (vP g0) w19 (gx_k (vP g0) w19 (gx_v (.int .u64 (ixor .u64 (ixor .u64 (ixor .u64 zb (IntKind.u64.wrap (zb * 8192))) (Int.fdiv (ixor .u64 zb (IntKind.u64.wrap (zb * 8192))) 128)) (IntKind.u64.wrap ((ixor .u64 (ixor .u64 zb (IntKind.u64.wrap (zb * 8192))) (Int.fdiv (ixor .u64 zb (IntKind.u64.wrap (zb * 8192))) 128)) * 131072)))) w19 (rl1 (hS20.box 0 rfl 0 rfl)) (gx_k (.int .u64 (ixor .u64 (ixor .u64 (ixor .u64 zb (IntKind.u64.wrap (zb * 8192))) (Int.fdiv (ixor .u64 zb (IntKind.u64.wrap (zb * 8192))) 128)) (IntKind.u64.wrap ((ixor .u64 (ixor .u64 zb (IntKind.u64.wrap (zb * 8192))) (Int.fdiv (ixor .u64 zb (IntKind.u64.wrap (zb * 8192))) 128)) * 131072)))) w19 ?_))))))))
 refine gx_nil (gx_thenN (hK22 _ _ (gx_ret ?_)))
 obtain rfl := sj hF
 exact gxF (.int .u64 (ixor .u64 (ixor .u64 (ixor .u64 zb (IntKind.u64.wrap (zb * 8192))) (Int.fdiv (ixor .u64 zb (IntKind.u64.wrap (zb * 8192))) 128)) (IntKind.u64.wrap ((ixor .u64 (ixor .u64 zb (IntKind.u64.wrap (zb * 8192))) (Int.fdiv (ixor .u64 zb (IntKind.u64.wrap (zb * 8192))) 128)) * 131072)))) ⟨_, rfl, rfl, hS20⟩
def zIns_L2 (N : Nat) (p1 : Int) : Nat → (List Int) → Int → Option (List Int)
 | 0, _, _ => none
 | k32+1, l30, x31 => (if x31 > p1 then ((ix l30 x31).bind fun x41 => ((ix l30 (IntKind.i64.wrap (x31 - 1))).bind fun x43 => ((zLess N x41 x43).bind fun b47 => (match b47 with | true => ((ix l30 (IntKind.i64.wrap (x31 - 1))).bind fun xz6_52o8_1 => ((ix l30 x31).bind fun xz6_52o12_1 => ((ix l30 x31).bind fun _xz6_52o14_1 => ((setx l30 x31 xz6_52o8_1).bind fun lz6_52o15_3 => ((ix lz6_52o15_3 (IntKind.i64.wrap (x31 - 1))).bind fun _xz6_52o16_1 => ((setx lz6_52o15_3 (IntKind.i64.wrap (x31 - 1)) xz6_52o12_1).bind fun lz6_52o17_3 => zIns_L2 N p1 k32 lz6_52o17_3 (IntKind.i64.wrap (x31 - 1)))))))) | false => some (l30))))) else some (l30))
def zIns_L1 (N : Nat) (p1 : Int) (p2 : Int) : Nat → (List Int) → Int → Option (List Int)
 | 0, _, _ => none
 | k9+1, l7, x8 => (if x8 < p2 then ((zIns_L2 N p1 N l7 x8 : Option (List Int)).bind fun l20 => zIns_L1 N p1 p2 k9 l20 (IntKind.i64.wrap (x8 + 1))) else some l7)
def zIns (N : Nat) (p0 : List Int) (p1 : Int) (p2 : Int) : Option (List Int) :=
 zIns_L1 N p1 p2 N p0 (IntKind.i64.wrap (p1 + 1))
def zIns_R (p0 : List Int) (p1 : Int) (p2 : Int) (A0 : Option Addr) (c0 : Nat) (r : List Int) (w0 : World) (v : Value) (w : World) : Prop := v = .tuple #[] ∧ St (foots [rowE .u16 31 A0 c0 p0]) w0 w [rowE .u16 31 A0 c0 r] ∧ r.length = p0.length
theorem zIns_ok (N : Nat) (p0 : List Int) (p1 : Int) (p2 : Int) (A0 : Option Addr) (c0 : Nat) (r : List Int) (hF : zIns N p0 p1 p2 = some r) (w0 : World) (hl : St (foots [rowE .u16 31 A0 c0 p0]) w0 w0 [rowE .u16 31 A0 c0 p0]) :
  Calls Try.prog 121 #[.slice A0 p0.length c0, .int .i64 p1, .int .i64 p2] w0 fun e w => ∃ v, e = .returned v ∧ zIns_R p0 p1 p2 A0 c0 r w0 v w := by
 have hS0 := hl
 unfold zIns at hF
 refine calls_of Try.func121 rfl ⟨((.slice A0 p0.length c0) :: (i6 p1) :: (i6 p2) :: un 46 ([])).toArray, []⟩ (by kernel_rfl) (gx_seq (fun K1 hK2 => gx_region (gx_k (i6 p1) w0 (gx_k (i6 (iw (p1 + 1))) w0 (gx_k (i6 (iw (p1 + 1))) w0 (gx_nil (gx_thenN (hK2 _ _ (gx_block ?_)))))))))
 refine gx_loop (fun k a w => ∃ (l7 : List Int) (x8 : Int), selfA (fun u5 => ⟨((.slice A0 p0.length c0) :: (i6 p1) :: (i6 p2) :: un 3 ((i6 x8) :: (u5 7) :: (i6 p1) :: (i6 (iw (p1 + 1))) :: dd u5 10 39 ([]))).toArray, []⟩) a ∧ zIns_L1 N p1 p2 k l7 x8 = some r ∧ St (foots [rowE .u16 31 A0 c0 p0]) w0 w [rowE .u16 31 A0 c0 l7] ∧ p0.length = l7.length) N ?_ ?_
 exact ⟨p0, (iw (p1 + 1)), selfA_i (by kernel_rfl), hF, hS0, rfl⟩
 rintro k9 _ w3 ⟨l7, x8, hq61, hL10, hS4, hn6⟩
 obtain ⟨u5, rfl⟩ := selfA_u hq61
 rcases k9 with _ | k9
 cases hL10
 first | rw [zIns_L1] at hL10 | unfold zIns_L1 at hL10
 refine gx_seq (fun K11 hK12 => gx_seq (fun K13 hK14 => gx_region (gx_k (i6 x8) w3 (gx_k (i6 p2) w3 ?_))))
 rcases if_in hL10 with ⟨h15, hL10⟩ | ⟨h15, hL10⟩
 refine gx_v (.bool true) w3 (rbE (decide_eq_true h15)) (gx_nil (gx_thenN (hK14 _ _ (gx_yes (by kernel_rfl) (gx_pass (gx_thenN (hK12 _ _ ?_)))))))
 obtain ⟨c21, hE22, hO23⟩ := bind_in hL10
 refine gx_cut (fun a w => ∃ (l20 : List Int), selfA (fun u18 => ⟨((.slice A0 p0.length c0) :: (i6 p1) :: (i6 p2) :: un 3 ((i6 x8) :: (u18 7) :: (i6 p1) :: (i6 (iw (p1 + 1))) :: (i6 x8) :: (i6 p2) :: (.bool true) :: dd u5 13 2 (dd u18 15 34 ([])))).toArray, []⟩) a ∧ l20 = c21 ∧ St (foots [rowE .u16 31 A0 c0 p0]) w0 w [rowE .u16 31 A0 c0 l20] ∧ p0.length = l20.length) ?_ ?_
 refine gx_block (gx_seq (fun K24 hK25 => gx_region (gx_k (i6 x8) w3 (gx_k (i6 x8) w3 (gx_nil (gx_thenN (hK25 _ _ (gx_block ?_))))))))
 refine gx_loop (fun k a w => ∃ (l30 : List Int) (x31 : Int), selfA (fun u28 => ⟨((.slice A0 p0.length c0) :: (i6 p1) :: (i6 p2) :: un 3 ((i6 x8) :: (i6 x31) :: (i6 p1) :: (i6 (iw (p1 + 1))) :: (i6 x8) :: (i6 p2) :: (.bool true) :: dd u5 13 2 ((i6 x8) :: dd u28 16 33 ([])))).toArray, []⟩) a ∧ zIns_L2 N p1 k l30 x31 = some c21 ∧ St (foots [rowE .u16 31 A0 c0 p0]) w0 w [rowE .u16 31 A0 c0 l30] ∧ p0.length = l30.length) N ?_ ?_
 exact ⟨l7, x8, selfA_i (by kernel_rfl), hE22, hS4, hn6⟩
 rintro k32 _ w26 ⟨l30, x31, hq59, hL33, hS27, hn29⟩
 obtain ⟨u28, rfl⟩ := selfA_u hq59
 rcases k32 with _ | k32
 cases hL33
 first | rw [zIns_L2] at hL33 | unfold zIns_L2 at hL33
 refine gx_seq (fun K34 hK35 => gx_seq (fun K36 hK37 => gdst (fun w => St (foots [rowE .u16 31 A0 c0 p0]) w0 w [rowE .u16 31 A0 c0 l30]) 15 ?_))
 have hS39 := hS27.drew
 generalize w26.drew = w38 at hS39 ⊢
 refine gv1 0 16 (i6 x31) rfl hS39 (gv1 1 17 (i6 p1) rfl hS39 ?_)
 rcases if_in hL33 with ⟨h40, hL33⟩ | ⟨h40, hL33⟩
 refine gu1 2 18 (.bool true) rfl hS39 (rbT h40) (gv1 3 19 (.bool true) rfl hS39 (gv1 4 20 (.slice A0 p0.length c0) rfl hS39 (gv1 5 21 (i6 x31) rfl hS39 ?_)))
 obtain ⟨x41, hx42, hL33⟩ := bind_in hL33
 refine gu1 6 22 (pI x31 A0) rfl hS39 (fun w hSw => riy 31 .i64 hx42 hn29 (((hS39.row 0 rfl).1))) (gu1 7 23 (u6 x41) rfl hS39 (fun w hSw => rlx (hSw.row 0 rfl).1 hx42) (gv1 8 24 (.slice A0 p0.length c0) rfl hS39 (gv1 9 25 (i6 x31) rfl hS39 (gv1 10 26 (i6 (iw (x31 - 1))) rfl hS39 ?_))))
 obtain ⟨x43, hx44, hL33⟩ := bind_in hL33
 refine gu1 11 27 (pI (iw (x31 - 1)) A0) rfl hS39 (fun w hSw => riy 31 .i64 hx44 hn29 (((hS39.row 0 rfl).1))) (gu1 12 28 (u6 x43) rfl hS39 (fun w hSw => rlx (hSw.row 0 rfl).1 hx44) ?_)
 have hP45 : St _ _ w38 ([] ++ [rowE .u16 31 A0 c0 l30]) := hS39
 obtain ⟨b47, hc46, hL33⟩ := bind_in hL33
 try dsimp only at hL33
 refine gdC 13 ⟨some 29, _, _, _, _, _⟩ _ rfl (by kernel_rfl) (zLess_ok N x41 x43 _ hc46 w38 ) ?_
 rintro _ w48 ⟨rfl, hT50⟩
 have hS49 : St _ _ w48 [rowE .u16 31 A0 c0 l30] := hS39.take _ hT50
 refine ⟨hS49, gv1 14 30 (.bool b47) rfl hS49 (gd_done (by kernel_rfl) (gx_thenN (hK37 _ _ ?_)))⟩
 rcases b47 with _ | _
 try dsimp only at hL33
 refine gx_no (by kernel_rfl) (gx_exit (gx_thenE (gx_thenE (gx_blkE (gx_blkN (gx_thenN ?_))))))
 exact ⟨l30, selfA_i (by kernel_rfl), (sj hL33), hS49, hn29⟩
 try dsimp only at hL33
 refine gx_yes (by kernel_rfl) (gx_pass (gx_thenN (hK35 _ _ (gx_seq (fun K51 hK52 => gx_block (gdst (fun w => St (foots [rowE .u16 31 A0 c0 p0]) w0 w []) 18 ?_))))))
 have hS55 := hS49.drew
 generalize w48.drew = w54 at hS55 ⊢
 obtain ⟨xz6_52o8_1, hxz6_52o8_2, hL33⟩ := bind_in hL33
 obtain ⟨xz6_52o12_1, hxz6_52o12_2, hL33⟩ := bind_in hL33
 obtain ⟨xz6_52o14_1, hxz6_52o14_2, hL33⟩ := bind_in hL33
 obtain ⟨lz6_52o15_3, hxz6_52o15_4, hL33⟩ := bind_in hL33
 obtain ⟨xz6_52o16_1, hxz6_52o16_2, hL33⟩ := bind_in hL33
 obtain ⟨lz6_52o17_3, hxz6_52o17_4, hL33⟩ := bind_in hL33
 refine gd_share (X := Unit) (fun _ => ⟨((.slice A0 p0.length c0) :: (i6 p1) :: (i6 p2) :: un 3 ((i6 x8) :: (i6 x31) :: (i6 p1) :: (i6 (iw (p1 + 1))) :: (i6 x8) :: (i6 p2) :: (.bool true) :: dd u5 13 2 ((i6 x8) :: (i6 x31) :: (i6 p1) :: (.bool true) :: (.bool true) :: (.slice A0 p0.length c0) :: (i6 x31) :: (pI x31 A0) :: (u6 x41) :: (.slice A0 p0.length c0) :: (i6 x31) :: (i6 (iw (x31 - 1))) :: (pI (iw (x31 - 1)) A0) :: (u6 x43) :: (.bool true) :: (.bool true) :: dd u28 31 2 ((.slice A0 p0.length c0) :: (i6 x31) :: (.slice A0 p0.length c0) :: (i6 x31) :: (i6 (iw (x31 - 1))) :: (.slice A0 p0.length c0) :: (i6 x31) :: (i6 (iw (x31 - 1))) :: (pI (iw (x31 - 1)) A0) :: (u6 xz6_52o8_1) :: (.slice A0 p0.length c0) :: (i6 x31) :: (pI x31 A0) :: (u6 xz6_52o12_1) :: (pI x31 A0) :: (pI (iw (x31 - 1)) A0) :: [])))).toArray, []⟩) (fun _ w => St (foots [rowE .u16 31 A0 c0 p0]) w0 w [rowE .u16 31 A0 c0 lz6_52o17_3]) ?_ ?_
 rintro _ w56 hS57
 have hS57 : St _ _ w56 [rowE .u16 31 A0 c0 lz6_52o17_3] := hS57
 show WQ _ _ ⟨((.slice A0 p0.length c0) :: (i6 p1) :: (i6 p2) :: un 3 ((i6 x8) :: (i6 x31) :: (i6 p1) :: (i6 (iw (p1 + 1))) :: (i6 x8) :: (i6 p2) :: (.bool true) :: dd u5 13 2 ((i6 x8) :: (i6 x31) :: (i6 p1) :: (.bool true) :: (.bool true) :: (.slice A0 p0.length c0) :: (i6 x31) :: (pI x31 A0) :: (u6 x41) :: (.slice A0 p0.length c0) :: (i6 x31) :: (i6 (iw (x31 - 1))) :: (pI (iw (x31 - 1)) A0) :: (u6 x43) :: (.bool true) :: (.bool true) :: dd u28 31 2 ((.slice A0 p0.length c0) :: (i6 x31) :: (.slice A0 p0.length c0) :: (i6 x31) :: (i6 (iw (x31 - 1))) :: (.slice A0 p0.length c0) :: (i6 x31) :: (i6 (iw (x31 - 1))) :: (pI (iw (x31 - 1)) A0) :: (u6 xz6_52o8_1) :: (.slice A0 p0.length c0) :: (i6 x31) :: (pI x31 A0) :: (u6 xz6_52o12_1) :: (pI x31 A0) :: (pI (iw (x31 - 1)) A0) :: [])))).toArray, []⟩ _
 refine gx_blkN (gx_thenN (hK52 _ _ (gx_region (gx_k (i6 x31) w56 (gx_k (i6 (iw (x31 - 1))) w56 (gx_k (i6 (iw (x31 - 1))) w56 (gx_nil (gx_thenN ?_))))))))
 exact ⟨k32, Nat.lt_succ_self k32, lz6_52o17_3, (iw (x31 - 1)), selfA_i (by kernel_rfl), hL33, hS57, ((hn29.trans (setx_len hxz6_52o15_4).symm).trans (setx_len hxz6_52o17_4).symm)⟩
 intro K58
 refine gv1 0 33 (.slice A0 p0.length c0) rfl (hS55.pick [] rfl rfl) (gv1 1 34 (i6 x31) rfl (hS55.pick [] rfl rfl) (gv1 2 35 (.slice A0 p0.length c0) rfl (hS55.pick [] rfl rfl) (gv1 3 36 (i6 x31) rfl (hS55.pick [] rfl rfl) (gv1 4 37 (i6 (iw (x31 - 1))) rfl (hS55.pick [] rfl rfl) (gv1 5 38 (.slice A0 p0.length c0) rfl (hS55.pick [] rfl rfl) (gv1 6 39 (i6 x31) rfl (hS55.pick [] rfl rfl) (gv1 7 40 (i6 (iw (x31 - 1))) rfl (hS55.pick [] rfl rfl) ?_)))))))
 refine gu1 8 41 (pI (iw (x31 - 1)) A0) rfl (hS55.pick [] rfl rfl) (fun w hSw => riy 31 .i64 hxz6_52o8_2 hn29 (((hS55.row 0 rfl).1))) (gv1 10 43 (.slice A0 p0.length c0) rfl (hS55.pick [] rfl rfl) (gv1 11 44 (i6 x31) rfl (hS55.pick [] rfl rfl) (gu1 12 45 (pI x31 A0) rfl (hS55.pick [] rfl rfl) (fun w hSw => riy 31 .i64 hxz6_52o12_2 hn29 (((hS55.row 0 rfl).1))) (gd_fork2 9 13 ⟨some 42, _, _, _, _, _⟩ ⟨some 46, _, _, _, _, _⟩ rfl rfl ?_ ?_))))
 refine gfR 9 ⟨some 42, _, _, _, _, _⟩ (R := fun v w => v = u6 xz6_52o8_1 ∧ w54 = w) rfl ⟨_, _, rlx (hS55.row 0 rfl).1 hxz6_52o8_2, rfl, rfl⟩ ?_
 rintro _ _ ⟨rfl, rfl⟩
 refine ⟨(hS55.pick [] rfl rfl), gdR 13 ⟨some 46, _, _, _, _, _⟩ (R := fun v w => v = u6 xz6_52o12_1 ∧ w54 = w) rfl ⟨_, _, rlx (hS55.row 0 rfl).1 hxz6_52o12_2, rfl, rfl⟩ ?_⟩
 rintro _ _ ⟨rfl, rfl⟩
 refine ⟨(hS55.pick [] rfl rfl), gu1 14 47 (pI x31 A0) rfl (hS55.pick [] rfl rfl) (fun w hSw => riy 31 .i64 hxz6_52o14_2 hn29 (((hS55.row 0 rfl).1))) (gdS 15 ⟨none, _, _, _, _, _⟩ rfl (st_storeix rfl (by kernel_rfl) (by kernel_rfl) (fun _ => by kernel_rfl) hS55 0 rfl hxz6_52o15_4) ?_)⟩
 rintro wz6_52o15_1 hSz6_52o15_2
 have hSz6_52o15_2 : St _ _ wz6_52o15_1 [rowE .u16 31 A0 c0 lz6_52o15_3] := hSz6_52o15_2
 refine ⟨(hSz6_52o15_2.pick [] rfl rfl), gu1 16 48 (pI (iw (x31 - 1)) A0) rfl (hSz6_52o15_2.pick [] rfl rfl) (fun w hSw => riy 31 .i64 hxz6_52o16_2 (hn29.trans (setx_len hxz6_52o15_4).symm) (((hSz6_52o15_2.row 0 rfl).1))) (gdSz 17 ⟨none, _, _, _, _, _⟩ rfl (st_storeix rfl (by kernel_rfl) (by kernel_rfl) (fun _ => by kernel_rfl) hSz6_52o15_2 0 rfl hxz6_52o17_4) ?_)⟩
 rintro wz6_52o17_1 hSz6_52o17_2
 have hSz6_52o17_2 : St _ _ wz6_52o17_1 [rowE .u16 31 A0 c0 lz6_52o17_3] := hSz6_52o17_2
 exact gd_meet (by kernel_rfl) (by kernel_rfl) (K58 () _ hSz6_52o17_2)
 refine gfR 13 ⟨some 46, _, _, _, _, _⟩ (R := fun v w => v = u6 xz6_52o12_1 ∧ w54 = w) rfl ⟨_, _, rlx (hS55.row 0 rfl).1 hxz6_52o12_2, rfl, rfl⟩ ?_
 rintro _ _ ⟨rfl, rfl⟩
 refine ⟨(hS55.pick [] rfl rfl), gdR 9 ⟨some 42, _, _, _, _, _⟩ (R := fun v w => v = u6 xz6_52o8_1 ∧ w54 = w) rfl ⟨_, _, rlx (hS55.row 0 rfl).1 hxz6_52o8_2, rfl, rfl⟩ ?_⟩
 rintro _ _ ⟨rfl, rfl⟩
 refine ⟨(hS55.pick [] rfl rfl), gu1 14 47 (pI x31 A0) rfl (hS55.pick [] rfl rfl) (fun w hSw => riy 31 .i64 hxz6_52o14_2 hn29 (((hS55.row 0 rfl).1))) (gdS 15 ⟨none, _, _, _, _, _⟩ rfl (st_storeix rfl (by kernel_rfl) (by kernel_rfl) (fun _ => by kernel_rfl) hS55 0 rfl hxz6_52o15_4) ?_)⟩
 rintro wz6_52o15_1 hSz6_52o15_2
 have hSz6_52o15_2 : St _ _ wz6_52o15_1 [rowE .u16 31 A0 c0 lz6_52o15_3] := hSz6_52o15_2
 refine ⟨(hSz6_52o15_2.pick [] rfl rfl), gu1 16 48 (pI (iw (x31 - 1)) A0) rfl (hSz6_52o15_2.pick [] rfl rfl) (fun w hSw => riy 31 .i64 hxz6_52o16_2 (hn29.trans (setx_len hxz6_52o15_4).symm) (((hSz6_52o15_2.row 0 rfl).1))) (gdSz 17 ⟨none, _, _, _, _, _⟩ rfl (st_storeix rfl (by kernel_rfl) (by kernel_rfl) (fun _ => by kernel_rfl) hSz6_52o15_2 0 rfl hxz6_52o17_4) ?_)⟩
 rintro wz6_52o17_1 hSz6_52o17_2
 have hSz6_52o17_2 : St _ _ wz6_52o17_1 [rowE .u16 31 A0 c0 lz6_52o17_3] := hSz6_52o17_2
 exact gd_meet (by kernel_rfl) (by kernel_rfl) (K58 () _ hSz6_52o17_2)
 refine gu1 2 18 (.bool false) rfl hS39 (rbF h40) (gv1 3 19 (.bool false) rfl hS39 (gz1 4 20 rfl hS39 (gz1 5 21 rfl hS39 (gz1 6 22 rfl hS39 (gz1 7 23 rfl hS39 (gz1 8 24 rfl hS39 (gz1 9 25 rfl hS39 ?_)))))))
 refine gz1 10 26 rfl hS39 (gz1 11 27 rfl hS39 (gz1 12 28 rfl hS39 (gz1 13 29 rfl hS39 (gv1 14 30 (.bool false) rfl hS39 (gd_done (by kernel_rfl) (gx_thenN (hK37 _ _ ?_)))))))
 refine gx_no (by kernel_rfl) (gx_exit (gx_thenE (gx_thenE (gx_blkE (gx_blkN (gx_thenN ?_))))))
 exact ⟨l30, selfA_i (by kernel_rfl), (sj hL33), hS39, hn29⟩
 rintro _ w16 ⟨l20, hq60, rfl, hS17, hn19⟩
 obtain ⟨u18, rfl⟩ := selfA_u hq60
 try dsimp only at hO23
 refine gx_region (gx_k (i6 x8) w16 (gx_k (i6 (iw (x8 + 1))) w16 (gx_k (i6 (iw (x8 + 1))) w16 (gx_nil (gx_thenN ?_)))))
 exact ⟨k9, Nat.lt_succ_self k9, l20, (iw (x8 + 1)), selfA_i (by kernel_rfl), hO23, hS17, hn19⟩
 refine gx_v (.bool false) w3 (rbE (decide_eq_false h15)) (gx_nil (gx_thenN (hK14 _ _ (gx_no (by kernel_rfl) (gx_exit (gx_thenE (gx_thenE ?_)))))))
 refine gx_blkE ?_
 obtain rfl := sj hL10
 exact gx_finN (.tuple #[]) (by kernel_rfl) (by kernel_rfl) ⟨_, rfl, rfl, hS4, (hn6).symm⟩
def zSift_L1 (N : Nat) (p2 : Int) (p3 : Int) : Nat → (List Int) → Int → Option (List Int)
 | 0, _, _ => none
 | k9+1, l7, x8 => (if (IntKind.i64.wrap ((IntKind.i64.wrap ((2 : Int) * x8)) + 1)) ≥ p2 then some l7 else (((if (IntKind.i64.wrap ((IntKind.i64.wrap ((IntKind.i64.wrap ((2 : Int) * x8)) + 1)) + 1)) < p2 then ((ix l7 (IntKind.i64.wrap (p3 + (IntKind.i64.wrap ((IntKind.i64.wrap ((2 : Int) * x8)) + 1))))).bind fun x30 => ((ix l7 (IntKind.i64.wrap ((IntKind.i64.wrap (p3 + (IntKind.i64.wrap ((IntKind.i64.wrap ((2 : Int) * x8)) + 1)))) + 1))).bind fun x32 => ((zLess N x30 x32).bind fun b36 => (match b36 with | true => some ((IntKind.i64.wrap ((IntKind.i64.wrap ((IntKind.i64.wrap ((2 : Int) * x8)) + 1)) + 1))) | false => some ((IntKind.i64.wrap ((IntKind.i64.wrap ((2 : Int) * x8)) + 1))))))) else some ((IntKind.i64.wrap ((IntKind.i64.wrap ((2 : Int) * x8)) + 1)))) : Option (Int)).bind fun x21 => ((ix l7 (IntKind.i64.wrap (p3 + x8))).bind fun x46 => ((ix l7 (IntKind.i64.wrap (p3 + x21))).bind fun x48 => ((zLess N x46 x48).bind fun b52 => (match b52 with | true => ((ix l7 (IntKind.i64.wrap (p3 + x21))).bind fun xz6_57o12_1 => ((ix l7 (IntKind.i64.wrap (p3 + x8))).bind fun xz6_57o18_1 => ((ix l7 (IntKind.i64.wrap (p3 + x8))).bind fun _xz6_57o20_1 => ((setx l7 (IntKind.i64.wrap (p3 + x8)) xz6_57o12_1).bind fun lz6_57o21_3 => ((ix lz6_57o21_3 (IntKind.i64.wrap (p3 + x21))).bind fun _xz6_57o22_1 => ((setx lz6_57o21_3 (IntKind.i64.wrap (p3 + x21)) xz6_57o18_1).bind fun lz6_57o23_3 => zSift_L1 N p2 p3 k9 lz6_57o23_3 x21)))))) | false => some l7))))))
def zSift (N : Nat) (p0 : List Int) (p1 : Int) (p2 : Int) (p3 : Int) : Option (List Int) :=
 zSift_L1 N p2 p3 N p0 p1
def zSift_R (p0 : List Int) (p1 : Int) (p2 : Int) (p3 : Int) (A0 : Option Addr) (c0 : Nat) (r : List Int) (w0 : World) (v : Value) (w : World) : Prop := v = .tuple #[] ∧ St (foots [rowE .u16 31 A0 c0 p0]) w0 w [rowE .u16 31 A0 c0 r] ∧ r.length = p0.length
theorem zSift_ok (N : Nat) (p0 : List Int) (p1 : Int) (p2 : Int) (p3 : Int) (A0 : Option Addr) (c0 : Nat) (r : List Int) (hF : zSift N p0 p1 p2 p3 = some r) (w0 : World) (hl : St (foots [rowE .u16 31 A0 c0 p0]) w0 w0 [rowE .u16 31 A0 c0 p0]) :
  Calls Try.prog 135 #[.slice A0 p0.length c0, .int .i64 p1, .int .i64 p2, .int .i64 p3] w0 fun e w => ∃ v, e = .returned v ∧ zSift_R p0 p1 p2 p3 A0 c0 r w0 v w := by
 have hS0 := hl
 unfold zSift at hF
 refine calls_of Try.func135 rfl ⟨((.slice A0 p0.length c0) :: (i6 p1) :: (i6 p2) :: (i6 p3) :: un 72 ([])).toArray, []⟩ (by kernel_rfl) (gx_seq (fun K1 hK2 => gx_region (gx_k (i6 p1) w0 (gx_k (i6 p1) w0 (gx_nil (gx_thenN (hK2 _ _ (gx_block ?_))))))))
 refine gx_loop (fun k a w => ∃ (l7 : List Int) (x8 : Int), selfA (fun u5 => ⟨((.slice A0 p0.length c0) :: (i6 p1) :: (i6 p2) :: (i6 p3) :: un 4 ((i6 x8) :: (u5 9) :: (i6 p1) :: dd u5 11 65 ([]))).toArray, []⟩) a ∧ zSift_L1 N p2 p3 k l7 x8 = some r ∧ St (foots [rowE .u16 31 A0 c0 p0]) w0 w [rowE .u16 31 A0 c0 l7] ∧ p0.length = l7.length) N ?_ ?_
 exact ⟨p0, p1, selfA_i (by kernel_rfl), hF, hS0, rfl⟩
 rintro k9 _ w3 ⟨l7, x8, hq65, hL10, hS4, hn6⟩
 obtain ⟨u5, rfl⟩ := selfA_u hq65
 rcases k9 with _ | k9
 cases hL10
 first | rw [zSift_L1] at hL10 | unfold zSift_L1 at hL10
 refine gx_block (gx_seq (fun K11 hK12 => gx_region (gx_k (i6 x8) w3 (gx_k (i6 (iw ((2 : Int) * x8))) w3 (gx_k (i6 (iw ((iw ((2 : Int) * x8)) + 1))) w3 (gx_k (i6 (iw ((iw ((2 : Int) * x8)) + 1))) w3 (gx_nil (gx_thenN (hK12 _ _ (gx_seq (fun K13 hK14 => ?_)))))))))))
 refine gx_seq (fun K15 hK16 => gx_region (gx_k (i6 (iw ((iw ((2 : Int) * x8)) + 1))) w3 (gx_k (i6 p2) w3 ?_)))
 rcases if_in hL10 with ⟨h17, hL10⟩ | ⟨h17, hL10⟩
 refine gx_v (.bool true) w3 (rbE (decide_eq_true h17)) (gx_nil (gx_thenN (hK16 _ _ (gx_yes (by kernel_rfl) (gx_exit (gx_thenE (gx_blkO (by decide) ?_)))))))
 refine gx_thenE (gx_blkE ?_)
 obtain rfl := sj hL10
 exact gx_finN (.tuple #[]) (by kernel_rfl) (by kernel_rfl) ⟨_, rfl, rfl, hS4, (hn6).symm⟩
 refine gx_v (.bool false) w3 (rbE (decide_eq_false h17)) (gx_nil (gx_thenN (hK16 _ _ (gx_no (by kernel_rfl) (gx_pass (gx_thenN (hK14 _ _ ?_)))))))
 obtain ⟨c22, hE23, hO24⟩ := bind_in hL10
 refine gx_cut (fun a w => ∃ (x21 : Int), selfA (fun u20 => ⟨((.slice A0 p0.length c0) :: (i6 p1) :: (i6 p2) :: (i6 p3) :: un 4 ((i6 x8) :: (i6 x21) :: (i6 p1) :: (i6 x8) :: (i6 (iw ((2 : Int) * x8))) :: (i6 (iw ((iw ((2 : Int) * x8)) + 1))) :: (i6 (iw ((iw ((2 : Int) * x8)) + 1))) :: (i6 p2) :: (.bool false) :: dd u20 17 22 (dd u5 39 37 ([])))).toArray, []⟩) a ∧ x21 = c22 ∧ St (foots [rowE .u16 31 A0 c0 p0]) w0 w [rowE .u16 31 A0 c0 l7]) ?_ ?_
 refine gx_seq (fun K25 hK26 => gdst (fun w => St (foots [rowE .u16 31 A0 c0 p0]) w0 w [rowE .u16 31 A0 c0 l7]) 20 ?_)
 have hS28 := hS4.drew
 generalize w3.drew = w27 at hS28 ⊢
 refine gv1 0 17 (i6 (iw ((iw ((2 : Int) * x8)) + 1))) rfl hS28 (gv1 1 18 (i6 (iw ((iw ((iw ((2 : Int) * x8)) + 1)) + 1))) rfl hS28 (gv1 2 19 (i6 p2) rfl hS28 ?_))
 rcases if_in hE23 with ⟨h29, hE23⟩ | ⟨h29, hE23⟩
 refine gu1 3 20 (.bool true) rfl hS28 (rbT h29) (gv1 4 21 (.bool true) rfl hS28 (gv1 5 22 (.slice A0 p0.length c0) rfl hS28 (gv1 6 23 (i6 p3) rfl hS28 (gv1 7 24 (i6 (iw ((iw ((2 : Int) * x8)) + 1))) rfl hS28 (gv1 8 25 (i6 (iw (p3 + (iw ((iw ((2 : Int) * x8)) + 1))))) rfl hS28 ?_)))))
 obtain ⟨x30, hx31, hE23⟩ := bind_in hE23
 refine gu1 9 26 (pI (iw (p3 + (iw ((iw ((2 : Int) * x8)) + 1)))) A0) rfl hS28 (fun w hSw => riy 31 .i64 hx31 hn6 (((hS28.row 0 rfl).1))) (gu1 10 27 (u6 x30) rfl hS28 (fun w hSw => rlx (hSw.row 0 rfl).1 hx31) (gv1 11 28 (.slice A0 p0.length c0) rfl hS28 (gv1 12 29 (i6 p3) rfl hS28 (gv1 13 30 (i6 (iw ((iw ((2 : Int) * x8)) + 1))) rfl hS28 (gv1 14 31 (i6 (iw (p3 + (iw ((iw ((2 : Int) * x8)) + 1))))) rfl hS28 (gv1 15 32 (i6 (iw ((iw (p3 + (iw ((iw ((2 : Int) * x8)) + 1)))) + 1))) rfl hS28 ?_))))))
 obtain ⟨x32, hx33, hE23⟩ := bind_in hE23
 refine gu1 16 33 (pI (iw ((iw (p3 + (iw ((iw ((2 : Int) * x8)) + 1)))) + 1)) A0) rfl hS28 (fun w hSw => riy 31 .i64 hx33 hn6 (((hS28.row 0 rfl).1))) (gu1 17 34 (u6 x32) rfl hS28 (fun w hSw => rlx (hSw.row 0 rfl).1 hx33) ?_)
 have hP34 : St _ _ w27 ([] ++ [rowE .u16 31 A0 c0 l7]) := hS28
 obtain ⟨b36, hc35, hE23⟩ := bind_in hE23
 try dsimp only at hE23
 refine gdC 18 ⟨some 35, _, _, _, _, _⟩ _ rfl (by kernel_rfl) (zLess_ok N x30 x32 _ hc35 w27 ) ?_
 rintro _ w37 ⟨rfl, hT39⟩
 have hS38 : St _ _ w37 [rowE .u16 31 A0 c0 l7] := hS28.take _ hT39
 refine ⟨hS38, gv1 19 36 (.bool b36) rfl hS38 (gd_done (by kernel_rfl) (gx_thenN (hK26 _ _ ?_)))⟩
 rcases b36 with _ | _
 try dsimp only at hE23
 refine gx_no (by kernel_rfl) (gx_pass (gx_thenN ?_))
 exact ⟨(iw ((iw ((2 : Int) * x8)) + 1)), selfA_i (by kernel_rfl), (sj hE23), hS38⟩
 try dsimp only at hE23
 refine gx_yes (by kernel_rfl) (gx_region (gx_k (i6 (iw ((iw ((2 : Int) * x8)) + 1))) w37 (gx_k (i6 (iw ((iw ((iw ((2 : Int) * x8)) + 1)) + 1))) w37 (gx_k (i6 (iw ((iw ((iw ((2 : Int) * x8)) + 1)) + 1))) w37 (gx_nil (gx_thenN ?_))))))
 exact ⟨(iw ((iw ((iw ((2 : Int) * x8)) + 1)) + 1)), selfA_i (by kernel_rfl), (sj hE23), hS38⟩
 refine gu1 3 20 (.bool false) rfl hS28 (rbF h29) (gv1 4 21 (.bool false) rfl hS28 (gz1 5 22 rfl hS28 (gz1 6 23 rfl hS28 (gz1 7 24 rfl hS28 (gz1 8 25 rfl hS28 (gz1 9 26 rfl hS28 (gz1 10 27 rfl hS28 ?_)))))))
 refine gz1 11 28 rfl hS28 (gz1 12 29 rfl hS28 (gz1 13 30 rfl hS28 (gz1 14 31 rfl hS28 (gz1 15 32 rfl hS28 (gz1 16 33 rfl hS28 (gz1 17 34 rfl hS28 (gz1 18 35 rfl hS28 ?_)))))))
 refine gv1 19 36 (.bool false) rfl hS28 (gd_done (by kernel_rfl) (gx_thenN (hK26 _ _ (gx_no (by kernel_rfl) (gx_pass (gx_thenN ?_))))))
 exact ⟨(iw ((iw ((2 : Int) * x8)) + 1)), selfA_i (by kernel_rfl), (sj hE23), hS28⟩
 rintro _ w18 ⟨x21, hq64, rfl, hS19⟩
 obtain ⟨u20, rfl⟩ := selfA_u hq64
 try dsimp only at hO24
 refine gx_seq (fun K40 hK41 => gx_seq (fun K42 hK43 => gdst (fun w => St (foots [rowE .u16 31 A0 c0 p0]) w0 w [rowE .u16 31 A0 c0 l7]) 14 ?_))
 have hS45 := hS19.drew
 generalize w18.drew = w44 at hS45 ⊢
 refine gv1 0 39 (.slice A0 p0.length c0) rfl hS45 (gv1 1 40 (i6 p3) rfl hS45 (gv1 2 41 (i6 x8) rfl hS45 (gv1 3 42 (i6 (iw (p3 + x8))) rfl hS45 ?_)))
 obtain ⟨x46, hx47, hO24⟩ := bind_in hO24
 refine gu1 4 43 (pI (iw (p3 + x8)) A0) rfl hS45 (fun w hSw => riy 31 .i64 hx47 hn6 (((hS45.row 0 rfl).1))) (gu1 5 44 (u6 x46) rfl hS45 (fun w hSw => rlx (hSw.row 0 rfl).1 hx47) (gv1 6 45 (.slice A0 p0.length c0) rfl hS45 (gv1 7 46 (i6 p3) rfl hS45 (gv1 8 47 (i6 x21) rfl hS45 (gv1 9 48 (i6 (iw (p3 + x21))) rfl hS45 ?_)))))
 obtain ⟨x48, hx49, hO24⟩ := bind_in hO24
 refine gu1 10 49 (pI (iw (p3 + x21)) A0) rfl hS45 (fun w hSw => riy 31 .i64 hx49 hn6 (((hS45.row 0 rfl).1))) (gu1 11 50 (u6 x48) rfl hS45 (fun w hSw => rlx (hSw.row 0 rfl).1 hx49) ?_)
 have hP50 : St _ _ w44 ([] ++ [rowE .u16 31 A0 c0 l7]) := hS45
 obtain ⟨b52, hc51, hO24⟩ := bind_in hO24
 try dsimp only at hO24
 refine gdC 12 ⟨some 51, _, _, _, _, _⟩ _ rfl (by kernel_rfl) (zLess_ok N x46 x48 _ hc51 w44 ) ?_
 rintro _ w53 ⟨rfl, hT55⟩
 have hS54 : St _ _ w53 [rowE .u16 31 A0 c0 l7] := hS45.take _ hT55
 refine ⟨hS54, ?_⟩
 rcases b52 with _ | _
 try dsimp only at hO24
 refine gv1 13 52 (.bool true) rfl hS54 (gd_done (by kernel_rfl) (gx_thenN (hK43 _ _ (gx_yes (by kernel_rfl) (gx_ret (gx_thenR (gx_blkR ?_)))))))
 refine gx_thenR (gx_blkR ?_)
 obtain rfl := sj hO24
 exact gxF (.tuple #[]) ⟨_, rfl, rfl, hS54, (hn6).symm⟩
 try dsimp only at hO24
 refine gv1 13 52 (.bool false) rfl hS54 (gd_done (by kernel_rfl) (gx_thenN (hK43 _ _ (gx_no (by kernel_rfl) (gx_pass (gx_thenN (hK41 _ _ ?_)))))))
 refine gx_seq (fun K56 hK57 => gdst (fun w => St (foots [rowE .u16 31 A0 c0 p0]) w0 w []) 24 ?_)
 have hS60 := hS54.drew
 generalize w53.drew = w59 at hS60 ⊢
 obtain ⟨xz6_57o12_1, hxz6_57o12_2, hO24⟩ := bind_in hO24
 obtain ⟨xz6_57o18_1, hxz6_57o18_2, hO24⟩ := bind_in hO24
 obtain ⟨xz6_57o20_1, hxz6_57o20_2, hO24⟩ := bind_in hO24
 obtain ⟨lz6_57o21_3, hxz6_57o21_4, hO24⟩ := bind_in hO24
 obtain ⟨xz6_57o22_1, hxz6_57o22_2, hO24⟩ := bind_in hO24
 obtain ⟨lz6_57o23_3, hxz6_57o23_4, hO24⟩ := bind_in hO24
 refine gd_share (X := Unit) (fun _ => ⟨((.slice A0 p0.length c0) :: (i6 p1) :: (i6 p2) :: (i6 p3) :: un 4 ((i6 x8) :: (i6 x21) :: (i6 p1) :: (i6 x8) :: (i6 (iw ((2 : Int) * x8))) :: (i6 (iw ((iw ((2 : Int) * x8)) + 1))) :: (i6 (iw ((iw ((2 : Int) * x8)) + 1))) :: (i6 p2) :: (.bool false) :: dd u20 17 22 ((.slice A0 p0.length c0) :: (i6 p3) :: (i6 x8) :: (i6 (iw (p3 + x8))) :: (pI (iw (p3 + x8)) A0) :: (u6 x46) :: (.slice A0 p0.length c0) :: (i6 p3) :: (i6 x21) :: (i6 (iw (p3 + x21))) :: (pI (iw (p3 + x21)) A0) :: (u6 x48) :: (.bool true) :: (.bool false) :: (.slice A0 p0.length c0) :: (i6 p3) :: (i6 x8) :: (i6 (iw (p3 + x8))) :: (.slice A0 p0.length c0) :: (i6 p3) :: (i6 x21) :: (i6 (iw (p3 + x21))) :: (.slice A0 p0.length c0) :: (i6 p3) :: (i6 x21) :: (i6 (iw (p3 + x21))) :: (pI (iw (p3 + x21)) A0) :: (u6 xz6_57o12_1) :: (.slice A0 p0.length c0) :: (i6 p3) :: (i6 x8) :: (i6 (iw (p3 + x8))) :: (pI (iw (p3 + x8)) A0) :: (u6 xz6_57o18_1) :: (pI (iw (p3 + x8)) A0) :: (pI (iw (p3 + x21)) A0) :: (u5 75) :: []))).toArray, []⟩) (fun _ w => St (foots [rowE .u16 31 A0 c0 p0]) w0 w [rowE .u16 31 A0 c0 lz6_57o23_3]) ?_ ?_
 rintro _ w61 hS62
 have hS62 : St _ _ w61 [rowE .u16 31 A0 c0 lz6_57o23_3] := hS62
 show WQ _ _ ⟨((.slice A0 p0.length c0) :: (i6 p1) :: (i6 p2) :: (i6 p3) :: un 4 ((i6 x8) :: (i6 x21) :: (i6 p1) :: (i6 x8) :: (i6 (iw ((2 : Int) * x8))) :: (i6 (iw ((iw ((2 : Int) * x8)) + 1))) :: (i6 (iw ((iw ((2 : Int) * x8)) + 1))) :: (i6 p2) :: (.bool false) :: dd u20 17 22 ((.slice A0 p0.length c0) :: (i6 p3) :: (i6 x8) :: (i6 (iw (p3 + x8))) :: (pI (iw (p3 + x8)) A0) :: (u6 x46) :: (.slice A0 p0.length c0) :: (i6 p3) :: (i6 x21) :: (i6 (iw (p3 + x21))) :: (pI (iw (p3 + x21)) A0) :: (u6 x48) :: (.bool true) :: (.bool false) :: (.slice A0 p0.length c0) :: (i6 p3) :: (i6 x8) :: (i6 (iw (p3 + x8))) :: (.slice A0 p0.length c0) :: (i6 p3) :: (i6 x21) :: (i6 (iw (p3 + x21))) :: (.slice A0 p0.length c0) :: (i6 p3) :: (i6 x21) :: (i6 (iw (p3 + x21))) :: (pI (iw (p3 + x21)) A0) :: (u6 xz6_57o12_1) :: (.slice A0 p0.length c0) :: (i6 p3) :: (i6 x8) :: (i6 (iw (p3 + x8))) :: (pI (iw (p3 + x8)) A0) :: (u6 xz6_57o18_1) :: (pI (iw (p3 + x8)) A0) :: (pI (iw (p3 + x21)) A0) :: (u5 75) :: []))).toArray, []⟩ _
 refine gx_thenN (hK57 _ _ (gx_region (gx_k (i6 x21) w61 (gx_k (i6 x21) w61 (gx_nil (gx_blkN (gx_thenN ?_)))))))
 exact ⟨k9, Nat.lt_succ_self k9, lz6_57o23_3, x21, selfA_i (by kernel_rfl), hO24, hS62, ((hn6.trans (setx_len hxz6_57o21_4).symm).trans (setx_len hxz6_57o23_4).symm)⟩
 intro K63
 refine gv1 0 53 (.slice A0 p0.length c0) rfl (hS60.pick [] rfl rfl) (gv1 1 54 (i6 p3) rfl (hS60.pick [] rfl rfl) (gv1 2 55 (i6 x8) rfl (hS60.pick [] rfl rfl) (gv1 3 56 (i6 (iw (p3 + x8))) rfl (hS60.pick [] rfl rfl) (gv1 4 57 (.slice A0 p0.length c0) rfl (hS60.pick [] rfl rfl) (gv1 5 58 (i6 p3) rfl (hS60.pick [] rfl rfl) (gv1 6 59 (i6 x21) rfl (hS60.pick [] rfl rfl) (gv1 7 60 (i6 (iw (p3 + x21))) rfl (hS60.pick [] rfl rfl) ?_)))))))
 refine gv1 8 61 (.slice A0 p0.length c0) rfl (hS60.pick [] rfl rfl) (gv1 9 62 (i6 p3) rfl (hS60.pick [] rfl rfl) (gv1 10 63 (i6 x21) rfl (hS60.pick [] rfl rfl) (gv1 11 64 (i6 (iw (p3 + x21))) rfl (hS60.pick [] rfl rfl) (gu1 12 65 (pI (iw (p3 + x21)) A0) rfl (hS60.pick [] rfl rfl) (fun w hSw => riy 31 .i64 hxz6_57o12_2 hn6 (((hS60.row 0 rfl).1))) (gv1 14 67 (.slice A0 p0.length c0) rfl (hS60.pick [] rfl rfl) (gv1 15 68 (i6 p3) rfl (hS60.pick [] rfl rfl) (gv1 16 69 (i6 x8) rfl (hS60.pick [] rfl rfl) ?_)))))))
 refine gv1 17 70 (i6 (iw (p3 + x8))) rfl (hS60.pick [] rfl rfl) (gu1 18 71 (pI (iw (p3 + x8)) A0) rfl (hS60.pick [] rfl rfl) (fun w hSw => riy 31 .i64 hxz6_57o18_2 hn6 (((hS60.row 0 rfl).1))) (gd_fork2 13 19 ⟨some 66, _, _, _, _, _⟩ ⟨some 72, _, _, _, _, _⟩ rfl rfl ?_ ?_))
 refine gfR 13 ⟨some 66, _, _, _, _, _⟩ (R := fun v w => v = u6 xz6_57o12_1 ∧ w59 = w) rfl ⟨_, _, rlx (hS60.row 0 rfl).1 hxz6_57o12_2, rfl, rfl⟩ ?_
 rintro _ _ ⟨rfl, rfl⟩
 refine ⟨(hS60.pick [] rfl rfl), gdR 19 ⟨some 72, _, _, _, _, _⟩ (R := fun v w => v = u6 xz6_57o18_1 ∧ w59 = w) rfl ⟨_, _, rlx (hS60.row 0 rfl).1 hxz6_57o18_2, rfl, rfl⟩ ?_⟩
 rintro _ _ ⟨rfl, rfl⟩
 refine ⟨(hS60.pick [] rfl rfl), gu1 20 73 (pI (iw (p3 + x8)) A0) rfl (hS60.pick [] rfl rfl) (fun w hSw => riy 31 .i64 hxz6_57o20_2 hn6 (((hS60.row 0 rfl).1))) (gdS 21 ⟨none, _, _, _, _, _⟩ rfl (st_storeix rfl (by kernel_rfl) (by kernel_rfl) (fun _ => by kernel_rfl) hS60 0 rfl hxz6_57o21_4) ?_)⟩
 rintro wz6_57o21_1 hSz6_57o21_2
 have hSz6_57o21_2 : St _ _ wz6_57o21_1 [rowE .u16 31 A0 c0 lz6_57o21_3] := hSz6_57o21_2
 refine ⟨(hSz6_57o21_2.pick [] rfl rfl), gu1 22 74 (pI (iw (p3 + x21)) A0) rfl (hSz6_57o21_2.pick [] rfl rfl) (fun w hSw => riy 31 .i64 hxz6_57o22_2 (hn6.trans (setx_len hxz6_57o21_4).symm) (((hSz6_57o21_2.row 0 rfl).1))) (gdSz 23 ⟨none, _, _, _, _, _⟩ rfl (st_storeix rfl (by kernel_rfl) (by kernel_rfl) (fun _ => by kernel_rfl) hSz6_57o21_2 0 rfl hxz6_57o23_4) ?_)⟩
 rintro wz6_57o23_1 hSz6_57o23_2
 have hSz6_57o23_2 : St _ _ wz6_57o23_1 [rowE .u16 31 A0 c0 lz6_57o23_3] := hSz6_57o23_2
 exact gd_meet (by kernel_rfl) (by kernel_rfl) (K63 () _ hSz6_57o23_2)
 refine gfR 19 ⟨some 72, _, _, _, _, _⟩ (R := fun v w => v = u6 xz6_57o18_1 ∧ w59 = w) rfl ⟨_, _, rlx (hS60.row 0 rfl).1 hxz6_57o18_2, rfl, rfl⟩ ?_
 rintro _ _ ⟨rfl, rfl⟩
 refine ⟨(hS60.pick [] rfl rfl), gdR 13 ⟨some 66, _, _, _, _, _⟩ (R := fun v w => v = u6 xz6_57o12_1 ∧ w59 = w) rfl ⟨_, _, rlx (hS60.row 0 rfl).1 hxz6_57o12_2, rfl, rfl⟩ ?_⟩
 rintro _ _ ⟨rfl, rfl⟩
 refine ⟨(hS60.pick [] rfl rfl), gu1 20 73 (pI (iw (p3 + x8)) A0) rfl (hS60.pick [] rfl rfl) (fun w hSw => riy 31 .i64 hxz6_57o20_2 hn6 (((hS60.row 0 rfl).1))) (gdS 21 ⟨none, _, _, _, _, _⟩ rfl (st_storeix rfl (by kernel_rfl) (by kernel_rfl) (fun _ => by kernel_rfl) hS60 0 rfl hxz6_57o21_4) ?_)⟩
 rintro wz6_57o21_1 hSz6_57o21_2
 have hSz6_57o21_2 : St _ _ wz6_57o21_1 [rowE .u16 31 A0 c0 lz6_57o21_3] := hSz6_57o21_2
 refine ⟨(hSz6_57o21_2.pick [] rfl rfl), gu1 22 74 (pI (iw (p3 + x21)) A0) rfl (hSz6_57o21_2.pick [] rfl rfl) (fun w hSw => riy 31 .i64 hxz6_57o22_2 (hn6.trans (setx_len hxz6_57o21_4).symm) (((hSz6_57o21_2.row 0 rfl).1))) (gdSz 23 ⟨none, _, _, _, _, _⟩ rfl (st_storeix rfl (by kernel_rfl) (by kernel_rfl) (fun _ => by kernel_rfl) hSz6_57o21_2 0 rfl hxz6_57o23_4) ?_)⟩
 rintro wz6_57o23_1 hSz6_57o23_2
 have hSz6_57o23_2 : St _ _ wz6_57o23_1 [rowE .u16 31 A0 c0 lz6_57o23_3] := hSz6_57o23_2
 exact gd_meet (by kernel_rfl) (by kernel_rfl) (K63 () _ hSz6_57o23_2)
def zHeap_L1 (N : Nat) (p1 : Int) (p2 : Int) : Nat → (List Int) → Int → Option (List Int)
 | 0, _, _ => none
 | k23+1, l21, x22 => (if x22 ≥ 0 then ((zSift N l21 x22 (IntKind.i64.wrap (p2 - p1)) p1).bind fun l34 => zHeap_L1 N p1 p2 k23 l34 (IntKind.i64.wrap (x22 - 1))) else some (l21))
def zHeap_L2 (N : Nat) (p1 : Int) : Nat → (List Int) → Int → Option (List Int)
 | 0, _, _ => none
 | k48+1, l46, x47 => (if x47 ≥ 0 then ((ix l46 (IntKind.i64.wrap (p1 + x47))).bind fun xz10_58o10_1 => ((ix l46 p1).bind fun xz10_58o14_1 => ((ix l46 p1).bind fun _xz10_58o16_1 => ((setx l46 p1 xz10_58o10_1).bind fun lz10_58o17_3 => ((ix lz10_58o17_3 (IntKind.i64.wrap (p1 + x47))).bind fun _xz10_58o18_1 => ((setx lz10_58o17_3 (IntKind.i64.wrap (p1 + x47)) xz10_58o14_1).bind fun lz10_58o19_3 => ((zSift N lz10_58o19_3 (0 : Int) x47 p1).bind fun l66 => zHeap_L2 N p1 k48 l66 (IntKind.i64.wrap (x47 - 1))))))))) else some l46)
def zHeap (N : Nat) (p0 : List Int) (p1 : Int) (p2 : Int) : Option (List Int) :=
 ((zHeap_L1 N p1 p2 N p0 (IntKind.i64.wrap (Int.tdiv (IntKind.i64.wrap ((IntKind.i64.wrap (p2 - p1)) - 1)) 2)) : Option (List Int)).bind fun l11 => zHeap_L2 N p1 N l11 (IntKind.i64.wrap ((IntKind.i64.wrap (p2 - p1)) - 1)))
def zHeap_R (p0 : List Int) (p1 : Int) (p2 : Int) (A0 : Option Addr) (c0 : Nat) (r : List Int) (w0 : World) (v : Value) (w : World) : Prop := v = .tuple #[] ∧ St (foots [rowE .u16 31 A0 c0 p0]) w0 w [rowE .u16 31 A0 c0 r] ∧ r.length = p0.length
theorem zHeap_ok (N : Nat) (p0 : List Int) (p1 : Int) (p2 : Int) (A0 : Option Addr) (c0 : Nat) (r : List Int) (hF : zHeap N p0 p1 p2 = some r) (w0 : World) (hl : St (foots [rowE .u16 31 A0 c0 p0]) w0 w0 [rowE .u16 31 A0 c0 p0]) :
  Calls Try.prog 122 #[.slice A0 p0.length c0, .int .i64 p1, .int .i64 p2] w0 fun e w => ∃ v, e = .returned v ∧ zHeap_R p0 p1 p2 A0 c0 r w0 v w := by
 have hS0 := hl
 unfold zHeap at hF
 refine calls_of Try.func122 rfl ⟨((.slice A0 p0.length c0) :: (i6 p1) :: (i6 p2) :: un 53 ([])).toArray, []⟩ (by kernel_rfl) (gx_seq (fun K1 hK2 => gx_region (gx_k (i6 p1) w0 (gx_k (i6 p1) w0 (gx_nil (gx_thenN (hK2 _ _ (gx_seq (fun K3 hK4 => ?_)))))))))
 refine gx_region (gx_k (i6 0) w0 (gx_nil (gx_thenN (hK4 _ _ (gx_seq (fun K5 hK6 => gx_region (gx_k (i6 p2) w0 (gx_k (i6 p1) w0 (gx_k (i6 (iw (p2 - p1))) w0 (gx_k (i6 (iw (p2 - p1))) w0 ?_))))))))))
 refine gx_nil (gx_thenN (hK6 _ _ ?_))
 obtain ⟨c12, hE13, hO14⟩ := bind_in hF
 refine gx_cut (fun a w => ∃ (l11 : List Int), selfA (fun u9 => ⟨((.slice A0 p0.length c0) :: (i6 p1) :: (i6 p2) :: un 3 ((i6 p1) :: (i6 0) :: (i6 (iw (p2 - p1))) :: (u9 9) :: undef :: (i6 p1) :: (i6 p2) :: (i6 p1) :: (i6 (iw (p2 - p1))) :: dd u9 15 12 (un 29 ([])))).toArray, []⟩) a ∧ l11 = c12 ∧ St (foots [rowE .u16 31 A0 c0 p0]) w0 w [rowE .u16 31 A0 c0 l11] ∧ p0.length = l11.length) ?_ ?_
 refine gx_seq (fun K15 hK16 => gx_region (gx_k (i6 (iw (p2 - p1))) w0 (gx_k (i6 (iw ((iw (p2 - p1)) - 1))) w0 (gx_k (i6 (iw (Int.tdiv (iw ((iw (p2 - p1)) - 1)) 2))) w0 (gx_k (i6 (iw (Int.tdiv (iw ((iw (p2 - p1)) - 1)) 2))) w0 (gx_nil (gx_thenN (hK16 _ _ (gx_block (gx_loop (fun k a w => ∃ (l21 : List Int) (x22 : Int), selfA (fun u19 => ⟨((.slice A0 p0.length c0) :: (i6 p1) :: (i6 p2) :: un 3 ((i6 p1) :: (i6 0) :: (i6 (iw (p2 - p1))) :: (i6 x22) :: undef :: (i6 p1) :: (i6 p2) :: (i6 p1) :: (i6 (iw (p2 - p1))) :: (i6 (iw (p2 - p1))) :: (i6 (iw ((iw (p2 - p1)) - 1))) :: (i6 (iw (Int.tdiv (iw ((iw (p2 - p1)) - 1)) 2))) :: dd u19 18 9 (un 29 ([])))).toArray, []⟩) a ∧ zHeap_L1 N p1 p2 k l21 x22 = some c12 ∧ St (foots [rowE .u16 31 A0 c0 p0]) w0 w [rowE .u16 31 A0 c0 l21] ∧ p0.length = l21.length) N ?_ ?_))))))))))
 exact ⟨p0, (iw (Int.tdiv (iw ((iw (p2 - p1)) - 1)) 2)), selfA_i (by kernel_rfl), hE13, hS0, rfl⟩
 rintro k23 _ w17 ⟨l21, x22, hq39, hL24, hS18, hn20⟩
 obtain ⟨u19, rfl⟩ := selfA_u hq39
 rcases k23 with _ | k23
 cases hL24
 first | rw [zHeap_L1] at hL24 | unfold zHeap_L1 at hL24
 refine gx_seq (fun K25 hK26 => gx_seq (fun K27 hK28 => gx_region (gx_k (i6 x22) w17 ?_)))
 rcases if_in hL24 with ⟨h29, hL24⟩ | ⟨h29, hL24⟩
 refine gx_v (.bool true) w17 (rbE (decide_eq_true h29)) (gx_nil (gx_thenN (hK28 _ _ (gx_yes (by kernel_rfl) (gx_pass (gx_thenN (hK26 _ _ ?_)))))))
 refine gx_seq (fun K30 hK31 => gx_block (gx_region (gx_k (.slice A0 p0.length c0) w17 (gx_k (i6 x22) w17 (gx_k (i6 (iw (p2 - p1))) w17 (gx_k (i6 p1) w17 ?_))))))
 have hP32 : St _ _ w17 ([rowE .u16 31 A0 c0 l21] ++ []) := hS18
 obtain ⟨l34, hc33, hL24⟩ := bind_in hL24
 try dsimp only at hL24
 refine gx_call (zSift_R l21 x22 (iw (p2 - p1)) p1 A0 c0 l34 w17) (by kernel_rfl) (by rw [← hn20] <;> kernel_rfl) (zSift_ok N l21 x22 (iw (p2 - p1)) p1 A0 c0 _ hc33 w17 hP32.part) ?_
 rintro _ w36 ⟨rfl, hT38, hl35⟩
 have hS37 : St _ _ w36 [rowE .u16 31 A0 c0 l34] := hP32.lendN _ hT38
 refine gx_nil (gx_blkN (gx_thenN (hK31 _ _ (gx_region (gx_k (i6 x22) w36 (gx_k (i6 (iw (x22 - 1))) w36 (gx_k (i6 (iw (x22 - 1))) w36 (gx_nil (gx_thenN ?_)))))))))
 exact ⟨k23, Nat.lt_succ_self k23, l34, (iw (x22 - 1)), selfA_i (by kernel_rfl), hL24, hS37, (hn20.trans hl35.symm)⟩
 refine gx_v (.bool false) w17 (rbE (decide_eq_false h29)) (gx_nil (gx_thenN (hK28 _ _ (gx_no (by kernel_rfl) (gx_exit (gx_thenE (gx_thenE ?_)))))))
 refine gx_blkE (gx_thenN ?_)
 exact ⟨l21, selfA_i (by kernel_rfl), (sj hL24), hS18, hn20⟩
 rintro _ w7 ⟨l11, hq73, rfl, hS8, hn10⟩
 obtain ⟨u9, rfl⟩ := selfA_u hq73
 try dsimp only at hO14
 refine gx_seq (fun K40 hK41 => gx_region (gx_k (i6 (iw (p2 - p1))) w7 (gx_k (i6 (iw ((iw (p2 - p1)) - 1))) w7 (gx_k (i6 (iw ((iw (p2 - p1)) - 1))) w7 (gx_nil (gx_thenN (hK41 _ _ (gx_block (gx_loop (fun k a w => ∃ (l46 : List Int) (x47 : Int), selfA (fun u44 => ⟨((.slice A0 p0.length c0) :: (i6 p1) :: (i6 p2) :: un 3 ((i6 p1) :: (i6 0) :: (i6 (iw (p2 - p1))) :: (u9 9) :: (i6 x47) :: (i6 p1) :: (i6 p2) :: (i6 p1) :: (i6 (iw (p2 - p1))) :: dd u9 15 12 ((i6 (iw (p2 - p1))) :: (i6 (iw ((iw (p2 - p1)) - 1))) :: dd u44 29 27 ([])))).toArray, []⟩) a ∧ zHeap_L2 N p1 k l46 x47 = some r ∧ St (foots [rowE .u16 31 A0 c0 p0]) w0 w [rowE .u16 31 A0 c0 l46] ∧ p0.length = l46.length) N ?_ ?_)))))))))
 exact ⟨l11, (iw ((iw (p2 - p1)) - 1)), selfA_i (by kernel_rfl), hO14, hS8, hn10⟩
 rintro k48 _ w42 ⟨l46, x47, hq72, hL49, hS43, hn45⟩
 obtain ⟨u44, rfl⟩ := selfA_u hq72
 rcases k48 with _ | k48
 cases hL49
 first | rw [zHeap_L2] at hL49 | unfold zHeap_L2 at hL49
 refine gx_seq (fun K50 hK51 => gx_seq (fun K52 hK53 => gx_region (gx_k (i6 x47) w42 ?_)))
 rcases if_in hL49 with ⟨h54, hL49⟩ | ⟨h54, hL49⟩
 refine gx_v (.bool true) w42 (rbE (decide_eq_true h54)) (gx_nil (gx_thenN (hK53 _ _ (gx_yes (by kernel_rfl) (gx_pass (gx_thenN (hK51 _ _ ?_)))))))
 refine gx_seq (fun K55 hK56 => gx_block (gx_seq (fun K57 hK58 => gdst (fun w => St (foots [rowE .u16 31 A0 c0 p0]) w0 w []) 20 ?_)))
 have hS61 := hS43.drew
 generalize w42.drew = w60 at hS61 ⊢
 obtain ⟨xz10_58o10_1, hxz10_58o10_2, hL49⟩ := bind_in hL49
 obtain ⟨xz10_58o14_1, hxz10_58o14_2, hL49⟩ := bind_in hL49
 obtain ⟨xz10_58o16_1, hxz10_58o16_2, hL49⟩ := bind_in hL49
 obtain ⟨lz10_58o17_3, hxz10_58o17_4, hL49⟩ := bind_in hL49
 obtain ⟨xz10_58o18_1, hxz10_58o18_2, hL49⟩ := bind_in hL49
 obtain ⟨lz10_58o19_3, hxz10_58o19_4, hL49⟩ := bind_in hL49
 refine gd_share (X := Unit) (fun _ => ⟨((.slice A0 p0.length c0) :: (i6 p1) :: (i6 p2) :: un 3 ((i6 p1) :: (i6 0) :: (i6 (iw (p2 - p1))) :: (u9 9) :: (i6 x47) :: (i6 p1) :: (i6 p2) :: (i6 p1) :: (i6 (iw (p2 - p1))) :: dd u9 15 12 ((i6 (iw (p2 - p1))) :: (i6 (iw ((iw (p2 - p1)) - 1))) :: (i6 x47) :: (.bool true) :: dd u44 31 2 ((.slice A0 p0.length c0) :: (i6 p1) :: (.slice A0 p0.length c0) :: (i6 p1) :: (i6 x47) :: (i6 (iw (p1 + x47))) :: (.slice A0 p0.length c0) :: (i6 p1) :: (i6 x47) :: (i6 (iw (p1 + x47))) :: (pI (iw (p1 + x47)) A0) :: (u6 xz10_58o10_1) :: (.slice A0 p0.length c0) :: (i6 p1) :: (pI p1 A0) :: (u6 xz10_58o14_1) :: (pI p1 A0) :: (pI (iw (p1 + x47)) A0) :: dd u44 51 5 ([]))))).toArray, []⟩) (fun _ w => St (foots [rowE .u16 31 A0 c0 p0]) w0 w [rowE .u16 31 A0 c0 lz10_58o19_3]) ?_ ?_
 rintro _ w62 hS63
 have hS63 : St _ _ w62 [rowE .u16 31 A0 c0 lz10_58o19_3] := hS63
 show WQ _ _ ⟨((.slice A0 p0.length c0) :: (i6 p1) :: (i6 p2) :: un 3 ((i6 p1) :: (i6 0) :: (i6 (iw (p2 - p1))) :: (u9 9) :: (i6 x47) :: (i6 p1) :: (i6 p2) :: (i6 p1) :: (i6 (iw (p2 - p1))) :: dd u9 15 12 ((i6 (iw (p2 - p1))) :: (i6 (iw ((iw (p2 - p1)) - 1))) :: (i6 x47) :: (.bool true) :: dd u44 31 2 ((.slice A0 p0.length c0) :: (i6 p1) :: (.slice A0 p0.length c0) :: (i6 p1) :: (i6 x47) :: (i6 (iw (p1 + x47))) :: (.slice A0 p0.length c0) :: (i6 p1) :: (i6 x47) :: (i6 (iw (p1 + x47))) :: (pI (iw (p1 + x47)) A0) :: (u6 xz10_58o10_1) :: (.slice A0 p0.length c0) :: (i6 p1) :: (pI p1 A0) :: (u6 xz10_58o14_1) :: (pI p1 A0) :: (pI (iw (p1 + x47)) A0) :: dd u44 51 5 ([]))))).toArray, []⟩ _
 refine gx_thenN (hK58 _ _ (gx_region (gx_k (.slice A0 p0.length c0) w62 (gx_k (i6 0) w62 (gx_k (i6 x47) w62 (gx_k (i6 p1) w62 ?_))))))
 have hP64 : St _ _ w62 ([rowE .u16 31 A0 c0 lz10_58o19_3] ++ []) := hS63
 obtain ⟨l66, hc65, hL49⟩ := bind_in hL49
 try dsimp only at hL49
 refine gx_call (zSift_R lz10_58o19_3 (0 : Int) x47 p1 A0 c0 l66 w62) (by kernel_rfl) (by rw [← ((hn45.trans (setx_len hxz10_58o17_4).symm).trans (setx_len hxz10_58o19_4).symm)] <;> kernel_rfl) (zSift_ok N lz10_58o19_3 (0 : Int) x47 p1 A0 c0 _ hc65 w62 hP64.part) ?_
 rintro _ w68 ⟨rfl, hT70, hl67⟩
 have hS69 : St _ _ w68 [rowE .u16 31 A0 c0 l66] := hP64.lendN _ hT70
 refine gx_nil (gx_blkN (gx_thenN (hK56 _ _ (gx_region (gx_k (i6 x47) w68 (gx_k (i6 (iw (x47 - 1))) w68 (gx_k (i6 (iw (x47 - 1))) w68 (gx_nil (gx_thenN ?_)))))))))
 exact ⟨k48, Nat.lt_succ_self k48, l66, (iw (x47 - 1)), selfA_i (by kernel_rfl), hL49, hS69, (((hn45.trans (setx_len hxz10_58o17_4).symm).trans (setx_len hxz10_58o19_4).symm).trans hl67.symm)⟩
 intro K71
 refine gv1 0 33 (.slice A0 p0.length c0) rfl (hS61.pick [] rfl rfl) (gv1 1 34 (i6 p1) rfl (hS61.pick [] rfl rfl) (gv1 2 35 (.slice A0 p0.length c0) rfl (hS61.pick [] rfl rfl) (gv1 3 36 (i6 p1) rfl (hS61.pick [] rfl rfl) (gv1 4 37 (i6 x47) rfl (hS61.pick [] rfl rfl) (gv1 5 38 (i6 (iw (p1 + x47))) rfl (hS61.pick [] rfl rfl) (gv1 6 39 (.slice A0 p0.length c0) rfl (hS61.pick [] rfl rfl) (gv1 7 40 (i6 p1) rfl (hS61.pick [] rfl rfl) ?_)))))))
 refine gv1 8 41 (i6 x47) rfl (hS61.pick [] rfl rfl) (gv1 9 42 (i6 (iw (p1 + x47))) rfl (hS61.pick [] rfl rfl) (gu1 10 43 (pI (iw (p1 + x47)) A0) rfl (hS61.pick [] rfl rfl) (fun w hSw => riy 31 .i64 hxz10_58o10_2 hn45 (((hS61.row 0 rfl).1))) (gv1 12 45 (.slice A0 p0.length c0) rfl (hS61.pick [] rfl rfl) (gv1 13 46 (i6 p1) rfl (hS61.pick [] rfl rfl) (gu1 14 47 (pI p1 A0) rfl (hS61.pick [] rfl rfl) (fun w hSw => riy 31 .i64 hxz10_58o14_2 hn45 (((hS61.row 0 rfl).1))) (gd_fork2 11 15 ⟨some 44, _, _, _, _, _⟩ ⟨some 48, _, _, _, _, _⟩ rfl rfl ?_ ?_))))))
 refine gfR 11 ⟨some 44, _, _, _, _, _⟩ (R := fun v w => v = u6 xz10_58o10_1 ∧ w60 = w) rfl ⟨_, _, rlx (hS61.row 0 rfl).1 hxz10_58o10_2, rfl, rfl⟩ ?_
 rintro _ _ ⟨rfl, rfl⟩
 refine ⟨(hS61.pick [] rfl rfl), gdR 15 ⟨some 48, _, _, _, _, _⟩ (R := fun v w => v = u6 xz10_58o14_1 ∧ w60 = w) rfl ⟨_, _, rlx (hS61.row 0 rfl).1 hxz10_58o14_2, rfl, rfl⟩ ?_⟩
 rintro _ _ ⟨rfl, rfl⟩
 refine ⟨(hS61.pick [] rfl rfl), gu1 16 49 (pI p1 A0) rfl (hS61.pick [] rfl rfl) (fun w hSw => riy 31 .i64 hxz10_58o16_2 hn45 (((hS61.row 0 rfl).1))) (gdS 17 ⟨none, _, _, _, _, _⟩ rfl (st_storeix rfl (by kernel_rfl) (by kernel_rfl) (fun _ => by kernel_rfl) hS61 0 rfl hxz10_58o17_4) ?_)⟩
 rintro wz10_58o17_1 hSz10_58o17_2
 have hSz10_58o17_2 : St _ _ wz10_58o17_1 [rowE .u16 31 A0 c0 lz10_58o17_3] := hSz10_58o17_2
 refine ⟨(hSz10_58o17_2.pick [] rfl rfl), gu1 18 50 (pI (iw (p1 + x47)) A0) rfl (hSz10_58o17_2.pick [] rfl rfl) (fun w hSw => riy 31 .i64 hxz10_58o18_2 (hn45.trans (setx_len hxz10_58o17_4).symm) (((hSz10_58o17_2.row 0 rfl).1))) (gdSz 19 ⟨none, _, _, _, _, _⟩ rfl (st_storeix rfl (by kernel_rfl) (by kernel_rfl) (fun _ => by kernel_rfl) hSz10_58o17_2 0 rfl hxz10_58o19_4) ?_)⟩
 rintro wz10_58o19_1 hSz10_58o19_2
 have hSz10_58o19_2 : St _ _ wz10_58o19_1 [rowE .u16 31 A0 c0 lz10_58o19_3] := hSz10_58o19_2
 exact gd_meet (by kernel_rfl) (by kernel_rfl) (K71 () _ hSz10_58o19_2)
 refine gfR 15 ⟨some 48, _, _, _, _, _⟩ (R := fun v w => v = u6 xz10_58o14_1 ∧ w60 = w) rfl ⟨_, _, rlx (hS61.row 0 rfl).1 hxz10_58o14_2, rfl, rfl⟩ ?_
 rintro _ _ ⟨rfl, rfl⟩
 refine ⟨(hS61.pick [] rfl rfl), gdR 11 ⟨some 44, _, _, _, _, _⟩ (R := fun v w => v = u6 xz10_58o10_1 ∧ w60 = w) rfl ⟨_, _, rlx (hS61.row 0 rfl).1 hxz10_58o10_2, rfl, rfl⟩ ?_⟩
 rintro _ _ ⟨rfl, rfl⟩
 refine ⟨(hS61.pick [] rfl rfl), gu1 16 49 (pI p1 A0) rfl (hS61.pick [] rfl rfl) (fun w hSw => riy 31 .i64 hxz10_58o16_2 hn45 (((hS61.row 0 rfl).1))) (gdS 17 ⟨none, _, _, _, _, _⟩ rfl (st_storeix rfl (by kernel_rfl) (by kernel_rfl) (fun _ => by kernel_rfl) hS61 0 rfl hxz10_58o17_4) ?_)⟩
 rintro wz10_58o17_1 hSz10_58o17_2
 have hSz10_58o17_2 : St _ _ wz10_58o17_1 [rowE .u16 31 A0 c0 lz10_58o17_3] := hSz10_58o17_2
 refine ⟨(hSz10_58o17_2.pick [] rfl rfl), gu1 18 50 (pI (iw (p1 + x47)) A0) rfl (hSz10_58o17_2.pick [] rfl rfl) (fun w hSw => riy 31 .i64 hxz10_58o18_2 (hn45.trans (setx_len hxz10_58o17_4).symm) (((hSz10_58o17_2.row 0 rfl).1))) (gdSz 19 ⟨none, _, _, _, _, _⟩ rfl (st_storeix rfl (by kernel_rfl) (by kernel_rfl) (fun _ => by kernel_rfl) hSz10_58o17_2 0 rfl hxz10_58o19_4) ?_)⟩
 rintro wz10_58o19_1 hSz10_58o19_2
 have hSz10_58o19_2 : St _ _ wz10_58o19_1 [rowE .u16 31 A0 c0 lz10_58o19_3] := hSz10_58o19_2
 exact gd_meet (by kernel_rfl) (by kernel_rfl) (K71 () _ hSz10_58o19_2)
 refine gx_v (.bool false) w42 (rbE (decide_eq_false h54)) (gx_nil (gx_thenN (hK53 _ _ (gx_no (by kernel_rfl) (gx_exit (gx_thenE (gx_thenE ?_)))))))
 refine gx_blkE ?_
 obtain rfl := sj hL49
 exact gx_finN (.tuple #[]) (by kernel_rfl) (by kernel_rfl) ⟨_, rfl, rfl, hS43, (hn45).symm⟩
def zBreak_L1 (N : Nat) (p1 : Int) (p2 : Int) (x16 : Int) : Nat → Int → (List Int) → Int → Option (List Int)
 | 0, _, _, _ => none
 | k29+1, x25, l27, x28 => (if x28 ≤ (IntKind.i64.wrap ((IntKind.i64.wrap (p1 + (IntKind.i64.wrap ((IntKind.i64.wrap (Int.tdiv (IntKind.i64.wrap (p2 - p1)) 4)) * 2)))) + 1)) then ((zXor N x25).bind fun (x43, x42) => (((if (IntKind.i64.wrap (iand .u64 x43 (IntKind.u64.wrap (x16 - 1)))) ≥ (IntKind.i64.wrap (p2 - p1)) then some ((IntKind.i64.wrap ((IntKind.i64.wrap (iand .u64 x43 (IntKind.u64.wrap (x16 - 1)))) - (IntKind.i64.wrap (p2 - p1))))) else some ((IntKind.i64.wrap (iand .u64 x43 (IntKind.u64.wrap (x16 - 1)))))) : Option (Int)).bind fun x50 => ((ix l27 (IntKind.i64.wrap (p1 + x50))).bind fun xz10_56o10_1 => ((ix l27 x28).bind fun xz10_56o14_1 => ((ix l27 x28).bind fun _xz10_56o16_1 => ((setx l27 x28 xz10_56o10_1).bind fun lz10_56o17_3 => ((ix lz10_56o17_3 (IntKind.i64.wrap (p1 + x50))).bind fun _xz10_56o18_1 => ((setx lz10_56o17_3 (IntKind.i64.wrap (p1 + x50)) xz10_56o14_1).bind fun lz10_56o19_3 => zBreak_L1 N p1 p2 x16 k29 x42 lz10_56o19_3 (IntKind.i64.wrap (x28 + 1)))))))))) else some l27)
def zBreak (N : Nat) (p0 : List Int) (p1 : Int) (p2 : Int) : Option (List Int) :=
 (if (IntKind.i64.wrap (p2 - p1)) ≥ 8 then ((zPow N (IntKind.i64.wrap (p2 - p1))).bind fun x16 => zBreak_L1 N p1 p2 x16 N (IntKind.u64.wrap (IntKind.i64.wrap (p2 - p1))) p0 (IntKind.i64.wrap ((IntKind.i64.wrap (p1 + (IntKind.i64.wrap ((IntKind.i64.wrap (Int.tdiv (IntKind.i64.wrap (p2 - p1)) 4)) * 2)))) - 1))) else some p0)
def zBreak_R (p0 : List Int) (p1 : Int) (p2 : Int) (A0 : Option Addr) (c0 : Nat) (r : List Int) (w0 : World) (v : Value) (w : World) : Prop := v = .tuple #[] ∧ St (foots [rowE .u16 31 A0 c0 p0]) w0 w [rowE .u16 31 A0 c0 r] ∧ r.length = p0.length
theorem zBreak_ok (N : Nat) (p0 : List Int) (p1 : Int) (p2 : Int) (A0 : Option Addr) (c0 : Nat) (r : List Int) (hF : zBreak N p0 p1 p2 = some r) (w0 : World) (hl : St (foots [rowE .u16 31 A0 c0 p0]) w0 w0 [rowE .u16 31 A0 c0 p0]) :
  Calls Try.prog 123 #[.slice A0 p0.length c0, .int .i64 p1, .int .i64 p2] w0 fun e w => ∃ v, e = .returned v ∧ zBreak_R p0 p1 p2 A0 c0 r w0 v w := by
 have hS0 := hl
 unfold zBreak at hF
 refine calls_of Try.func123 rfl ⟨((.slice A0 p0.length c0) :: (i6 p1) :: (i6 p2) :: un 62 ([])).toArray, []⟩ (by kernel_rfl) (gx_seq (fun K1 hK2 => gx_region (gx_k (i6 p2) w0 (gx_k (i6 p1) w0 (gx_k (i6 (iw (p2 - p1))) w0 (gx_k (i6 (iw (p2 - p1))) w0 (gx_nil (gx_thenN (hK2 _ _ (gx_seq (fun K3 hK4 => ?_)))))))))))
 refine gx_region (gx_k (i6 (iw (p2 - p1))) w0 ?_)
 rcases if_in hF with ⟨h5, hF⟩ | ⟨h5, hF⟩
 refine gx_v (.bool true) w0 (rbE (decide_eq_true h5)) (gx_nil (gx_thenN (hK4 _ _ (gx_yes (by kernel_rfl) (gx_seq (fun K6 hK7 => gx_region (gx_k (i6 (iw (p2 - p1))) w0 (gx_k (.int .u64 (IntKind.u64.wrap (iw (p2 - p1)))) w0 ?_))))))))
 refine gx_r (st_boxed [.int .u64 0] 214 hS0 (by kernel_rfl)) ?_
 rintro _ w8 ⟨rfl, hS9⟩
 have hS9 : St _ _ w8 [rowE .u16 31 A0 c0 p0, boxE w0.heap.size [.int .u64 0] 214] := hS9
 refine gx_s (st_store (j := 0) (v := (.int .u64 (IntKind.u64.wrap (iw (p2 - p1))))) rfl (by kernel_rfl) (by kernel_rfl) rfl (fun _ => by kernel_rfl) hS9 1 rfl (by show 0 < 1; decide)) ?_
 rintro w10 hS11
 have hS11 : St _ _ w10 [rowE .u16 31 A0 c0 p0, boxE w0.heap.size [.int .u64 (IntKind.u64.wrap (iw (p2 - p1)))] 214] := hS11
 refine gx_nil (gx_thenN (hK7 _ _ (gx_seq (fun K12 hK13 => gx_region (gx_k (i6 (iw (p2 - p1))) w10 ?_)))))
 have hP14 : St _ _ w10 ([] ++ [rowE .u16 31 A0 c0 p0, boxE w0.heap.size [.int .u64 (IntKind.u64.wrap (iw (p2 - p1)))] 214]) := hS11
 obtain ⟨x16, hc15, hF⟩ := bind_in hF
 try dsimp only at hF
 refine gx_c _ (zPow_ok N (iw (p2 - p1)) _ hc15 w10 ) ?_
 rintro _ w17 ⟨rfl, hT19⟩
 have hS18 : St _ _ w17 [rowE .u16 31 A0 c0 p0, boxE w0.heap.size [.int .u64 (IntKind.u64.wrap (iw (p2 - p1)))] 214] := hS11.take _ hT19
 refine gx_k (.int .u64 x16) w17 (gx_nil (gx_thenN (hK13 _ _ (gx_seq (fun K20 hK21 => gx_region (gx_k (i6 p1) w17 (gx_k (i6 (iw (p2 - p1))) w17 (gx_k (i6 (iw (Int.tdiv (iw (p2 - p1)) 4))) w17 (gx_k (i6 (iw ((iw (Int.tdiv (iw (p2 - p1)) 4)) * 2))) w17 (gx_k (i6 (iw (p1 + (iw ((iw (Int.tdiv (iw (p2 - p1)) 4)) * 2))))) w17 (gx_k (i6 (iw ((iw (p1 + (iw ((iw (Int.tdiv (iw (p2 - p1)) 4)) * 2)))) - 1))) w17 (gx_k (i6 (iw ((iw (p1 + (iw ((iw (Int.tdiv (iw (p2 - p1)) 4)) * 2)))) - 1))) w17 (gx_nil ?_)))))))))))))
 refine gx_thenN (hK21 _ _ (gx_block (gx_loop (fun k a w => ∃ (x25 : Int) (l27 : List Int) (x28 : Int), selfA (fun u24 => ⟨((.slice A0 p0.length c0) :: (i6 p1) :: (i6 p2) :: un 3 ((i6 (iw (p2 - p1))) :: (vP w0.heap.size) :: (.int .u64 x16) :: (i6 x28) :: (u24 10) :: (i6 p2) :: (i6 p1) :: (i6 (iw (p2 - p1))) :: (i6 (iw (p2 - p1))) :: (.bool true) :: (i6 (iw (p2 - p1))) :: (.int .u64 (IntKind.u64.wrap (iw (p2 - p1)))) :: (i6 (iw (p2 - p1))) :: (.int .u64 x16) :: (i6 p1) :: (i6 (iw (p2 - p1))) :: (i6 (iw (Int.tdiv (iw (p2 - p1)) 4))) :: (i6 (iw ((iw (Int.tdiv (iw (p2 - p1)) 4)) * 2))) :: (i6 (iw (p1 + (iw ((iw (Int.tdiv (iw (p2 - p1)) 4)) * 2))))) :: (i6 (iw ((iw (p1 + (iw ((iw (Int.tdiv (iw (p2 - p1)) 4)) * 2)))) - 1))) :: dd u24 26 39 ([]))).toArray, []⟩) a ∧ zBreak_L1 N p1 p2 x16 k x25 l27 x28 = some r ∧ St (foots [rowE .u16 31 A0 c0 p0]) w0 w [boxE w0.heap.size [.int .u64 x25] 214, rowE .u16 31 A0 c0 l27] ∧ p0.length = l27.length) N ?_ ?_)))
 exact ⟨(IntKind.u64.wrap (iw (p2 - p1))), p0, (iw ((iw (p1 + (iw ((iw (Int.tdiv (iw (p2 - p1)) 4)) * 2)))) - 1)), selfA_i (by kernel_rfl), hF, (hS18.pick [1, 0] rfl rfl), rfl⟩
 rintro k29 _ w22 ⟨x25, l27, x28, hq64, hL30, hS23, hn26⟩
 obtain ⟨u24, rfl⟩ := selfA_u hq64
 rcases k29 with _ | k29
 cases hL30
 first | rw [zBreak_L1] at hL30 | unfold zBreak_L1 at hL30
 refine gx_seq (fun K31 hK32 => gx_seq (fun K33 hK34 => gx_region (gx_k (i6 x28) w22 (gx_k (i6 p1) w22 (gx_k (i6 (iw (p2 - p1))) w22 (gx_k (i6 (iw (Int.tdiv (iw (p2 - p1)) 4))) w22 (gx_k (i6 (iw ((iw (Int.tdiv (iw (p2 - p1)) 4)) * 2))) w22 (gx_k (i6 (iw (p1 + (iw ((iw (Int.tdiv (iw (p2 - p1)) 4)) * 2))))) w22 (gx_k (i6 (iw ((iw (p1 + (iw ((iw (Int.tdiv (iw (p2 - p1)) 4)) * 2)))) + 1))) w22 ?_)))))))))
 rcases if_in hL30 with ⟨h35, hL30⟩ | ⟨h35, hL30⟩
 refine gx_v (.bool true) w22 (rbE (decide_eq_true h35)) (gx_nil (gx_thenN (hK34 _ _ (gx_yes (by kernel_rfl) (gx_pass (gx_thenN (hK32 _ _ ?_)))))))
 refine gx_seq (fun K36 hK37 => gx_block (gx_seq (fun K38 hK39 => gx_region ?_)))
 have hP40 : St _ _ w22 ([boxE w0.heap.size [.int .u64 x25] 214] ++ [rowE .u16 31 A0 c0 l27]) := hS23
 obtain ⟨⟨x43, x42⟩, hc41, hL30⟩ := bind_in hL30
 try dsimp only at hL30
 refine gx_c _ (zXor_ok N x25 w0.heap.size _ hc41 w22 hP40.part) ?_
 rintro _ w44 ⟨rfl, hT46⟩
 have hS45 : St _ _ w44 [rowE .u16 31 A0 c0 l27, boxE w0.heap.size [.int .u64 x42] 214] := hP40.lendN _ hT46
 refine gx_k (.int .u64 x16) w44 (gx_k (.int .u64 (IntKind.u64.wrap (x16 - 1))) w44 (gx_k (.int .u64 (iand .u64 x43 (IntKind.u64.wrap (x16 - 1)))) w44 (gx_k (i6 (iw (iand .u64 x43 (IntKind.u64.wrap (x16 - 1))))) w44 (gx_k (i6 (iw (iand .u64 x43 (IntKind.u64.wrap (x16 - 1))))) w44 (gx_nil (gx_thenN (hK39 _ _ ?_)))))))
 obtain ⟨c51, hE52, hO53⟩ := bind_in hL30
 refine gx_cut (fun a w => ∃ (x50 : Int), selfA (fun u49 => ⟨((.slice A0 p0.length c0) :: (i6 p1) :: (i6 p2) :: un 3 ((i6 (iw (p2 - p1))) :: (vP w0.heap.size) :: (.int .u64 x16) :: (i6 x28) :: (i6 x50) :: (i6 p2) :: (i6 p1) :: (i6 (iw (p2 - p1))) :: (i6 (iw (p2 - p1))) :: (.bool true) :: (i6 (iw (p2 - p1))) :: (.int .u64 (IntKind.u64.wrap (iw (p2 - p1)))) :: (i6 (iw (p2 - p1))) :: (.int .u64 x16) :: (i6 p1) :: (i6 (iw (p2 - p1))) :: (i6 (iw (Int.tdiv (iw (p2 - p1)) 4))) :: (i6 (iw ((iw (Int.tdiv (iw (p2 - p1)) 4)) * 2))) :: (i6 (iw (p1 + (iw ((iw (Int.tdiv (iw (p2 - p1)) 4)) * 2))))) :: (i6 (iw ((iw (p1 + (iw ((iw (Int.tdiv (iw (p2 - p1)) 4)) * 2)))) - 1))) :: (i6 x28) :: (i6 p1) :: (i6 (iw (p2 - p1))) :: (i6 (iw (Int.tdiv (iw (p2 - p1)) 4))) :: (i6 (iw ((iw (Int.tdiv (iw (p2 - p1)) 4)) * 2))) :: (i6 (iw (p1 + (iw ((iw (Int.tdiv (iw (p2 - p1)) 4)) * 2))))) :: (i6 (iw ((iw (p1 + (iw ((iw (Int.tdiv (iw (p2 - p1)) 4)) * 2)))) + 1))) :: (.bool true) :: dd u24 34 2 ((.int .u64 x43) :: (.int .u64 x16) :: (.int .u64 (IntKind.u64.wrap (x16 - 1))) :: (.int .u64 (iand .u64 x43 (IntKind.u64.wrap (x16 - 1)))) :: (i6 (iw (iand .u64 x43 (IntKind.u64.wrap (x16 - 1))))) :: dd u49 41 6 (dd u24 47 18 ([]))))).toArray, []⟩) a ∧ x50 = c51 ∧ St (foots [rowE .u16 31 A0 c0 p0]) w0 w [boxE w0.heap.size [.int .u64 x42] 214, rowE .u16 31 A0 c0 l27]) ?_ ?_
 refine gx_seq (fun K54 hK55 => gx_region (gx_k (i6 (iw (iand .u64 x43 (IntKind.u64.wrap (x16 - 1))))) w44 (gx_k (i6 (iw (p2 - p1))) w44 ?_)))
 rcases if_in hE52 with ⟨h56, hE52⟩ | ⟨h56, hE52⟩
 refine gx_v (.bool true) w44 (rbE (decide_eq_true h56)) (gx_nil (gx_thenN (hK55 _ _ (gx_yes (by kernel_rfl) (gx_region (gx_k (i6 (iw (iand .u64 x43 (IntKind.u64.wrap (x16 - 1))))) w44 (gx_k (i6 (iw (p2 - p1))) w44 (gx_k (i6 (iw ((iw (iand .u64 x43 (IntKind.u64.wrap (x16 - 1)))) - (iw (p2 - p1))))) w44 (gx_k (i6 (iw ((iw (iand .u64 x43 (IntKind.u64.wrap (x16 - 1)))) - (iw (p2 - p1))))) w44 (gx_nil ?_))))))))))
 refine gx_thenN ?_
 exact ⟨(iw ((iw (iand .u64 x43 (IntKind.u64.wrap (x16 - 1)))) - (iw (p2 - p1)))), selfA_i (by kernel_rfl), (sj hE52), (hS45.pick [1, 0] rfl rfl)⟩
 refine gx_v (.bool false) w44 (rbE (decide_eq_false h56)) (gx_nil (gx_thenN (hK55 _ _ (gx_no (by kernel_rfl) (gx_pass (gx_thenN ?_))))))
 exact ⟨(iw (iand .u64 x43 (IntKind.u64.wrap (x16 - 1)))), selfA_i (by kernel_rfl), (sj hE52), (hS45.pick [1, 0] rfl rfl)⟩
 rintro _ w47 ⟨x50, hq63, rfl, hS48⟩
 obtain ⟨u49, rfl⟩ := selfA_u hq63
 try dsimp only at hO53
 refine gdst (fun w => St (foots [rowE .u16 31 A0 c0 p0]) w0 w [boxE w0.heap.size [.int .u64 x42] 214]) 20 ?_
 have hS59 := hS48.drew
 generalize w47.drew = w58 at hS59 ⊢
 obtain ⟨xz10_56o10_1, hxz10_56o10_2, hO53⟩ := bind_in hO53
 obtain ⟨xz10_56o14_1, hxz10_56o14_2, hO53⟩ := bind_in hO53
 obtain ⟨xz10_56o16_1, hxz10_56o16_2, hO53⟩ := bind_in hO53
 obtain ⟨lz10_56o17_3, hxz10_56o17_4, hO53⟩ := bind_in hO53
 obtain ⟨xz10_56o18_1, hxz10_56o18_2, hO53⟩ := bind_in hO53
 obtain ⟨lz10_56o19_3, hxz10_56o19_4, hO53⟩ := bind_in hO53
 refine gd_share (X := Unit) (fun _ => ⟨((.slice A0 p0.length c0) :: (i6 p1) :: (i6 p2) :: un 3 ((i6 (iw (p2 - p1))) :: (vP w0.heap.size) :: (.int .u64 x16) :: (i6 x28) :: (i6 x50) :: (i6 p2) :: (i6 p1) :: (i6 (iw (p2 - p1))) :: (i6 (iw (p2 - p1))) :: (.bool true) :: (i6 (iw (p2 - p1))) :: (.int .u64 (IntKind.u64.wrap (iw (p2 - p1)))) :: (i6 (iw (p2 - p1))) :: (.int .u64 x16) :: (i6 p1) :: (i6 (iw (p2 - p1))) :: (i6 (iw (Int.tdiv (iw (p2 - p1)) 4))) :: (i6 (iw ((iw (Int.tdiv (iw (p2 - p1)) 4)) * 2))) :: (i6 (iw (p1 + (iw ((iw (Int.tdiv (iw (p2 - p1)) 4)) * 2))))) :: (i6 (iw ((iw (p1 + (iw ((iw (Int.tdiv (iw (p2 - p1)) 4)) * 2)))) - 1))) :: (i6 x28) :: (i6 p1) :: (i6 (iw (p2 - p1))) :: (i6 (iw (Int.tdiv (iw (p2 - p1)) 4))) :: (i6 (iw ((iw (Int.tdiv (iw (p2 - p1)) 4)) * 2))) :: (i6 (iw (p1 + (iw ((iw (Int.tdiv (iw (p2 - p1)) 4)) * 2))))) :: (i6 (iw ((iw (p1 + (iw ((iw (Int.tdiv (iw (p2 - p1)) 4)) * 2)))) + 1))) :: (.bool true) :: dd u24 34 2 ((.int .u64 x43) :: (.int .u64 x16) :: (.int .u64 (IntKind.u64.wrap (x16 - 1))) :: (.int .u64 (iand .u64 x43 (IntKind.u64.wrap (x16 - 1)))) :: (i6 (iw (iand .u64 x43 (IntKind.u64.wrap (x16 - 1))))) :: dd u49 41 6 ((.slice A0 p0.length c0) :: (i6 x28) :: (.slice A0 p0.length c0) :: (i6 p1) :: (i6 x50) :: (i6 (iw (p1 + x50))) :: (.slice A0 p0.length c0) :: (i6 p1) :: (i6 x50) :: (i6 (iw (p1 + x50))) :: (pI (iw (p1 + x50)) A0) :: (u6 xz10_56o10_1) :: (.slice A0 p0.length c0) :: (i6 x28) :: (pI x28 A0) :: (u6 xz10_56o14_1) :: (pI x28 A0) :: (pI (iw (p1 + x50)) A0) :: [])))).toArray, []⟩) (fun _ w => St (foots [rowE .u16 31 A0 c0 p0]) w0 w [boxE w0.heap.size [.int .u64 x42] 214, rowE .u16 31 A0 c0 lz10_56o19_3]) ?_ ?_
 rintro _ w60 hS61
 have hS61 : St _ _ w60 [boxE w0.heap.size [.int .u64 x42] 214, rowE .u16 31 A0 c0 lz10_56o19_3] := hS61
 show WQ _ _ ⟨((.slice A0 p0.length c0) :: (i6 p1) :: (i6 p2) :: un 3 ((i6 (iw (p2 - p1))) :: (vP w0.heap.size) :: (.int .u64 x16) :: (i6 x28) :: (i6 x50) :: (i6 p2) :: (i6 p1) :: (i6 (iw (p2 - p1))) :: (i6 (iw (p2 - p1))) :: (.bool true) :: (i6 (iw (p2 - p1))) :: (.int .u64 (IntKind.u64.wrap (iw (p2 - p1)))) :: (i6 (iw (p2 - p1))) :: (.int .u64 x16) :: (i6 p1) :: (i6 (iw (p2 - p1))) :: (i6 (iw (Int.tdiv (iw (p2 - p1)) 4))) :: (i6 (iw ((iw (Int.tdiv (iw (p2 - p1)) 4)) * 2))) :: (i6 (iw (p1 + (iw ((iw (Int.tdiv (iw (p2 - p1)) 4)) * 2))))) :: (i6 (iw ((iw (p1 + (iw ((iw (Int.tdiv (iw (p2 - p1)) 4)) * 2)))) - 1))) :: (i6 x28) :: (i6 p1) :: (i6 (iw (p2 - p1))) :: (i6 (iw (Int.tdiv (iw (p2 - p1)) 4))) :: (i6 (iw ((iw (Int.tdiv (iw (p2 - p1)) 4)) * 2))) :: (i6 (iw (p1 + (iw ((iw (Int.tdiv (iw (p2 - p1)) 4)) * 2))))) :: (i6 (iw ((iw (p1 + (iw ((iw (Int.tdiv (iw (p2 - p1)) 4)) * 2)))) + 1))) :: (.bool true) :: dd u24 34 2 ((.int .u64 x43) :: (.int .u64 x16) :: (.int .u64 (IntKind.u64.wrap (x16 - 1))) :: (.int .u64 (iand .u64 x43 (IntKind.u64.wrap (x16 - 1)))) :: (i6 (iw (iand .u64 x43 (IntKind.u64.wrap (x16 - 1))))) :: dd u49 41 6 ((.slice A0 p0.length c0) :: (i6 x28) :: (.slice A0 p0.length c0) :: (i6 p1) :: (i6 x50) :: (i6 (iw (p1 + x50))) :: (.slice A0 p0.length c0) :: (i6 p1) :: (i6 x50) :: (i6 (iw (p1 + x50))) :: (pI (iw (p1 + x50)) A0) :: (u6 xz10_56o10_1) :: (.slice A0 p0.length c0) :: (i6 x28) :: (pI x28 A0) :: (u6 xz10_56o14_1) :: (pI x28 A0) :: (pI (iw (p1 + x50)) A0) :: [])))).toArray, []⟩ _
 refine gx_blkN (gx_thenN (hK37 _ _ (gx_region (gx_k (i6 x28) w60 (gx_k (i6 (iw (x28 + 1))) w60 (gx_k (i6 (iw (x28 + 1))) w60 (gx_nil (gx_thenN ?_))))))))
 exact ⟨k29, Nat.lt_succ_self k29, x42, lz10_56o19_3, (iw (x28 + 1)), selfA_i (by kernel_rfl), hO53, hS61, ((hn26.trans (setx_len hxz10_56o17_4).symm).trans (setx_len hxz10_56o19_4).symm)⟩
 intro K62
 refine gv1 0 47 (.slice A0 p0.length c0) rfl (hS59.pick [0] rfl rfl) (gv1 1 48 (i6 x28) rfl (hS59.pick [0] rfl rfl) (gv1 2 49 (.slice A0 p0.length c0) rfl (hS59.pick [0] rfl rfl) (gv1 3 50 (i6 p1) rfl (hS59.pick [0] rfl rfl) (gv1 4 51 (i6 x50) rfl (hS59.pick [0] rfl rfl) (gv1 5 52 (i6 (iw (p1 + x50))) rfl (hS59.pick [0] rfl rfl) (gv1 6 53 (.slice A0 p0.length c0) rfl (hS59.pick [0] rfl rfl) (gv1 7 54 (i6 p1) rfl (hS59.pick [0] rfl rfl) ?_)))))))
 refine gv1 8 55 (i6 x50) rfl (hS59.pick [0] rfl rfl) (gv1 9 56 (i6 (iw (p1 + x50))) rfl (hS59.pick [0] rfl rfl) (gu1 10 57 (pI (iw (p1 + x50)) A0) rfl (hS59.pick [0] rfl rfl) (fun w hSw => riy 31 .i64 hxz10_56o10_2 hn26 (((hS59.row 1 rfl).1))) (gv1 12 59 (.slice A0 p0.length c0) rfl (hS59.pick [0] rfl rfl) (gv1 13 60 (i6 x28) rfl (hS59.pick [0] rfl rfl) (gu1 14 61 (pI x28 A0) rfl (hS59.pick [0] rfl rfl) (fun w hSw => riy 31 .i64 hxz10_56o14_2 hn26 (((hS59.row 1 rfl).1))) (gd_fork2 11 15 ⟨some 58, _, _, _, _, _⟩ ⟨some 62, _, _, _, _, _⟩ rfl rfl ?_ ?_))))))
 refine gfR 11 ⟨some 58, _, _, _, _, _⟩ (R := fun v w => v = u6 xz10_56o10_1 ∧ w58 = w) rfl ⟨_, _, rlx (hS59.row 1 rfl).1 hxz10_56o10_2, rfl, rfl⟩ ?_
 rintro _ _ ⟨rfl, rfl⟩
 refine ⟨(hS59.pick [0] rfl rfl), gdR 15 ⟨some 62, _, _, _, _, _⟩ (R := fun v w => v = u6 xz10_56o14_1 ∧ w58 = w) rfl ⟨_, _, rlx (hS59.row 1 rfl).1 hxz10_56o14_2, rfl, rfl⟩ ?_⟩
 rintro _ _ ⟨rfl, rfl⟩
 refine ⟨(hS59.pick [0] rfl rfl), gu1 16 63 (pI x28 A0) rfl (hS59.pick [0] rfl rfl) (fun w hSw => riy 31 .i64 hxz10_56o16_2 hn26 (((hS59.row 1 rfl).1))) (gdS 17 ⟨none, _, _, _, _, _⟩ rfl (st_storeix rfl (by kernel_rfl) (by kernel_rfl) (fun _ => by kernel_rfl) hS59 1 rfl hxz10_56o17_4) ?_)⟩
 rintro wz10_56o17_1 hSz10_56o17_2
 have hSz10_56o17_2 : St _ _ wz10_56o17_1 [boxE w0.heap.size [.int .u64 x42] 214, rowE .u16 31 A0 c0 lz10_56o17_3] := hSz10_56o17_2
 refine ⟨(hSz10_56o17_2.pick [0] rfl rfl), gu1 18 64 (pI (iw (p1 + x50)) A0) rfl (hSz10_56o17_2.pick [0] rfl rfl) (fun w hSw => riy 31 .i64 hxz10_56o18_2 (hn26.trans (setx_len hxz10_56o17_4).symm) (((hSz10_56o17_2.row 1 rfl).1))) (gdSz 19 ⟨none, _, _, _, _, _⟩ rfl (st_storeix rfl (by kernel_rfl) (by kernel_rfl) (fun _ => by kernel_rfl) hSz10_56o17_2 1 rfl hxz10_56o19_4) ?_)⟩
 rintro wz10_56o19_1 hSz10_56o19_2
 have hSz10_56o19_2 : St _ _ wz10_56o19_1 [boxE w0.heap.size [.int .u64 x42] 214, rowE .u16 31 A0 c0 lz10_56o19_3] := hSz10_56o19_2
 exact gd_meet (by kernel_rfl) (by kernel_rfl) (K62 () _ hSz10_56o19_2)
 refine gfR 15 ⟨some 62, _, _, _, _, _⟩ (R := fun v w => v = u6 xz10_56o14_1 ∧ w58 = w) rfl ⟨_, _, rlx (hS59.row 1 rfl).1 hxz10_56o14_2, rfl, rfl⟩ ?_
 rintro _ _ ⟨rfl, rfl⟩
 refine ⟨(hS59.pick [0] rfl rfl), gdR 11 ⟨some 58, _, _, _, _, _⟩ (R := fun v w => v = u6 xz10_56o10_1 ∧ w58 = w) rfl ⟨_, _, rlx (hS59.row 1 rfl).1 hxz10_56o10_2, rfl, rfl⟩ ?_⟩
 rintro _ _ ⟨rfl, rfl⟩
 refine ⟨(hS59.pick [0] rfl rfl), gu1 16 63 (pI x28 A0) rfl (hS59.pick [0] rfl rfl) (fun w hSw => riy 31 .i64 hxz10_56o16_2 hn26 (((hS59.row 1 rfl).1))) (gdS 17 ⟨none, _, _, _, _, _⟩ rfl (st_storeix rfl (by kernel_rfl) (by kernel_rfl) (fun _ => by kernel_rfl) hS59 1 rfl hxz10_56o17_4) ?_)⟩
 rintro wz10_56o17_1 hSz10_56o17_2
 have hSz10_56o17_2 : St _ _ wz10_56o17_1 [boxE w0.heap.size [.int .u64 x42] 214, rowE .u16 31 A0 c0 lz10_56o17_3] := hSz10_56o17_2
 refine ⟨(hSz10_56o17_2.pick [0] rfl rfl), gu1 18 64 (pI (iw (p1 + x50)) A0) rfl (hSz10_56o17_2.pick [0] rfl rfl) (fun w hSw => riy 31 .i64 hxz10_56o18_2 (hn26.trans (setx_len hxz10_56o17_4).symm) (((hSz10_56o17_2.row 1 rfl).1))) (gdSz 19 ⟨none, _, _, _, _, _⟩ rfl (st_storeix rfl (by kernel_rfl) (by kernel_rfl) (fun _ => by kernel_rfl) hSz10_56o17_2 1 rfl hxz10_56o19_4) ?_)⟩
 rintro wz10_56o19_1 hSz10_56o19_2
 have hSz10_56o19_2 : St _ _ wz10_56o19_1 [boxE w0.heap.size [.int .u64 x42] 214, rowE .u16 31 A0 c0 lz10_56o19_3] := hSz10_56o19_2
 exact gd_meet (by kernel_rfl) (by kernel_rfl) (K62 () _ hSz10_56o19_2)
 refine gx_v (.bool false) w22 (rbE (decide_eq_false h35)) (gx_nil (gx_thenN (hK34 _ _ (gx_no (by kernel_rfl) (gx_exit (gx_thenE (gx_thenE ?_)))))))
 refine gx_blkE ?_
 obtain rfl := sj hL30
 exact gx_finN (.tuple #[]) (by kernel_rfl) (by kernel_rfl) ⟨_, rfl, rfl, (hS23.pick [1] rfl rfl), (hn26).symm⟩
 refine gx_v (.bool false) w0 (rbE (decide_eq_false h5)) (gx_nil (gx_thenN (hK4 _ _ (gx_no (by kernel_rfl) (gx_pass ?_)))))
 obtain rfl := sj hF
 exact gx_finN (.tuple #[]) (by kernel_rfl) (by kernel_rfl) ⟨_, rfl, rfl, hS0, rfl⟩
end Go.Proofs.Ytgjlpiljacecpaa
