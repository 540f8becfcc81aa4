/-
  The program, walked.
-/
import Derived.Test.YtdbimchiecdkoaaGreatBk
namespace Go.Proofs.YtdbimchiecdkoaaGreat
open Go Go.RowKit
set_option maxRecDepth 100000
set_option maxHeartbeats 4000000
set_option linter.unusedVariables false
def pSetOf_L1 (N : Nat) (p0 : List Int) : Nat → Int → Int → Option (Int)
 | 0, _, _ => none
 | k19+1, x17, x18 => (if x18 < ((p0.length : Nat) : Int) then ((ix p0 x18).bind fun x30 => (if x30 < 0 then none else pSetOf_L1 N p0 k19 (ior .u64 x17 (ishl .u64 1 x30)) (IntKind.i64.wrap (x18 + 1)))) else some (x17))
def pSetOf (N : Nat) (p0 : List Int) : Option (Int) :=
 ((pSetOf_L1 N p0 N 0 0 : Option (Int)).bind fun x8 => some x8)
def pSetOf_R (r : Int) (w0 : World) (v : Value) (w : World) : Prop := v = .int .u64 r ∧ St [] w0 w []
theorem pSetOf_ok (N : Nat) (p0 : List Int) (A0 : Option Addr) (c0 : Nat) (r : Int) (hF : pSetOf N p0 = some r) (w0 : World) (hv0 : Vw [] .u8 w0 A0 c0 p0) :
  Calls Tryz.prog 87 #[.slice A0 p0.length c0] w0 fun e w => ∃ v, e = .returned v ∧ pSetOf_R r w0 v w := by
 have hS0 := St.start w0
 unfold pSetOf at hF
 refine calls_of Tryz.func87 rfl ⟨((.slice A0 p0.length c0) :: un 17 ([])).toArray, []⟩ (by kernel_rfl) (gx_seq (fun K1 hK2 => gx_region (gx_k (.int .u64 0) w0 (gx_nil (gx_thenN (hK2 _ _ (gx_seq (fun K3 hK4 => ?_))))))))
 refine gx_region (gx_k (.int .u64 0) w0 (gx_nil (gx_thenN (hK4 _ _ ?_))))
 obtain ⟨c9, hE10, hO11⟩ := bind_in hF
 refine gx_cut (fun a w => ∃ (x8 : Int), selfA (fun u7 => ⟨((u7 0) :: undef :: (.int .u64 0) :: (.int .u64 x8) :: undef :: dd u7 5 12 (undef :: [])).toArray, []⟩) a ∧ x8 = c9 ∧ St [] w0 w []) ?_ ?_
 refine gx_seq (fun K12 hK13 => gx_region (gx_k (.slice A0 p0.length c0) w0 (gx_k (i6 ((p0.length : Nat) : Int)) w0 (gx_k (i6 0) w0 (gx_nil (gx_thenN (hK13 _ _ (gx_block (gx_loop (fun k a w => ∃ (x17 : Int) (x18 : Int), selfA (fun u16 => ⟨((u16 0) :: undef :: (.int .u64 0) :: (.int .u64 x17) :: undef :: (u16 5) :: (.slice A0 p0.length c0) :: (i6 ((p0.length : Nat) : Int)) :: (i6 x18) :: dd u16 9 8 (undef :: [])).toArray, []⟩) a ∧ pSetOf_L1 N p0 k x17 x18 = some c9 ∧ St [] w0 w []) N ?_ ?_)))))))))
 exact ⟨0, 0, selfA_i (by kernel_rfl), hE10, hS0⟩
 rintro k19 _ w14 ⟨x17, x18, hq35, hL20, hS15⟩
 obtain ⟨u16, rfl⟩ := selfA_u hq35
 rcases k19 with _ | k19
 cases hL20
 first | rw [pSetOf_L1] at hL20 | unfold pSetOf_L1 at hL20
 refine gx_seq (fun K21 hK22 => gx_region ?_)
 rcases if_in hL20 with ⟨h23, hL20⟩ | ⟨h23, hL20⟩
 refine gx_v (.bool true) w14 (rbE (decide_eq_true h23)) (gx_nil (gx_thenN (hK22 _ _ (gx_seq (fun K24 hK25 => gx_yes (by kernel_rfl) (gx_pass (gx_thenN ?_)))))))
 refine hK25 _ _ (gx_seq (fun K26 hK27 => gx_block (gx_seq (fun K28 hK29 => gx_region ?_))))
 obtain ⟨x30, hx31, hL20⟩ := bind_in hL20
 refine gx_v (pI x18 A0) w14 (rix 5 .i64 hx31 ((hS15.view hv0))) (gx_v (.int .u8 x30) w14 (rlx (hS15.view hv0) hx31) (gx_k (.int .u8 x30) w14 (gx_nil (gx_thenN (hK29 _ _ (gx_region (gx_k (.int .u64 x17) w14 (gx_k (.int .u8 x30) w14 ?_))))))))
 rcases if_in hL20 with ⟨h32, hL20⟩ | ⟨h32, hL20⟩
 cases hL20
 refine gx_v (.int .u64 (ishl .u64 1 x30)) w14 (run_shl (k2 := .u8) rfl (by kernel_rfl) (by kernel_rfl) h32) (gx_k (.int .u64 (ior .u64 x17 (ishl .u64 1 x30))) w14 (gx_k (.int .u64 (ior .u64 x17 (ishl .u64 1 x30))) w14 (gx_nil (gx_blkN (gx_thenN (hK27 _ _ (gx_region (gx_k (i6 (iw (x18 + 1))) w14 (gx_k (i6 (iw (x18 + 1))) w14 ?_)))))))))
 refine gx_nil (gx_thenN ?_)
 exact ⟨k19, Nat.lt_succ_self k19, (ior .u64 x17 (ishl .u64 1 x30)), (iw (x18 + 1)), selfA_i (by kernel_rfl), hL20, hS15⟩
 refine gx_v (.bool false) w14 (rbE (decide_eq_false h23)) (gx_nil (gx_thenN (hK22 _ _ (gx_seq (fun K33 hK34 => gx_no (by kernel_rfl) (gx_exit (gx_thenE ?_)))))))
 refine gx_thenE (gx_blkE (gx_thenN ?_))
 exact ⟨x17, selfA_i (by kernel_rfl), (sj hL20), hS15⟩
 rintro _ w5 ⟨x8, hq38, rfl, hS6⟩
 obtain ⟨u7, rfl⟩ := selfA_u hq38
 try dsimp only at hO11
 refine gx_seq (fun K36 hK37 => gx_region (gx_k (.int .u64 x8) w5 (gx_k (.int .u64 x8) w5 (gx_nil (gx_thenN (hK37 _ _ (gx_ret ?_)))))))
 obtain rfl := sj hO11
 exact gxF (.int .u64 x8) ⟨_, rfl, rfl, hS6⟩
def pHasC (_N : Nat) (p0 : Int) (p1 : Int) : Option (Bool) :=
 (if p1 < 0 then none else some ((iand .u64 (ishr .u64 p0 p1) 1) != 0))
def pHasC_R (r : Bool) (w0 : World) (v : Value) (w : World) : Prop := v = .bool r ∧ St [] w0 w []
theorem pHasC_ok (N : Nat) (p0 : Int) (p1 : Int)  (r : Bool) (hF : pHasC N p0 p1 = some r) (w0 : World)  :
  Calls Tryz.prog 89 #[.int .u64 p0, .int .u8 p1] w0 fun e w => ∃ v, e = .returned v ∧ pHasC_R r w0 v w := by
 have hS0 := St.start w0
 unfold pHasC at hF
 refine calls_of Tryz.func89 rfl ⟨((.int .u64 p0) :: (.int .u8 p1) :: un 8 ([])).toArray, []⟩ (by kernel_rfl) (gx_seq (fun K1 hK2 => gx_region (gx_k (.bool false) w0 (gx_nil (gx_thenN (hK2 _ _ (gx_seq (fun K3 hK4 => ?_))))))))
 refine gx_region (gx_k (.int .u64 p0) w0 (gx_k (.int .u8 p1) w0 ?_))
 rcases if_in hF with ⟨h5, hF⟩ | ⟨h5, hF⟩
 cases hF
 refine gx_v (.int .u64 (ishr .u64 p0 p1)) w0 (run_shr (k2 := .u8) rfl (by kernel_rfl) (by kernel_rfl) h5) (gx_k (.int .u64 (iand .u64 (ishr .u64 p0 p1) 1)) w0 (gx_k (.bool ((iand .u64 (ishr .u64 p0 p1) 1) != 0)) w0 (gx_k (.bool ((iand .u64 (ishr .u64 p0 p1) 1) != 0)) w0 (gx_nil (gx_thenN (hK4 _ _ (gx_ret ?_)))))))
 obtain rfl := sj hF
 exact gxF (.bool ((iand .u64 (ishr .u64 p0 p1) 1) != 0)) ⟨_, rfl, rfl, hS0⟩
def pThere (_N : Nat) (_p0_0 : List Int) (zg : List Int) (_p0_2 : Int) (_p0_3 : Int) (_p0_4 : Int) (_p0_5 : Int) (_p0_6 : Int) (_p0_7 : Int) (_p0_8 : Int) (_p0_9 : Bool) (_p0_10 : Bool) (_p0_11 : Bool) (p1 : Int) : Option (Bool) :=
 (if p1 ≥ 0 then some (decide (p1 < ((zg.length : Nat) : Int))) else some false)
def pThere_R (zb : List Int) (zg : List Int) (zl : Int) (zn : Int) (p0_4 : Int) (p0_5 : Int) (p0_6 : Int) (p0_7 : Int) (p0_8 : Int) (p0_9 : Bool) (p0_10 : Bool) (p0_11 : Bool) (p1 : Int) (g0 : Nat) (zA : Option Addr) (zc : Nat) (A0_1 : Option Addr) (c0_1 : Nat) (r : Bool) (w0 : World) (v : Value) (w : World) : Prop := v = .bool r ∧ St (foots [plE g0 zA zc A0_1 c0_1 zb zg zl zn p0_4 p0_5 p0_6 p0_7 p0_8 p0_9 p0_10 p0_11]) w0 w [plE g0 zA zc A0_1 c0_1 zb zg zl zn p0_4 p0_5 p0_6 p0_7 p0_8 p0_9 p0_10 p0_11]
theorem pThere_ok (N : Nat) (zb : List Int) (zg : List Int) (zl : Int) (zn : Int) (p0_4 : Int) (p0_5 : Int) (p0_6 : Int) (p0_7 : Int) (p0_8 : Int) (p0_9 : Bool) (p0_10 : Bool) (p0_11 : Bool) (p1 : Int) (g0 : Nat) (zA : Option Addr) (zc : Nat) (A0_1 : Option Addr) (c0_1 : Nat) (r : Bool) (hF : pThere N zb zg zl zn p0_4 p0_5 p0_6 p0_7 p0_8 p0_9 p0_10 p0_11 p1 = some r) (w0 : World) (_hv0_0 : Vw (foots [plE g0 zA zc A0_1 c0_1 zb zg zl zn p0_4 p0_5 p0_6 p0_7 p0_8 p0_9 p0_10 p0_11]) .i32 w0 zA zc zb) (_hv0_1 : Vw (foots [plE g0 zA zc A0_1 c0_1 zb zg zl zn p0_4 p0_5 p0_6 p0_7 p0_8 p0_9 p0_10 p0_11]) .u8 w0 A0_1 c0_1 zg) (hl : St (foots [plE g0 zA zc A0_1 c0_1 zb zg zl zn p0_4 p0_5 p0_6 p0_7 p0_8 p0_9 p0_10 p0_11]) w0 w0 [plE g0 zA zc A0_1 c0_1 zb zg zl zn p0_4 p0_5 p0_6 p0_7 p0_8 p0_9 p0_10 p0_11]) :
  Calls Tryz.prog 90 #[.pointer (some ⟨g0, 0, none⟩), .int .i64 p1] w0 fun e w => ∃ v, e = .returned v ∧ pThere_R zb zg zl zn p0_4 p0_5 p0_6 p0_7 p0_8 p0_9 p0_10 p0_11 p1 g0 zA zc A0_1 c0_1 r w0 v w := by
 have hS0 := hl
 unfold pThere at hF
 refine calls_of Tryz.func90 rfl ⟨((vP g0) :: (i6 p1) :: un 14 ([])).toArray, []⟩ (by kernel_rfl) (gx_seq (fun K1 hK2 => gx_region (gx_k (.bool false) w0 (gx_nil (gx_thenN (hK2 _ _ (gx_seq (fun K3 hK4 => ?_))))))))
 refine gx_region (gx_k (i6 p1) w0 ?_)
 rcases if_in hF with ⟨h5, hF⟩ | ⟨h5, hF⟩
 refine gx_v (.bool true) w0 (rbE (decide_eq_true h5)) (gx_k (.bool true) w0 (gx_k (i6 p1) w0 (gx_k (vP g0) w0 (gx_k (vP g0) w0 (gx_k (vQ g0 1) w0 (gx_v (.slice A0_1 zg.length c0_1) w0 (rl1 (hS0.box 0 rfl 1 rfl)) (gx_k (i6 ((zg.length : Nat) : Int)) w0 (gx_k (.bool (decide (p1 < ((zg.length : Nat) : Int)))) w0 (gx_k (.bool (decide (p1 < ((zg.length : Nat) : Int)))) w0 (gx_k (.bool (decide (p1 < ((zg.length : Nat) : Int)))) w0 (gx_nil (gx_thenN (hK4 _ _ (gx_ret ?_))))))))))))))
 obtain rfl := sj hF
 exact gxF (.bool (decide (p1 < ((zg.length : Nat) : Int)))) ⟨_, rfl, rfl, hS0⟩
 refine gx_v (.bool false) w0 (rbE (decide_eq_false h5)) (gx_k (.bool false) w0 (gx_o (gx_o (gx_o (gx_o (gx_o (gx_o (gx_o (gx_k (.bool false) w0 (gx_k (.bool false) w0 (gx_nil (gx_thenN (hK4 _ _ (gx_ret ?_))))))))))))))
 obtain rfl := sj hF
 exact gxF (.bool false) ⟨_, rfl, rfl, hS0⟩
def pNext_L1 (N : Nat) (zg : List Int) : Nat → Int → Option (Int)
 | 0, _ => none
 | k16+1, x15 => (if x15 < ((zg.length : Nat) : Int) then ((ix zg x15).bind fun x23 => (if x23 = 39 then pNext_L1 N zg k16 (IntKind.i64.wrap (x15 + 1)) else some (x15))) else some (x15))
def pNext (N : Nat) (_p0_0 : List Int) (zg : List Int) (_p0_2 : Int) (_p0_3 : Int) (_p0_4 : Int) (_p0_5 : Int) (_p0_6 : Int) (_p0_7 : Int) (_p0_8 : Int) (_p0_9 : Bool) (_p0_10 : Bool) (_p0_11 : Bool) (p1 : Int) : Option (Int) :=
 ((pNext_L1 N zg N (IntKind.i64.wrap (p1 + 1)) : Option (Int)).bind fun x8 => some (if ((zg.length : Nat) : Int) < x8 then ((zg.length : Nat) : Int) else x8))
def pNext_R (zb : List Int) (zg : List Int) (zl : Int) (zn : Int) (p0_4 : Int) (p0_5 : Int) (p0_6 : Int) (p0_7 : Int) (p0_8 : Int) (p0_9 : Bool) (p0_10 : Bool) (p0_11 : Bool) (p1 : Int) (g0 : Nat) (zA : Option Addr) (zc : Nat) (A0_1 : Option Addr) (c0_1 : Nat) (r : Int) (w0 : World) (v : Value) (w : World) : Prop := v = .int .i64 r ∧ St (foots [plE g0 zA zc A0_1 c0_1 zb zg zl zn p0_4 p0_5 p0_6 p0_7 p0_8 p0_9 p0_10 p0_11]) w0 w [plE g0 zA zc A0_1 c0_1 zb zg zl zn p0_4 p0_5 p0_6 p0_7 p0_8 p0_9 p0_10 p0_11]
theorem pNext_ok (N : Nat) (zb : List Int) (zg : List Int) (zl : Int) (zn : Int) (p0_4 : Int) (p0_5 : Int) (p0_6 : Int) (p0_7 : Int) (p0_8 : Int) (p0_9 : Bool) (p0_10 : Bool) (p0_11 : Bool) (p1 : Int) (g0 : Nat) (zA : Option Addr) (zc : Nat) (A0_1 : Option Addr) (c0_1 : Nat) (r : Int) (hF : pNext N zb zg zl zn p0_4 p0_5 p0_6 p0_7 p0_8 p0_9 p0_10 p0_11 p1 = some r) (w0 : World) (_hv0_0 : Vw (foots [plE g0 zA zc A0_1 c0_1 zb zg zl zn p0_4 p0_5 p0_6 p0_7 p0_8 p0_9 p0_10 p0_11]) .i32 w0 zA zc zb) (hv0_1 : Vw (foots [plE g0 zA zc A0_1 c0_1 zb zg zl zn p0_4 p0_5 p0_6 p0_7 p0_8 p0_9 p0_10 p0_11]) .u8 w0 A0_1 c0_1 zg) (hl : St (foots [plE g0 zA zc A0_1 c0_1 zb zg zl zn p0_4 p0_5 p0_6 p0_7 p0_8 p0_9 p0_10 p0_11]) w0 w0 [plE g0 zA zc A0_1 c0_1 zb zg zl zn p0_4 p0_5 p0_6 p0_7 p0_8 p0_9 p0_10 p0_11]) :
  Calls Tryz.prog 66 #[.pointer (some ⟨g0, 0, none⟩), .int .i64 p1] w0 fun e w => ∃ v, e = .returned v ∧ pNext_R zb zg zl zn p0_4 p0_5 p0_6 p0_7 p0_8 p0_9 p0_10 p0_11 p1 g0 zA zc A0_1 c0_1 r w0 v w := by
 have hS0 := hl
 unfold pNext at hF
 refine calls_of Tryz.func66 rfl ⟨((vP g0) :: (i6 p1) :: un 31 ([])).toArray, []⟩ (by kernel_rfl) (gx_seq (fun K1 hK2 => gx_region (gx_k (i6 0) w0 (gx_nil (gx_thenN (hK2 _ _ (gx_seq (fun K3 hK4 => ?_))))))))
 refine gx_region (gx_k (i6 p1) w0 (gx_k (i6 (iw (p1 + 1))) w0 (gx_k (i6 (iw (p1 + 1))) w0 (gx_nil (gx_thenN (hK4 _ _ ?_))))))
 obtain ⟨c9, hE10, hO11⟩ := bind_in hF
 refine gx_cut (fun a w => ∃ (x8 : Int), selfA (fun u7 => ⟨((vP g0) :: (i6 x8) :: undef :: undef :: (i6 0) :: (i6 p1) :: (i6 (iw (p1 + 1))) :: dd u7 7 19 (un 7 ([]))).toArray, []⟩) a ∧ x8 = c9 ∧ St (foots [plE g0 zA zc A0_1 c0_1 zb zg zl zn p0_4 p0_5 p0_6 p0_7 p0_8 p0_9 p0_10 p0_11]) w0 w [plE g0 zA zc A0_1 c0_1 zb zg zl zn p0_4 p0_5 p0_6 p0_7 p0_8 p0_9 p0_10 p0_11]) ?_ ?_
 refine gx_block (gx_loop (fun k a w => ∃ (x15 : Int), selfA (fun u14 => ⟨((vP g0) :: (i6 x15) :: undef :: undef :: (i6 0) :: (i6 p1) :: (i6 (iw (p1 + 1))) :: dd u14 7 19 (un 7 ([]))).toArray, []⟩) a ∧ pNext_L1 N zg k x15 = some c9 ∧ St (foots [plE g0 zA zc A0_1 c0_1 zb zg zl zn p0_4 p0_5 p0_6 p0_7 p0_8 p0_9 p0_10 p0_11]) w0 w [plE g0 zA zc A0_1 c0_1 zb zg zl zn p0_4 p0_5 p0_6 p0_7 p0_8 p0_9 p0_10 p0_11]) N ?_ ?_)
 exact ⟨(iw (p1 + 1)), selfA_i (by kernel_rfl), hE10, hS0⟩
 rintro k16 _ w12 ⟨x15, hq26, hL17, hS13⟩
 obtain ⟨u14, rfl⟩ := selfA_u hq26
 rcases k16 with _ | k16
 cases hL17
 first | rw [pNext_L1] at hL17 | unfold pNext_L1 at hL17
 refine gx_seq (fun K18 hK19 => gx_seq (fun K20 hK21 => gx_region (gx_k (i6 x15) w12 (gx_k (vP g0) w12 (gx_k (vP g0) w12 (gx_k (vQ g0 1) w12 (gx_v (.slice A0_1 zg.length c0_1) w12 (rl1 (hS13.box 0 rfl 1 rfl)) (gx_k (i6 ((zg.length : Nat) : Int)) w12 ?_))))))))
 rcases if_in hL17 with ⟨h22, hL17⟩ | ⟨h22, hL17⟩
 refine gx_v (.bool true) w12 (rbE (decide_eq_true h22)) (gx_k (.bool true) w12 (gx_k (vP g0) w12 (gx_k (vP g0) w12 (gx_k (vQ g0 1) w12 (gx_v (.slice A0_1 zg.length c0_1) w12 (rl1 (hS13.box 0 rfl 1 rfl)) (gx_k (i6 x15) w12 ?_))))))
 obtain ⟨x23, hx24, hL17⟩ := bind_in hL17
 refine gx_v (pI x15 A0_1) w12 (rix 5 .i64 hx24 ((hS13.view hv0_1))) (gx_v (.int .u8 x23) w12 (rlx (hS13.view hv0_1) hx24) ?_)
 rcases if_in hL17 with ⟨h25, hL17⟩ | ⟨h25, hL17⟩
 refine gx_v (.bool true) w12 (rbE (decide_eq_true h25)) (gx_k (.bool true) w12 (gx_nil (gx_thenN (hK21 _ _ (gx_yes (by kernel_rfl) (gx_pass (gx_thenN ?_)))))))
 refine hK19 _ _ (gx_block (gx_region (gx_k (i6 x15) w12 (gx_k (i6 (iw (x15 + 1))) w12 (gx_k (i6 (iw (x15 + 1))) w12 (gx_nil (gx_blkN (gx_thenN ?_))))))))
 exact ⟨k16, Nat.lt_succ_self k16, (iw (x15 + 1)), selfA_i (by kernel_rfl), hL17, hS13⟩
 refine gx_v (.bool false) w12 (rbE (decide_eq_false h25)) (gx_k (.bool false) w12 (gx_nil (gx_thenN (hK21 _ _ (gx_no (by kernel_rfl) (gx_exit (gx_thenE ?_)))))))
 refine gx_thenE (gx_blkE (gx_thenN ?_))
 exact ⟨x15, selfA_i (by kernel_rfl), (sj hL17), hS13⟩
 refine gx_v (.bool false) w12 (rbE (decide_eq_false h22)) (gx_k (.bool false) w12 (gx_o (gx_o (gx_o (gx_o (gx_o (gx_o (gx_o (gx_o (gx_k (.bool false) w12 (gx_nil (gx_thenN (hK21 _ _ (gx_no (by kernel_rfl) (gx_exit ?_)))))))))))))))
 refine gx_thenE (gx_thenE (gx_blkE (gx_thenN ?_)))
 exact ⟨x15, selfA_i (by kernel_rfl), (sj hL17), hS13⟩
 rintro _ w5 ⟨x8, hq29, rfl, hS6⟩
 obtain ⟨u7, rfl⟩ := selfA_u hq29
 try dsimp only at hO11
 refine gx_seq (fun K27 hK28 => gx_region (gx_k (i6 x8) w5 (gx_k (vP g0) w5 (gx_k (vP g0) w5 (gx_k (vQ g0 1) w5 (gx_v (.slice A0_1 zg.length c0_1) w5 (rl1 (hS6.box 0 rfl 1 rfl)) (gx_k (i6 ((zg.length : Nat) : Int)) w5 (gx_v (i6 (if ((zg.length : Nat) : Int) < x8 then ((zg.length : Nat) : Int) else x8)) w5 (run_min2 rfl (by kernel_rfl) (by kernel_rfl)) (gx_k (i6 (if ((zg.length : Nat) : Int) < x8 then ((zg.length : Nat) : Int) else x8)) w5 (gx_nil ?_))))))))))
 refine gx_thenN (hK28 _ _ (gx_ret ?_))
 obtain rfl := sj hO11
 exact gxF (i6 (if ((zg.length : Nat) : Int) < x8 then ((zg.length : Nat) : Int) else x8)) ⟨_, rfl, rfl, hS6⟩
def pIs (N : Nat) (zb : List Int) (zg : List Int) (zl : Int) (zn : Int) (p0_4 : Int) (p0_5 : Int) (p0_6 : Int) (p0_7 : Int) (p0_8 : Int) (p0_9 : Bool) (p0_10 : Bool) (p0_11 : Bool) (p1 : Int) (p2 : List Int) : Option (Bool) :=
 ((pThere N zb zg zl zn p0_4 p0_5 p0_6 p0_7 p0_8 p0_9 p0_10 p0_11 p1).bind fun b11 => (match b11 with | true => ((ix zg p1).bind fun x15 => ((pSetOf N p2).bind fun x21 => ((pHasC N x21 x15).bind fun b27 => some b27))) | false => ((pSetOf N p2).bind fun x35 => ((pHasC N x35 (38 : Int)).bind fun b41 => some b41))))
def pIs_R (zb : List Int) (zg : List Int) (zl : Int) (zn : Int) (p0_4 : Int) (p0_5 : Int) (p0_6 : Int) (p0_7 : Int) (p0_8 : Int) (p0_9 : Bool) (p0_10 : Bool) (p0_11 : Bool) (p1 : Int) (p2 : List Int) (g0 : Nat) (zA : Option Addr) (zc : Nat) (A0_1 : Option Addr) (c0_1 : Nat) (A2 : Option Addr) (c2 : Nat) (r : Bool) (w0 : World) (v : Value) (w : World) : Prop := v = .bool r ∧ St (foots [plE g0 zA zc A0_1 c0_1 zb zg zl zn p0_4 p0_5 p0_6 p0_7 p0_8 p0_9 p0_10 p0_11]) w0 w [plE g0 zA zc A0_1 c0_1 zb zg zl zn p0_4 p0_5 p0_6 p0_7 p0_8 p0_9 p0_10 p0_11]
theorem pIs_ok (N : Nat) (zb : List Int) (zg : List Int) (zl : Int) (zn : Int) (p0_4 : Int) (p0_5 : Int) (p0_6 : Int) (p0_7 : Int) (p0_8 : Int) (p0_9 : Bool) (p0_10 : Bool) (p0_11 : Bool) (p1 : Int) (p2 : List Int) (g0 : Nat) (zA : Option Addr) (zc : Nat) (A0_1 : Option Addr) (c0_1 : Nat) (A2 : Option Addr) (c2 : Nat) (r : Bool) (hF : pIs N zb zg zl zn p0_4 p0_5 p0_6 p0_7 p0_8 p0_9 p0_10 p0_11 p1 p2 = some r) (w0 : World) (hv0_0 : Vw (foots [plE g0 zA zc A0_1 c0_1 zb zg zl zn p0_4 p0_5 p0_6 p0_7 p0_8 p0_9 p0_10 p0_11]) .i32 w0 zA zc zb) (hv0_1 : Vw (foots [plE g0 zA zc A0_1 c0_1 zb zg zl zn p0_4 p0_5 p0_6 p0_7 p0_8 p0_9 p0_10 p0_11]) .u8 w0 A0_1 c0_1 zg) (hv2 : Vw (foots [plE g0 zA zc A0_1 c0_1 zb zg zl zn p0_4 p0_5 p0_6 p0_7 p0_8 p0_9 p0_10 p0_11]) .u8 w0 A2 c2 p2) (hl : St (foots [plE g0 zA zc A0_1 c0_1 zb zg zl zn p0_4 p0_5 p0_6 p0_7 p0_8 p0_9 p0_10 p0_11]) w0 w0 [plE g0 zA zc A0_1 c0_1 zb zg zl zn p0_4 p0_5 p0_6 p0_7 p0_8 p0_9 p0_10 p0_11]) :
  Calls Tryz.prog 67 #[.pointer (some ⟨g0, 0, none⟩), .int .i64 p1, .slice A2 p2.length c2] w0 fun e w => ∃ v, e = .returned v ∧ pIs_R zb zg zl zn p0_4 p0_5 p0_6 p0_7 p0_8 p0_9 p0_10 p0_11 p1 p2 g0 zA zc A0_1 c0_1 A2 c2 r w0 v w := by
 have hS0 := hl
 unfold pIs at hF
 refine calls_of Tryz.func67 rfl ⟨((vP g0) :: (i6 p1) :: (.slice A2 p2.length c2) :: un 19 ([])).toArray, []⟩ (by kernel_rfl) (gx_seq (fun K1 hK2 => gx_region (gx_k (.bool false) w0 (gx_nil (gx_thenN (hK2 _ _ (gx_seq (fun K3 hK4 => ?_))))))))
 refine gx_region (gx_k (.int .u8 38) w0 (gx_nil (gx_thenN (hK4 _ _ (gx_seq (fun K5 hK6 => gx_seq (fun K7 hK8 => gx_region ?_)))))))
 refine gx_k (vP g0) w0 (gx_k (i6 p1) w0 ?_)
 have hP9 : St _ _ w0 ([plE g0 zA zc A0_1 c0_1 zb zg zl zn p0_4 p0_5 p0_6 p0_7 p0_8 p0_9 p0_10 p0_11] ++ []) := hS0
 obtain ⟨b11, hc10, hF⟩ := bind_in hF
 try dsimp only at hF
 refine gx_c _ (pThere_ok N zb zg zl zn p0_4 p0_5 p0_6 p0_7 p0_8 p0_9 p0_10 p0_11 p1 g0 zA zc A0_1 c0_1 _ hc10 w0 (hP9.vwA hv0_0) (hP9.vwA hv0_1) hP9.part) ?_
 rintro _ w12 ⟨rfl, hT14⟩
 have hS13 : St _ _ w12 [plE g0 zA zc A0_1 c0_1 zb zg zl zn p0_4 p0_5 p0_6 p0_7 p0_8 p0_9 p0_10 p0_11] := hP9.lendN _ hT14
 refine gx_nil (gx_thenN (hK8 _ _ ?_))
 rcases b11 with _ | _
 try dsimp only at hF
 refine gx_no (by kernel_rfl) (gx_pass (gx_thenN (hK6 _ _ (gx_seq (fun K31 hK32 => gx_region (gx_k (.slice A2 p2.length c2) w12 ?_))))))
 have hP33 : St _ _ w12 ([] ++ [plE g0 zA zc A0_1 c0_1 zb zg zl zn p0_4 p0_5 p0_6 p0_7 p0_8 p0_9 p0_10 p0_11]) := hS13
 obtain ⟨x35, hc34, hF⟩ := bind_in hF
 try dsimp only at hF
 refine gx_c _ (pSetOf_ok N p2 A2 c2 _ hc34 w12 (hP33.vwA hv2)) ?_
 rintro _ w36 ⟨rfl, hT38⟩
 have hS37 : St _ _ w36 [plE g0 zA zc A0_1 c0_1 zb zg zl zn p0_4 p0_5 p0_6 p0_7 p0_8 p0_9 p0_10 p0_11] := hS13.take _ hT38
 refine gx_k (.int .u8 38) w36 ?_
 have hP39 : St _ _ w36 ([] ++ [plE g0 zA zc A0_1 c0_1 zb zg zl zn p0_4 p0_5 p0_6 p0_7 p0_8 p0_9 p0_10 p0_11]) := hS37
 obtain ⟨b41, hc40, hF⟩ := bind_in hF
 try dsimp only at hF
 refine gx_c _ (pHasC_ok N x35 (38 : Int) _ hc40 w36 ) ?_
 rintro _ w42 ⟨rfl, hT44⟩
 have hS43 : St _ _ w42 [plE g0 zA zc A0_1 c0_1 zb zg zl zn p0_4 p0_5 p0_6 p0_7 p0_8 p0_9 p0_10 p0_11] := hS37.take _ hT44
 refine gx_k (.bool b41) w42 (gx_nil (gx_thenN (hK32 _ _ (gx_ret ?_))))
 obtain rfl := sj hF
 exact gxF (.bool b41) ⟨_, rfl, rfl, hS43⟩
 try dsimp only at hF
 refine gx_yes (by kernel_rfl) (gx_region (gx_k (vP g0) w12 (gx_k (vP g0) w12 (gx_k (vQ g0 1) w12 (gx_v (.slice A0_1 zg.length c0_1) w12 (rl1 (hS13.box 0 rfl 1 rfl)) (gx_k (i6 p1) w12 ?_))))))
 obtain ⟨x15, hx16, hF⟩ := bind_in hF
 refine gx_v (pI p1 A0_1) w12 (rix 5 .i64 hx16 ((hS13.view hv0_1))) (gx_v (.int .u8 x15) w12 (rlx (hS13.view hv0_1) hx16) (gx_k (.int .u8 x15) w12 (gx_nil (gx_thenN (hK6 _ _ (gx_seq (fun K17 hK18 => gx_region ?_)))))))
 refine gx_k (.slice A2 p2.length c2) w12 ?_
 have hP19 : St _ _ w12 ([] ++ [plE g0 zA zc A0_1 c0_1 zb zg zl zn p0_4 p0_5 p0_6 p0_7 p0_8 p0_9 p0_10 p0_11]) := hS13
 obtain ⟨x21, hc20, hF⟩ := bind_in hF
 try dsimp only at hF
 refine gx_c _ (pSetOf_ok N p2 A2 c2 _ hc20 w12 (hP19.vwA hv2)) ?_
 rintro _ w22 ⟨rfl, hT24⟩
 have hS23 : St _ _ w22 [plE g0 zA zc A0_1 c0_1 zb zg zl zn p0_4 p0_5 p0_6 p0_7 p0_8 p0_9 p0_10 p0_11] := hS13.take _ hT24
 refine gx_k (.int .u8 x15) w22 ?_
 have hP25 : St _ _ w22 ([] ++ [plE g0 zA zc A0_1 c0_1 zb zg zl zn p0_4 p0_5 p0_6 p0_7 p0_8 p0_9 p0_10 p0_11]) := hS23
 obtain ⟨b27, hc26, hF⟩ := bind_in hF
 try dsimp only at hF
 refine gx_c _ (pHasC_ok N x21 x15 _ hc26 w22 ) ?_
 rintro _ w28 ⟨rfl, hT30⟩
 have hS29 : St _ _ w28 [plE g0 zA zc A0_1 c0_1 zb zg zl zn p0_4 p0_5 p0_6 p0_7 p0_8 p0_9 p0_10 p0_11] := hS23.take _ hT30
 refine gx_k (.bool b27) w28 (gx_nil (gx_thenN (hK18 _ _ (gx_ret ?_))))
 obtain rfl := sj hF
 exact gxF (.bool b27) ⟨_, rfl, rfl, hS29⟩
def pBegins (N : Nat) (zb : List Int) (zg : List Int) (zl : Int) (zn : Int) (p0_4 : Int) (p0_5 : Int) (p0_6 : Int) (p0_7 : Int) (p0_8 : Int) (p0_9 : Bool) (p0_10 : Bool) (p0_11 : Bool) (p1 : Int) (p2 : Int) : Option (Bool) :=
 ((pThere N zb zg zl zn p0_4 p0_5 p0_6 p0_7 p0_8 p0_9 p0_10 p0_11 p1).bind fun b7 => (match b7 with | true => ((ix zb p1).bind fun x11 => some (decide (x11 = p2))) | false => some false))
def pBegins_R (zb : List Int) (zg : List Int) (zl : Int) (zn : Int) (p0_4 : Int) (p0_5 : Int) (p0_6 : Int) (p0_7 : Int) (p0_8 : Int) (p0_9 : Bool) (p0_10 : Bool) (p0_11 : Bool) (p1 : Int) (p2 : Int) (g0 : Nat) (zA : Option Addr) (zc : Nat) (A0_1 : Option Addr) (c0_1 : Nat) (r : Bool) (w0 : World) (v : Value) (w : World) : Prop := v = .bool r ∧ St (foots [plE g0 zA zc A0_1 c0_1 zb zg zl zn p0_4 p0_5 p0_6 p0_7 p0_8 p0_9 p0_10 p0_11]) w0 w [plE g0 zA zc A0_1 c0_1 zb zg zl zn p0_4 p0_5 p0_6 p0_7 p0_8 p0_9 p0_10 p0_11]
theorem pBegins_ok (N : Nat) (zb : List Int) (zg : List Int) (zl : Int) (zn : Int) (p0_4 : Int) (p0_5 : Int) (p0_6 : Int) (p0_7 : Int) (p0_8 : Int) (p0_9 : Bool) (p0_10 : Bool) (p0_11 : Bool) (p1 : Int) (p2 : Int) (g0 : Nat) (zA : Option Addr) (zc : Nat) (A0_1 : Option Addr) (c0_1 : Nat) (r : Bool) (hF : pBegins N zb zg zl zn p0_4 p0_5 p0_6 p0_7 p0_8 p0_9 p0_10 p0_11 p1 p2 = some r) (w0 : World) (hv0_0 : Vw (foots [plE g0 zA zc A0_1 c0_1 zb zg zl zn p0_4 p0_5 p0_6 p0_7 p0_8 p0_9 p0_10 p0_11]) .i32 w0 zA zc zb) (hv0_1 : Vw (foots [plE g0 zA zc A0_1 c0_1 zb zg zl zn p0_4 p0_5 p0_6 p0_7 p0_8 p0_9 p0_10 p0_11]) .u8 w0 A0_1 c0_1 zg) (hl : St (foots [plE g0 zA zc A0_1 c0_1 zb zg zl zn p0_4 p0_5 p0_6 p0_7 p0_8 p0_9 p0_10 p0_11]) w0 w0 [plE g0 zA zc A0_1 c0_1 zb zg zl zn p0_4 p0_5 p0_6 p0_7 p0_8 p0_9 p0_10 p0_11]) :
  Calls Tryz.prog 81 #[.pointer (some ⟨g0, 0, none⟩), .int .i64 p1, .int .i32 p2] w0 fun e w => ∃ v, e = .returned v ∧ pBegins_R zb zg zl zn p0_4 p0_5 p0_6 p0_7 p0_8 p0_9 p0_10 p0_11 p1 p2 g0 zA zc A0_1 c0_1 r w0 v w := by
 have hS0 := hl
 unfold pBegins at hF
 refine calls_of Tryz.func81 rfl ⟨((vP g0) :: (i6 p1) :: (.int .i32 p2) :: un 18 ([])).toArray, []⟩ (by kernel_rfl) (gx_seq (fun K1 hK2 => gx_region (gx_k (.bool false) w0 (gx_nil (gx_thenN (hK2 _ _ (gx_seq (fun K3 hK4 => ?_))))))))
 refine gx_region (gx_k (vP g0) w0 (gx_k (i6 p1) w0 ?_))
 have hP5 : St _ _ w0 ([plE g0 zA zc A0_1 c0_1 zb zg zl zn p0_4 p0_5 p0_6 p0_7 p0_8 p0_9 p0_10 p0_11] ++ []) := hS0
 obtain ⟨b7, hc6, hF⟩ := bind_in hF
 try dsimp only at hF
 refine gx_c _ (pThere_ok N zb zg zl zn p0_4 p0_5 p0_6 p0_7 p0_8 p0_9 p0_10 p0_11 p1 g0 zA zc A0_1 c0_1 _ hc6 w0 (hP5.vwA hv0_0) (hP5.vwA hv0_1) hP5.part) ?_
 rintro _ w8 ⟨rfl, hT10⟩
 have hS9 : St _ _ w8 [plE g0 zA zc A0_1 c0_1 zb zg zl zn p0_4 p0_5 p0_6 p0_7 p0_8 p0_9 p0_10 p0_11] := hP5.lendN _ hT10
 refine gx_k (.bool b7) w8 ?_
 rcases b7 with _ | _
 try dsimp only at hF
 refine gx_o (gx_o (gx_o (gx_o (gx_o (gx_o (gx_o (gx_o (gx_o (gx_k (.bool false) w8 (gx_k (.bool false) w8 (gx_nil (gx_thenN (hK4 _ _ (gx_ret ?_))))))))))))))
 obtain rfl := sj hF
 exact gxF (.bool false) ⟨_, rfl, rfl, hS9⟩
 try dsimp only at hF
 refine gx_k (vP g0) w8 (gx_k (vP g0) w8 (gx_k (vP g0) w8 (gx_v (.slice zA zb.length zc) w8 (rl1 (hS9.box 0 rfl 0 rfl)) (gx_k (i6 p1) w8 ?_))))
 obtain ⟨x11, hx12, hF⟩ := bind_in hF
 refine gx_v (pI p1 zA) w8 (rix 21 .i64 hx12 ((hS9.view hv0_0))) (gx_v (.int .i32 x11) w8 (rlx (hS9.view hv0_0) hx12) (gx_k (.int .i32 p2) w8 (gx_k (.bool (decide (x11 = p2))) w8 (gx_k (.bool (decide (x11 = p2))) w8 (gx_k (.bool (decide (x11 = p2))) w8 (gx_nil (gx_thenN (hK4 _ _ (gx_ret ?_)))))))))
 obtain rfl := sj hF
 exact gxF (.bool (decide (x11 = p2))) ⟨_, rfl, rfl, hS9⟩
def pWide (N : Nat) (zb : List Int) (zg : List Int) (zl : Int) (zn : Int) (p0_4 : Int) (p0_5 : Int) (p0_6 : Int) (p0_7 : Int) (p0_8 : Int) (p0_9 : Bool) (p0_10 : Bool) (p0_11 : Bool) (p1 : Int) : Option (Bool) :=
 ((pThere N zb zg zl zn p0_4 p0_5 p0_6 p0_7 p0_8 p0_9 p0_10 p0_11 p1).bind fun b7 => (match b7 with | true => ((ix zb p1).bind fun x11 => ((ucWd N x11).bind fun b15 => some b15)) | false => some false))
def pWide_R (zb : List Int) (zg : List Int) (zl : Int) (zn : Int) (p0_4 : Int) (p0_5 : Int) (p0_6 : Int) (p0_7 : Int) (p0_8 : Int) (p0_9 : Bool) (p0_10 : Bool) (p0_11 : Bool) (p1 : Int) (g0 : Nat) (zA : Option Addr) (zc : Nat) (A0_1 : Option Addr) (c0_1 : Nat) (r : Bool) (w0 : World) (v : Value) (w : World) : Prop := v = .bool r ∧ St (foots [plE g0 zA zc A0_1 c0_1 zb zg zl zn p0_4 p0_5 p0_6 p0_7 p0_8 p0_9 p0_10 p0_11]) w0 w [plE g0 zA zc A0_1 c0_1 zb zg zl zn p0_4 p0_5 p0_6 p0_7 p0_8 p0_9 p0_10 p0_11]
theorem pWide_ok (N : Nat) (zb : List Int) (zg : List Int) (zl : Int) (zn : Int) (p0_4 : Int) (p0_5 : Int) (p0_6 : Int) (p0_7 : Int) (p0_8 : Int) (p0_9 : Bool) (p0_10 : Bool) (p0_11 : Bool) (p1 : Int) (g0 : Nat) (zA : Option Addr) (zc : Nat) (A0_1 : Option Addr) (c0_1 : Nat) (r : Bool) (hF : pWide N zb zg zl zn p0_4 p0_5 p0_6 p0_7 p0_8 p0_9 p0_10 p0_11 p1 = some r) (w0 : World) (hv0_0 : Vw (foots [plE g0 zA zc A0_1 c0_1 zb zg zl zn p0_4 p0_5 p0_6 p0_7 p0_8 p0_9 p0_10 p0_11]) .i32 w0 zA zc zb) (hv0_1 : Vw (foots [plE g0 zA zc A0_1 c0_1 zb zg zl zn p0_4 p0_5 p0_6 p0_7 p0_8 p0_9 p0_10 p0_11]) .u8 w0 A0_1 c0_1 zg) (hl : St (foots [plE g0 zA zc A0_1 c0_1 zb zg zl zn p0_4 p0_5 p0_6 p0_7 p0_8 p0_9 p0_10 p0_11]) w0 w0 [plE g0 zA zc A0_1 c0_1 zb zg zl zn p0_4 p0_5 p0_6 p0_7 p0_8 p0_9 p0_10 p0_11]) :
  Calls Tryz.prog 80 #[.pointer (some ⟨g0, 0, none⟩), .int .i64 p1] w0 fun e w => ∃ v, e = .returned v ∧ pWide_R zb zg zl zn p0_4 p0_5 p0_6 p0_7 p0_8 p0_9 p0_10 p0_11 p1 g0 zA zc A0_1 c0_1 r w0 v w := by
 have hS0 := hl
 unfold pWide at hF
 refine calls_of Tryz.func80 rfl ⟨((vP g0) :: (i6 p1) :: un 16 ([])).toArray, []⟩ (by kernel_rfl) (gx_seq (fun K1 hK2 => gx_region (gx_k (.bool false) w0 (gx_nil (gx_thenN (hK2 _ _ (gx_seq (fun K3 hK4 => ?_))))))))
 refine gx_region (gx_k (vP g0) w0 (gx_k (i6 p1) w0 ?_))
 have hP5 : St _ _ w0 ([plE g0 zA zc A0_1 c0_1 zb zg zl zn p0_4 p0_5 p0_6 p0_7 p0_8 p0_9 p0_10 p0_11] ++ []) := hS0
 obtain ⟨b7, hc6, hF⟩ := bind_in hF
 try dsimp only at hF
 refine gx_c _ (pThere_ok N zb zg zl zn p0_4 p0_5 p0_6 p0_7 p0_8 p0_9 p0_10 p0_11 p1 g0 zA zc A0_1 c0_1 _ hc6 w0 (hP5.vwA hv0_0) (hP5.vwA hv0_1) hP5.part) ?_
 rintro _ w8 ⟨rfl, hT10⟩
 have hS9 : St _ _ w8 [plE g0 zA zc A0_1 c0_1 zb zg zl zn p0_4 p0_5 p0_6 p0_7 p0_8 p0_9 p0_10 p0_11] := hP5.lendN _ hT10
 refine gx_k (.bool b7) w8 ?_
 rcases b7 with _ | _
 try dsimp only at hF
 refine gx_o (gx_o (gx_o (gx_o (gx_o (gx_o (gx_o (gx_o (gx_k (.bool false) w8 (gx_k (.bool false) w8 (gx_nil (gx_thenN (hK4 _ _ (gx_ret ?_)))))))))))))
 obtain rfl := sj hF
 exact gxF (.bool false) ⟨_, rfl, rfl, hS9⟩
 try dsimp only at hF
 refine gx_k (vP g0) w8 (gx_k (vP g0) w8 (gx_k (vP g0) w8 (gx_v (.slice zA zb.length zc) w8 (rl1 (hS9.box 0 rfl 0 rfl)) (gx_k (i6 p1) w8 ?_))))
 obtain ⟨x11, hx12, hF⟩ := bind_in hF
 refine gx_v (pI p1 zA) w8 (rix 21 .i64 hx12 ((hS9.view hv0_0))) (gx_v (.int .i32 x11) w8 (rlx (hS9.view hv0_0) hx12) ?_)
 have hP13 : St _ _ w8 ([] ++ [plE g0 zA zc A0_1 c0_1 zb zg zl zn p0_4 p0_5 p0_6 p0_7 p0_8 p0_9 p0_10 p0_11]) := hS9
 obtain ⟨b15, hc14, hF⟩ := bind_in hF
 try dsimp only at hF
 refine gx_c _ (ucWd_ok N x11 _ hc14 w8 ) ?_
 rintro _ w16 ⟨rfl, hT18⟩
 have hS17 : St _ _ w16 [plE g0 zA zc A0_1 c0_1 zb zg zl zn p0_4 p0_5 p0_6 p0_7 p0_8 p0_9 p0_10 p0_11] := hS9.take _ hT18
 refine gx_k (.bool b15) w16 (gx_k (.bool b15) w16 (gx_nil (gx_thenN (hK4 _ _ (gx_ret ?_)))))
 obtain rfl := sj hF
 exact gxF (.bool b15) ⟨_, rfl, rfl, hS17⟩
def pDigit (N : Nat) (zb : List Int) (zg : List Int) (zl : Int) (zn : Int) (p0_4 : Int) (p0_5 : Int) (p0_6 : Int) (p0_7 : Int) (p0_8 : Int) (p0_9 : Bool) (p0_10 : Bool) (p0_11 : Bool) (p1 : Int) : Option (Bool) :=
 ((pIs N zb zg zl zn p0_4 p0_5 p0_6 p0_7 p0_8 p0_9 p0_10 p0_11 p1 ([27])).bind fun b9 => some b9)
def pDigit_R (zb : List Int) (zg : List Int) (zl : Int) (zn : Int) (p0_4 : Int) (p0_5 : Int) (p0_6 : Int) (p0_7 : Int) (p0_8 : Int) (p0_9 : Bool) (p0_10 : Bool) (p0_11 : Bool) (p1 : Int) (g0 : Nat) (zA : Option Addr) (zc : Nat) (A0_1 : Option Addr) (c0_1 : Nat) (r : Bool) (w0 : World) (v : Value) (w : World) : Prop := v = .bool r ∧ St (foots [plE g0 zA zc A0_1 c0_1 zb zg zl zn p0_4 p0_5 p0_6 p0_7 p0_8 p0_9 p0_10 p0_11]) w0 w [plE g0 zA zc A0_1 c0_1 zb zg zl zn p0_4 p0_5 p0_6 p0_7 p0_8 p0_9 p0_10 p0_11]
theorem pDigit_ok (N : Nat) (zb : List Int) (zg : List Int) (zl : Int) (zn : Int) (p0_4 : Int) (p0_5 : Int) (p0_6 : Int) (p0_7 : Int) (p0_8 : Int) (p0_9 : Bool) (p0_10 : Bool) (p0_11 : Bool) (p1 : Int) (g0 : Nat) (zA : Option Addr) (zc : Nat) (A0_1 : Option Addr) (c0_1 : Nat) (r : Bool) (hF : pDigit N zb zg zl zn p0_4 p0_5 p0_6 p0_7 p0_8 p0_9 p0_10 p0_11 p1 = some r) (w0 : World) (hv0_0 : Vw (foots [plE g0 zA zc A0_1 c0_1 zb zg zl zn p0_4 p0_5 p0_6 p0_7 p0_8 p0_9 p0_10 p0_11]) .i32 w0 zA zc zb) (hv0_1 : Vw (foots [plE g0 zA zc A0_1 c0_1 zb zg zl zn p0_4 p0_5 p0_6 p0_7 p0_8 p0_9 p0_10 p0_11]) .u8 w0 A0_1 c0_1 zg) (hl : St (foots [plE g0 zA zc A0_1 c0_1 zb zg zl zn p0_4 p0_5 p0_6 p0_7 p0_8 p0_9 p0_10 p0_11]) w0 w0 [plE g0 zA zc A0_1 c0_1 zb zg zl zn p0_4 p0_5 p0_6 p0_7 p0_8 p0_9 p0_10 p0_11]) :
  Calls Tryz.prog 79 #[.pointer (some ⟨g0, 0, none⟩), .int .i64 p1] w0 fun e w => ∃ v, e = .returned v ∧ pDigit_R zb zg zl zn p0_4 p0_5 p0_6 p0_7 p0_8 p0_9 p0_10 p0_11 p1 g0 zA zc A0_1 c0_1 r w0 v w := by
 have hS0 := hl
 unfold pDigit at hF
 refine calls_of Tryz.func79 rfl ⟨((vP g0) :: (i6 p1) :: un 7 ([])).toArray, []⟩ (by kernel_rfl) (gx_seq (fun K1 hK2 => gx_region (gx_k (.bool false) w0 (gx_nil (gx_thenN (hK2 _ _ (gx_seq (fun K3 hK4 => ?_))))))))
 refine gx_region (gx_k (vP g0) w0 (gx_k (i6 p1) w0 (gx_r (st_made .u8 5 [27] hS0 (by show 1 ≤ 1000000000; decide) (by kernel_rfl)) ?_)))
 rintro _ w5 ⟨rfl, hS6⟩
 have hS6 : St _ _ w5 [plE g0 zA zc A0_1 c0_1 zb zg zl zn p0_4 p0_5 p0_6 p0_7 p0_8 p0_9 p0_10 p0_11, rowE .u8 5 (some ⟨w0.heap.size, 0, none⟩) 1 ([27])] := hS6
 have hP7 : St _ _ w5 ([plE g0 zA zc A0_1 c0_1 zb zg zl zn p0_4 p0_5 p0_6 p0_7 p0_8 p0_9 p0_10 p0_11] ++ [rowE .u8 5 (some ⟨w0.heap.size, 0, none⟩) 1 ([27])]) := hS6
 obtain ⟨b9, hc8, hF⟩ := bind_in hF
 try dsimp only at hF
 refine gx_c _ (pIs_ok N zb zg zl zn p0_4 p0_5 p0_6 p0_7 p0_8 p0_9 p0_10 p0_11 p1 ([27]) g0 zA zc A0_1 c0_1 (some ⟨w0.heap.size, 0, none⟩) 1 _ hc8 w5 (hP7.vwA hv0_0) (hP7.vwA hv0_1) (hP7.vwB 0 rfl) hP7.part) ?_
 rintro _ w10 ⟨rfl, hT12⟩
 have hS11 : St _ _ w10 [rowE .u8 5 (some ⟨w0.heap.size, 0, none⟩) 1 ([27]), plE g0 zA zc A0_1 c0_1 zb zg zl zn p0_4 p0_5 p0_6 p0_7 p0_8 p0_9 p0_10 p0_11] := hP7.lendN _ hT12
 refine gx_k (.bool b9) w10 (gx_nil (gx_thenN (hK4 _ _ (gx_ret ?_))))
 obtain rfl := sj hF
 exact gxF (.bool b9) ⟨_, rfl, rfl, (hS11.pick [1] rfl rfl)⟩
def pLetter (N : Nat) (zb : List Int) (zg : List Int) (zl : Int) (zn : Int) (p0_4 : Int) (p0_5 : Int) (p0_6 : Int) (p0_7 : Int) (p0_8 : Int) (p0_9 : Bool) (p0_10 : Bool) (p0_11 : Bool) (p1 : Int) : Option (Bool) :=
 ((pIs N zb zg zl zn p0_4 p0_5 p0_6 p0_7 p0_8 p0_9 p0_10 p0_11 p1 ([0, 28])).bind fun b9 => some b9)
def pLetter_R (zb : List Int) (zg : List Int) (zl : Int) (zn : Int) (p0_4 : Int) (p0_5 : Int) (p0_6 : Int) (p0_7 : Int) (p0_8 : Int) (p0_9 : Bool) (p0_10 : Bool) (p0_11 : Bool) (p1 : Int) (g0 : Nat) (zA : Option Addr) (zc : Nat) (A0_1 : Option Addr) (c0_1 : Nat) (r : Bool) (w0 : World) (v : Value) (w : World) : Prop := v = .bool r ∧ St (foots [plE g0 zA zc A0_1 c0_1 zb zg zl zn p0_4 p0_5 p0_6 p0_7 p0_8 p0_9 p0_10 p0_11]) w0 w [plE g0 zA zc A0_1 c0_1 zb zg zl zn p0_4 p0_5 p0_6 p0_7 p0_8 p0_9 p0_10 p0_11]
theorem pLetter_ok (N : Nat) (zb : List Int) (zg : List Int) (zl : Int) (zn : Int) (p0_4 : Int) (p0_5 : Int) (p0_6 : Int) (p0_7 : Int) (p0_8 : Int) (p0_9 : Bool) (p0_10 : Bool) (p0_11 : Bool) (p1 : Int) (g0 : Nat) (zA : Option Addr) (zc : Nat) (A0_1 : Option Addr) (c0_1 : Nat) (r : Bool) (hF : pLetter N zb zg zl zn p0_4 p0_5 p0_6 p0_7 p0_8 p0_9 p0_10 p0_11 p1 = some r) (w0 : World) (hv0_0 : Vw (foots [plE g0 zA zc A0_1 c0_1 zb zg zl zn p0_4 p0_5 p0_6 p0_7 p0_8 p0_9 p0_10 p0_11]) .i32 w0 zA zc zb) (hv0_1 : Vw (foots [plE g0 zA zc A0_1 c0_1 zb zg zl zn p0_4 p0_5 p0_6 p0_7 p0_8 p0_9 p0_10 p0_11]) .u8 w0 A0_1 c0_1 zg) (hl : St (foots [plE g0 zA zc A0_1 c0_1 zb zg zl zn p0_4 p0_5 p0_6 p0_7 p0_8 p0_9 p0_10 p0_11]) w0 w0 [plE g0 zA zc A0_1 c0_1 zb zg zl zn p0_4 p0_5 p0_6 p0_7 p0_8 p0_9 p0_10 p0_11]) :
  Calls Tryz.prog 82 #[.pointer (some ⟨g0, 0, none⟩), .int .i64 p1] w0 fun e w => ∃ v, e = .returned v ∧ pLetter_R zb zg zl zn p0_4 p0_5 p0_6 p0_7 p0_8 p0_9 p0_10 p0_11 p1 g0 zA zc A0_1 c0_1 r w0 v w := by
 have hS0 := hl
 unfold pLetter at hF
 refine calls_of Tryz.func82 rfl ⟨((vP g0) :: (i6 p1) :: un 7 ([])).toArray, []⟩ (by kernel_rfl) (gx_seq (fun K1 hK2 => gx_region (gx_k (.bool false) w0 (gx_nil (gx_thenN (hK2 _ _ (gx_seq (fun K3 hK4 => ?_))))))))
 refine gx_region (gx_k (vP g0) w0 (gx_k (i6 p1) w0 (gx_r (st_made .u8 5 [0, 28] hS0 (by show 2 ≤ 1000000000; decide) (by kernel_rfl)) ?_)))
 rintro _ w5 ⟨rfl, hS6⟩
 have hS6 : St _ _ w5 [plE g0 zA zc A0_1 c0_1 zb zg zl zn p0_4 p0_5 p0_6 p0_7 p0_8 p0_9 p0_10 p0_11, rowE .u8 5 (some ⟨w0.heap.size, 0, none⟩) 2 ([0, 28])] := hS6
 have hP7 : St _ _ w5 ([plE g0 zA zc A0_1 c0_1 zb zg zl zn p0_4 p0_5 p0_6 p0_7 p0_8 p0_9 p0_10 p0_11] ++ [rowE .u8 5 (some ⟨w0.heap.size, 0, none⟩) 2 ([0, 28])]) := hS6
 obtain ⟨b9, hc8, hF⟩ := bind_in hF
 try dsimp only at hF
 refine gx_c _ (pIs_ok N zb zg zl zn p0_4 p0_5 p0_6 p0_7 p0_8 p0_9 p0_10 p0_11 p1 ([0, 28]) g0 zA zc A0_1 c0_1 (some ⟨w0.heap.size, 0, none⟩) 2 _ hc8 w5 (hP7.vwA hv0_0) (hP7.vwA hv0_1) (hP7.vwB 0 rfl) hP7.part) ?_
 rintro _ w10 ⟨rfl, hT12⟩
 have hS11 : St _ _ w10 [rowE .u8 5 (some ⟨w0.heap.size, 0, none⟩) 2 ([0, 28]), plE g0 zA zc A0_1 c0_1 zb zg zl zn p0_4 p0_5 p0_6 p0_7 p0_8 p0_9 p0_10 p0_11] := hP7.lendN _ hT12
 refine gx_k (.bool b9) w10 (gx_nil (gx_thenN (hK4 _ _ (gx_ret ?_))))
 obtain rfl := sj hF
 exact gxF (.bool b9) ⟨_, rfl, rfl, (hS11.pick [1] rfl rfl)⟩
def pOfWord (N : Nat) (zb : List Int) (zg : List Int) (zl : Int) (zn : Int) (p0_4 : Int) (p0_5 : Int) (p0_6 : Int) (p0_7 : Int) (p0_8 : Int) (p0_9 : Bool) (p0_10 : Bool) (p0_11 : Bool) (p1 : Int) : Option (Bool) :=
 ((pLetter N zb zg zl zn p0_4 p0_5 p0_6 p0_7 p0_8 p0_9 p0_10 p0_11 p1).bind fun b7 => (match b7 with | true => some true | false => ((pDigit N zb zg zl zn p0_4 p0_5 p0_6 p0_7 p0_8 p0_9 p0_10 p0_11 p1).bind fun b13 => some b13)))
def pOfWord_R (zb : List Int) (zg : List Int) (zl : Int) (zn : Int) (p0_4 : Int) (p0_5 : Int) (p0_6 : Int) (p0_7 : Int) (p0_8 : Int) (p0_9 : Bool) (p0_10 : Bool) (p0_11 : Bool) (p1 : Int) (g0 : Nat) (zA : Option Addr) (zc : Nat) (A0_1 : Option Addr) (c0_1 : Nat) (r : Bool) (w0 : World) (v : Value) (w : World) : Prop := v = .bool r ∧ St (foots [plE g0 zA zc A0_1 c0_1 zb zg zl zn p0_4 p0_5 p0_6 p0_7 p0_8 p0_9 p0_10 p0_11]) w0 w [plE g0 zA zc A0_1 c0_1 zb zg zl zn p0_4 p0_5 p0_6 p0_7 p0_8 p0_9 p0_10 p0_11]
theorem pOfWord_ok (N : Nat) (zb : List Int) (zg : List Int) (zl : Int) (zn : Int) (p0_4 : Int) (p0_5 : Int) (p0_6 : Int) (p0_7 : Int) (p0_8 : Int) (p0_9 : Bool) (p0_10 : Bool) (p0_11 : Bool) (p1 : Int) (g0 : Nat) (zA : Option Addr) (zc : Nat) (A0_1 : Option Addr) (c0_1 : Nat) (r : Bool) (hF : pOfWord N zb zg zl zn p0_4 p0_5 p0_6 p0_7 p0_8 p0_9 p0_10 p0_11 p1 = some r) (w0 : World) (hv0_0 : Vw (foots [plE g0 zA zc A0_1 c0_1 zb zg zl zn p0_4 p0_5 p0_6 p0_7 p0_8 p0_9 p0_10 p0_11]) .i32 w0 zA zc zb) (hv0_1 : Vw (foots [plE g0 zA zc A0_1 c0_1 zb zg zl zn p0_4 p0_5 p0_6 p0_7 p0_8 p0_9 p0_10 p0_11]) .u8 w0 A0_1 c0_1 zg) (hl : St (foots [plE g0 zA zc A0_1 c0_1 zb zg zl zn p0_4 p0_5 p0_6 p0_7 p0_8 p0_9 p0_10 p0_11]) w0 w0 [plE g0 zA zc A0_1 c0_1 zb zg zl zn p0_4 p0_5 p0_6 p0_7 p0_8 p0_9 p0_10 p0_11]) :
  Calls Tryz.prog 86 #[.pointer (some ⟨g0, 0, none⟩), .int .i64 p1] w0 fun e w => ∃ v, e = .returned v ∧ pOfWord_R zb zg zl zn p0_4 p0_5 p0_6 p0_7 p0_8 p0_9 p0_10 p0_11 p1 g0 zA zc A0_1 c0_1 r w0 v w := by
 have hS0 := hl
 unfold pOfWord at hF
 refine calls_of Tryz.func86 rfl ⟨((vP g0) :: (i6 p1) :: un 11 ([])).toArray, []⟩ (by kernel_rfl) (gx_seq (fun K1 hK2 => gx_region (gx_k (.bool false) w0 (gx_nil (gx_thenN (hK2 _ _ (gx_seq (fun K3 hK4 => ?_))))))))
 refine gx_region (gx_k (vP g0) w0 (gx_k (i6 p1) w0 ?_))
 have hP5 : St _ _ w0 ([plE g0 zA zc A0_1 c0_1 zb zg zl zn p0_4 p0_5 p0_6 p0_7 p0_8 p0_9 p0_10 p0_11] ++ []) := hS0
 obtain ⟨b7, hc6, hF⟩ := bind_in hF
 try dsimp only at hF
 refine gx_c _ (pLetter_ok N zb zg zl zn p0_4 p0_5 p0_6 p0_7 p0_8 p0_9 p0_10 p0_11 p1 g0 zA zc A0_1 c0_1 _ hc6 w0 (hP5.vwA hv0_0) (hP5.vwA hv0_1) hP5.part) ?_
 rintro _ w8 ⟨rfl, hT10⟩
 have hS9 : St _ _ w8 [plE g0 zA zc A0_1 c0_1 zb zg zl zn p0_4 p0_5 p0_6 p0_7 p0_8 p0_9 p0_10 p0_11] := hP5.lendN _ hT10
 refine gx_k (.bool b7) w8 ?_
 rcases b7 with _ | _
 try dsimp only at hF
 refine gx_k (vP g0) w8 (gx_k (i6 p1) w8 ?_)
 have hP11 : St _ _ w8 ([plE g0 zA zc A0_1 c0_1 zb zg zl zn p0_4 p0_5 p0_6 p0_7 p0_8 p0_9 p0_10 p0_11] ++ []) := hS9
 obtain ⟨b13, hc12, hF⟩ := bind_in hF
 try dsimp only at hF
 refine gx_c _ (pDigit_ok N zb zg zl zn p0_4 p0_5 p0_6 p0_7 p0_8 p0_9 p0_10 p0_11 p1 g0 zA zc A0_1 c0_1 _ hc12 w8 (hP11.vwA hv0_0) (hP11.vwA hv0_1) hP11.part) ?_
 rintro _ w14 ⟨rfl, hT16⟩
 have hS15 : St _ _ w14 [plE g0 zA zc A0_1 c0_1 zb zg zl zn p0_4 p0_5 p0_6 p0_7 p0_8 p0_9 p0_10 p0_11] := hP11.lendN _ hT16
 refine gx_k (.bool b13) w14 (gx_k (.bool b13) w14 (gx_nil (gx_thenN (hK4 _ _ (gx_ret ?_)))))
 obtain rfl := sj hF
 exact gxF (.bool b13) ⟨_, rfl, rfl, hS15⟩
 try dsimp only at hF
 refine gx_o (gx_o (gx_o (gx_k (.bool true) w8 (gx_k (.bool true) w8 (gx_nil (gx_thenN (hK4 _ _ (gx_ret ?_))))))))
 obtain rfl := sj hF
 exact gxF (.bool true) ⟨_, rfl, rfl, hS9⟩
def pSign (N : Nat) (zb : List Int) (zg : List Int) (zl : Int) (zn : Int) (p0_4 : Int) (p0_5 : Int) (p0_6 : Int) (p0_7 : Int) (p0_8 : Int) (p0_9 : Bool) (p0_10 : Bool) (p0_11 : Bool) (p1 : Int) : Option (Bool) :=
 ((pIs N zb zg zl zn p0_4 p0_5 p0_6 p0_7 p0_8 p0_9 p0_10 p0_11 p1 ([26, 25])).bind fun b9 => some b9)
def pSign_R (zb : List Int) (zg : List Int) (zl : Int) (zn : Int) (p0_4 : Int) (p0_5 : Int) (p0_6 : Int) (p0_7 : Int) (p0_8 : Int) (p0_9 : Bool) (p0_10 : Bool) (p0_11 : Bool) (p1 : Int) (g0 : Nat) (zA : Option Addr) (zc : Nat) (A0_1 : Option Addr) (c0_1 : Nat) (r : Bool) (w0 : World) (v : Value) (w : World) : Prop := v = .bool r ∧ St (foots [plE g0 zA zc A0_1 c0_1 zb zg zl zn p0_4 p0_5 p0_6 p0_7 p0_8 p0_9 p0_10 p0_11]) w0 w [plE g0 zA zc A0_1 c0_1 zb zg zl zn p0_4 p0_5 p0_6 p0_7 p0_8 p0_9 p0_10 p0_11]
theorem pSign_ok (N : Nat) (zb : List Int) (zg : List Int) (zl : Int) (zn : Int) (p0_4 : Int) (p0_5 : Int) (p0_6 : Int) (p0_7 : Int) (p0_8 : Int) (p0_9 : Bool) (p0_10 : Bool) (p0_11 : Bool) (p1 : Int) (g0 : Nat) (zA : Option Addr) (zc : Nat) (A0_1 : Option Addr) (c0_1 : Nat) (r : Bool) (hF : pSign N zb zg zl zn p0_4 p0_5 p0_6 p0_7 p0_8 p0_9 p0_10 p0_11 p1 = some r) (w0 : World) (hv0_0 : Vw (foots [plE g0 zA zc A0_1 c0_1 zb zg zl zn p0_4 p0_5 p0_6 p0_7 p0_8 p0_9 p0_10 p0_11]) .i32 w0 zA zc zb) (hv0_1 : Vw (foots [plE g0 zA zc A0_1 c0_1 zb zg zl zn p0_4 p0_5 p0_6 p0_7 p0_8 p0_9 p0_10 p0_11]) .u8 w0 A0_1 c0_1 zg) (hl : St (foots [plE g0 zA zc A0_1 c0_1 zb zg zl zn p0_4 p0_5 p0_6 p0_7 p0_8 p0_9 p0_10 p0_11]) w0 w0 [plE g0 zA zc A0_1 c0_1 zb zg zl zn p0_4 p0_5 p0_6 p0_7 p0_8 p0_9 p0_10 p0_11]) :
  Calls Tryz.prog 84 #[.pointer (some ⟨g0, 0, none⟩), .int .i64 p1] w0 fun e w => ∃ v, e = .returned v ∧ pSign_R zb zg zl zn p0_4 p0_5 p0_6 p0_7 p0_8 p0_9 p0_10 p0_11 p1 g0 zA zc A0_1 c0_1 r w0 v w := by
 have hS0 := hl
 unfold pSign at hF
 refine calls_of Tryz.func84 rfl ⟨((vP g0) :: (i6 p1) :: un 7 ([])).toArray, []⟩ (by kernel_rfl) (gx_seq (fun K1 hK2 => gx_region (gx_k (.bool false) w0 (gx_nil (gx_thenN (hK2 _ _ (gx_seq (fun K3 hK4 => ?_))))))))
 refine gx_region (gx_k (vP g0) w0 (gx_k (i6 p1) w0 (gx_r (st_made .u8 5 [26, 25] hS0 (by show 2 ≤ 1000000000; decide) (by kernel_rfl)) ?_)))
 rintro _ w5 ⟨rfl, hS6⟩
 have hS6 : St _ _ w5 [plE g0 zA zc A0_1 c0_1 zb zg zl zn p0_4 p0_5 p0_6 p0_7 p0_8 p0_9 p0_10 p0_11, rowE .u8 5 (some ⟨w0.heap.size, 0, none⟩) 2 ([26, 25])] := hS6
 have hP7 : St _ _ w5 ([plE g0 zA zc A0_1 c0_1 zb zg zl zn p0_4 p0_5 p0_6 p0_7 p0_8 p0_9 p0_10 p0_11] ++ [rowE .u8 5 (some ⟨w0.heap.size, 0, none⟩) 2 ([26, 25])]) := hS6
 obtain ⟨b9, hc8, hF⟩ := bind_in hF
 try dsimp only at hF
 refine gx_c _ (pIs_ok N zb zg zl zn p0_4 p0_5 p0_6 p0_7 p0_8 p0_9 p0_10 p0_11 p1 ([26, 25]) g0 zA zc A0_1 c0_1 (some ⟨w0.heap.size, 0, none⟩) 2 _ hc8 w5 (hP7.vwA hv0_0) (hP7.vwA hv0_1) (hP7.vwB 0 rfl) hP7.part) ?_
 rintro _ w10 ⟨rfl, hT12⟩
 have hS11 : St _ _ w10 [rowE .u8 5 (some ⟨w0.heap.size, 0, none⟩) 2 ([26, 25]), plE g0 zA zc A0_1 c0_1 zb zg zl zn p0_4 p0_5 p0_6 p0_7 p0_8 p0_9 p0_10 p0_11] := hP7.lendN _ hT12
 refine gx_k (.bool b9) w10 (gx_nil (gx_thenN (hK4 _ _ (gx_ret ?_))))
 obtain rfl := sj hF
 exact gxF (.bool b9) ⟨_, rfl, rfl, (hS11.pick [1] rfl rfl)⟩
def pPict (N : Nat) (zb : List Int) (zg : List Int) (zl : Int) (zn : Int) (p0_4 : Int) (p0_5 : Int) (p0_6 : Int) (p0_7 : Int) (p0_8 : Int) (p0_9 : Bool) (p0_10 : Bool) (p0_11 : Bool) (p1 : Int) : Option (Bool) :=
 ((pIs N zb zg zl zn p0_4 p0_5 p0_6 p0_7 p0_8 p0_9 p0_10 p0_11 p1 ([29, 30, 31])).bind fun b9 => some b9)
def pPict_R (zb : List Int) (zg : List Int) (zl : Int) (zn : Int) (p0_4 : Int) (p0_5 : Int) (p0_6 : Int) (p0_7 : Int) (p0_8 : Int) (p0_9 : Bool) (p0_10 : Bool) (p0_11 : Bool) (p1 : Int) (g0 : Nat) (zA : Option Addr) (zc : Nat) (A0_1 : Option Addr) (c0_1 : Nat) (r : Bool) (w0 : World) (v : Value) (w : World) : Prop := v = .bool r ∧ St (foots [plE g0 zA zc A0_1 c0_1 zb zg zl zn p0_4 p0_5 p0_6 p0_7 p0_8 p0_9 p0_10 p0_11]) w0 w [plE g0 zA zc A0_1 c0_1 zb zg zl zn p0_4 p0_5 p0_6 p0_7 p0_8 p0_9 p0_10 p0_11]
theorem pPict_ok (N : Nat) (zb : List Int) (zg : List Int) (zl : Int) (zn : Int) (p0_4 : Int) (p0_5 : Int) (p0_6 : Int) (p0_7 : Int) (p0_8 : Int) (p0_9 : Bool) (p0_10 : Bool) (p0_11 : Bool) (p1 : Int) (g0 : Nat) (zA : Option Addr) (zc : Nat) (A0_1 : Option Addr) (c0_1 : Nat) (r : Bool) (hF : pPict N zb zg zl zn p0_4 p0_5 p0_6 p0_7 p0_8 p0_9 p0_10 p0_11 p1 = some r) (w0 : World) (hv0_0 : Vw (foots [plE g0 zA zc A0_1 c0_1 zb zg zl zn p0_4 p0_5 p0_6 p0_7 p0_8 p0_9 p0_10 p0_11]) .i32 w0 zA zc zb) (hv0_1 : Vw (foots [plE g0 zA zc A0_1 c0_1 zb zg zl zn p0_4 p0_5 p0_6 p0_7 p0_8 p0_9 p0_10 p0_11]) .u8 w0 A0_1 c0_1 zg) (hl : St (foots [plE g0 zA zc A0_1 c0_1 zb zg zl zn p0_4 p0_5 p0_6 p0_7 p0_8 p0_9 p0_10 p0_11]) w0 w0 [plE g0 zA zc A0_1 c0_1 zb zg zl zn p0_4 p0_5 p0_6 p0_7 p0_8 p0_9 p0_10 p0_11]) :
  Calls Tryz.prog 83 #[.pointer (some ⟨g0, 0, none⟩), .int .i64 p1] w0 fun e w => ∃ v, e = .returned v ∧ pPict_R zb zg zl zn p0_4 p0_5 p0_6 p0_7 p0_8 p0_9 p0_10 p0_11 p1 g0 zA zc A0_1 c0_1 r w0 v w := by
 have hS0 := hl
 unfold pPict at hF
 refine calls_of Tryz.func83 rfl ⟨((vP g0) :: (i6 p1) :: un 7 ([])).toArray, []⟩ (by kernel_rfl) (gx_seq (fun K1 hK2 => gx_region (gx_k (.bool false) w0 (gx_nil (gx_thenN (hK2 _ _ (gx_seq (fun K3 hK4 => ?_))))))))
 refine gx_region (gx_k (vP g0) w0 (gx_k (i6 p1) w0 (gx_r (st_made .u8 5 [29, 30, 31] hS0 (by show 3 ≤ 1000000000; decide) (by kernel_rfl)) ?_)))
 rintro _ w5 ⟨rfl, hS6⟩
 have hS6 : St _ _ w5 [plE g0 zA zc A0_1 c0_1 zb zg zl zn p0_4 p0_5 p0_6 p0_7 p0_8 p0_9 p0_10 p0_11, rowE .u8 5 (some ⟨w0.heap.size, 0, none⟩) 3 ([29, 30, 31])] := hS6
 have hP7 : St _ _ w5 ([plE g0 zA zc A0_1 c0_1 zb zg zl zn p0_4 p0_5 p0_6 p0_7 p0_8 p0_9 p0_10 p0_11] ++ [rowE .u8 5 (some ⟨w0.heap.size, 0, none⟩) 3 ([29, 30, 31])]) := hS6
 obtain ⟨b9, hc8, hF⟩ := bind_in hF
 try dsimp only at hF
 refine gx_c _ (pIs_ok N zb zg zl zn p0_4 p0_5 p0_6 p0_7 p0_8 p0_9 p0_10 p0_11 p1 ([29, 30, 31]) g0 zA zc A0_1 c0_1 (some ⟨w0.heap.size, 0, none⟩) 3 _ hc8 w5 (hP7.vwA hv0_0) (hP7.vwA hv0_1) (hP7.vwB 0 rfl) hP7.part) ?_
 rintro _ w10 ⟨rfl, hT12⟩
 have hS11 : St _ _ w10 [rowE .u8 5 (some ⟨w0.heap.size, 0, none⟩) 3 ([29, 30, 31]), plE g0 zA zc A0_1 c0_1 zb zg zl zn p0_4 p0_5 p0_6 p0_7 p0_8 p0_9 p0_10 p0_11] := hP7.lendN _ hT12
 refine gx_k (.bool b9) w10 (gx_nil (gx_thenN (hK4 _ _ (gx_ret ?_))))
 obtain rfl := sj hF
 exact gxF (.bool b9) ⟨_, rfl, rfl, (hS11.pick [1] rfl rfl)⟩
def pSyl (N : Nat) (zb : List Int) (zg : List Int) (zl : Int) (zn : Int) (p0_4 : Int) (p0_5 : Int) (p0_6 : Int) (p0_7 : Int) (p0_8 : Int) (p0_9 : Bool) (p0_10 : Bool) (p0_11 : Bool) (p1 : Int) : Option (Bool) :=
 ((pIs N zb zg zl zn p0_4 p0_5 p0_6 p0_7 p0_8 p0_9 p0_10 p0_11 p1 ([33, 34, 35, 36, 37])).bind fun b9 => some b9)
def pSyl_R (zb : List Int) (zg : List Int) (zl : Int) (zn : Int) (p0_4 : Int) (p0_5 : Int) (p0_6 : Int) (p0_7 : Int) (p0_8 : Int) (p0_9 : Bool) (p0_10 : Bool) (p0_11 : Bool) (p1 : Int) (g0 : Nat) (zA : Option Addr) (zc : Nat) (A0_1 : Option Addr) (c0_1 : Nat) (r : Bool) (w0 : World) (v : Value) (w : World) : Prop := v = .bool r ∧ St (foots [plE g0 zA zc A0_1 c0_1 zb zg zl zn p0_4 p0_5 p0_6 p0_7 p0_8 p0_9 p0_10 p0_11]) w0 w [plE g0 zA zc A0_1 c0_1 zb zg zl zn p0_4 p0_5 p0_6 p0_7 p0_8 p0_9 p0_10 p0_11]
theorem pSyl_ok (N : Nat) (zb : List Int) (zg : List Int) (zl : Int) (zn : Int) (p0_4 : Int) (p0_5 : Int) (p0_6 : Int) (p0_7 : Int) (p0_8 : Int) (p0_9 : Bool) (p0_10 : Bool) (p0_11 : Bool) (p1 : Int) (g0 : Nat) (zA : Option Addr) (zc : Nat) (A0_1 : Option Addr) (c0_1 : Nat) (r : Bool) (hF : pSyl N zb zg zl zn p0_4 p0_5 p0_6 p0_7 p0_8 p0_9 p0_10 p0_11 p1 = some r) (w0 : World) (hv0_0 : Vw (foots [plE g0 zA zc A0_1 c0_1 zb zg zl zn p0_4 p0_5 p0_6 p0_7 p0_8 p0_9 p0_10 p0_11]) .i32 w0 zA zc zb) (hv0_1 : Vw (foots [plE g0 zA zc A0_1 c0_1 zb zg zl zn p0_4 p0_5 p0_6 p0_7 p0_8 p0_9 p0_10 p0_11]) .u8 w0 A0_1 c0_1 zg) (hl : St (foots [plE g0 zA zc A0_1 c0_1 zb zg zl zn p0_4 p0_5 p0_6 p0_7 p0_8 p0_9 p0_10 p0_11]) w0 w0 [plE g0 zA zc A0_1 c0_1 zb zg zl zn p0_4 p0_5 p0_6 p0_7 p0_8 p0_9 p0_10 p0_11]) :
  Calls Tryz.prog 85 #[.pointer (some ⟨g0, 0, none⟩), .int .i64 p1] w0 fun e w => ∃ v, e = .returned v ∧ pSyl_R zb zg zl zn p0_4 p0_5 p0_6 p0_7 p0_8 p0_9 p0_10 p0_11 p1 g0 zA zc A0_1 c0_1 r w0 v w := by
 have hS0 := hl
 unfold pSyl at hF
 refine calls_of Tryz.func85 rfl ⟨((vP g0) :: (i6 p1) :: un 7 ([])).toArray, []⟩ (by kernel_rfl) (gx_seq (fun K1 hK2 => gx_region (gx_k (.bool false) w0 (gx_nil (gx_thenN (hK2 _ _ (gx_seq (fun K3 hK4 => ?_))))))))
 refine gx_region (gx_k (vP g0) w0 (gx_k (i6 p1) w0 (gx_r (st_made .u8 5 [33, 34, 35, 36, 37] hS0 (by show 5 ≤ 1000000000; decide) (by kernel_rfl)) ?_)))
 rintro _ w5 ⟨rfl, hS6⟩
 have hS6 : St _ _ w5 [plE g0 zA zc A0_1 c0_1 zb zg zl zn p0_4 p0_5 p0_6 p0_7 p0_8 p0_9 p0_10 p0_11, rowE .u8 5 (some ⟨w0.heap.size, 0, none⟩) 5 ([33, 34, 35, 36, 37])] := hS6
 have hP7 : St _ _ w5 ([plE g0 zA zc A0_1 c0_1 zb zg zl zn p0_4 p0_5 p0_6 p0_7 p0_8 p0_9 p0_10 p0_11] ++ [rowE .u8 5 (some ⟨w0.heap.size, 0, none⟩) 5 ([33, 34, 35, 36, 37])]) := hS6
 obtain ⟨b9, hc8, hF⟩ := bind_in hF
 try dsimp only at hF
 refine gx_c _ (pIs_ok N zb zg zl zn p0_4 p0_5 p0_6 p0_7 p0_8 p0_9 p0_10 p0_11 p1 ([33, 34, 35, 36, 37]) g0 zA zc A0_1 c0_1 (some ⟨w0.heap.size, 0, none⟩) 5 _ hc8 w5 (hP7.vwA hv0_0) (hP7.vwA hv0_1) (hP7.vwB 0 rfl) hP7.part) ?_
 rintro _ w10 ⟨rfl, hT12⟩
 have hS11 : St _ _ w10 [rowE .u8 5 (some ⟨w0.heap.size, 0, none⟩) 5 ([33, 34, 35, 36, 37]), plE g0 zA zc A0_1 c0_1 zb zg zl zn p0_4 p0_5 p0_6 p0_7 p0_8 p0_9 p0_10 p0_11] := hP7.lendN _ hT12
 refine gx_k (.bool b9) w10 (gx_nil (gx_thenN (hK4 _ _ (gx_ret ?_))))
 obtain rfl := sj hF
 exact gxF (.bool b9) ⟨_, rfl, rfl, (hS11.pick [1] rfl rfl)⟩
def pEdge (N : Nat) (zb : List Int) (zg : List Int) (zl : Int) (zn : Int) (p0_4 : Int) (p0_5 : Int) (p0_6 : Int) (p0_7 : Int) (p0_8 : Int) (p0_9 : Bool) (p0_10 : Bool) (p0_11 : Bool) (p1 : Int) : Option (Bool) :=
 ((pIs N zb zg zl zn p0_4 p0_5 p0_6 p0_7 p0_8 p0_9 p0_10 p0_11 p1 ([38, 1, 2, 3, 4, 5, 6, 8])).bind fun b9 => some b9)
def pEdge_R (zb : List Int) (zg : List Int) (zl : Int) (zn : Int) (p0_4 : Int) (p0_5 : Int) (p0_6 : Int) (p0_7 : Int) (p0_8 : Int) (p0_9 : Bool) (p0_10 : Bool) (p0_11 : Bool) (p1 : Int) (g0 : Nat) (zA : Option Addr) (zc : Nat) (A0_1 : Option Addr) (c0_1 : Nat) (r : Bool) (w0 : World) (v : Value) (w : World) : Prop := v = .bool r ∧ St (foots [plE g0 zA zc A0_1 c0_1 zb zg zl zn p0_4 p0_5 p0_6 p0_7 p0_8 p0_9 p0_10 p0_11]) w0 w [plE g0 zA zc A0_1 c0_1 zb zg zl zn p0_4 p0_5 p0_6 p0_7 p0_8 p0_9 p0_10 p0_11]
theorem pEdge_ok (N : Nat) (zb : List Int) (zg : List Int) (zl : Int) (zn : Int) (p0_4 : Int) (p0_5 : Int) (p0_6 : Int) (p0_7 : Int) (p0_8 : Int) (p0_9 : Bool) (p0_10 : Bool) (p0_11 : Bool) (p1 : Int) (g0 : Nat) (zA : Option Addr) (zc : Nat) (A0_1 : Option Addr) (c0_1 : Nat) (r : Bool) (hF : pEdge N zb zg zl zn p0_4 p0_5 p0_6 p0_7 p0_8 p0_9 p0_10 p0_11 p1 = some r) (w0 : World) (hv0_0 : Vw (foots [plE g0 zA zc A0_1 c0_1 zb zg zl zn p0_4 p0_5 p0_6 p0_7 p0_8 p0_9 p0_10 p0_11]) .i32 w0 zA zc zb) (hv0_1 : Vw (foots [plE g0 zA zc A0_1 c0_1 zb zg zl zn p0_4 p0_5 p0_6 p0_7 p0_8 p0_9 p0_10 p0_11]) .u8 w0 A0_1 c0_1 zg) (hl : St (foots [plE g0 zA zc A0_1 c0_1 zb zg zl zn p0_4 p0_5 p0_6 p0_7 p0_8 p0_9 p0_10 p0_11]) w0 w0 [plE g0 zA zc A0_1 c0_1 zb zg zl zn p0_4 p0_5 p0_6 p0_7 p0_8 p0_9 p0_10 p0_11]) :
  Calls Tryz.prog 77 #[.pointer (some ⟨g0, 0, none⟩), .int .i64 p1] w0 fun e w => ∃ v, e = .returned v ∧ pEdge_R zb zg zl zn p0_4 p0_5 p0_6 p0_7 p0_8 p0_9 p0_10 p0_11 p1 g0 zA zc A0_1 c0_1 r w0 v w := by
 have hS0 := hl
 unfold pEdge at hF
 refine calls_of Tryz.func77 rfl ⟨((vP g0) :: (i6 p1) :: un 7 ([])).toArray, []⟩ (by kernel_rfl) (gx_seq (fun K1 hK2 => gx_region (gx_k (.bool false) w0 (gx_nil (gx_thenN (hK2 _ _ (gx_seq (fun K3 hK4 => ?_))))))))
 refine gx_region (gx_k (vP g0) w0 (gx_k (i6 p1) w0 (gx_r (st_made .u8 5 [38, 1, 2, 3, 4, 5, 6, 8] hS0 (by show 8 ≤ 1000000000; decide) (by kernel_rfl)) ?_)))
 rintro _ w5 ⟨rfl, hS6⟩
 have hS6 : St _ _ w5 [plE g0 zA zc A0_1 c0_1 zb zg zl zn p0_4 p0_5 p0_6 p0_7 p0_8 p0_9 p0_10 p0_11, rowE .u8 5 (some ⟨w0.heap.size, 0, none⟩) 8 ([38, 1, 2, 3, 4, 5, 6, 8])] := hS6
 have hP7 : St _ _ w5 ([plE g0 zA zc A0_1 c0_1 zb zg zl zn p0_4 p0_5 p0_6 p0_7 p0_8 p0_9 p0_10 p0_11] ++ [rowE .u8 5 (some ⟨w0.heap.size, 0, none⟩) 8 ([38, 1, 2, 3, 4, 5, 6, 8])]) := hS6
 obtain ⟨b9, hc8, hF⟩ := bind_in hF
 try dsimp only at hF
 refine gx_c _ (pIs_ok N zb zg zl zn p0_4 p0_5 p0_6 p0_7 p0_8 p0_9 p0_10 p0_11 p1 ([38, 1, 2, 3, 4, 5, 6, 8]) g0 zA zc A0_1 c0_1 (some ⟨w0.heap.size, 0, none⟩) 8 _ hc8 w5 (hP7.vwA hv0_0) (hP7.vwA hv0_1) (hP7.vwB 0 rfl) hP7.part) ?_
 rintro _ w10 ⟨rfl, hT12⟩
 have hS11 : St _ _ w10 [rowE .u8 5 (some ⟨w0.heap.size, 0, none⟩) 8 ([38, 1, 2, 3, 4, 5, 6, 8]), plE g0 zA zc A0_1 c0_1 zb zg zl zn p0_4 p0_5 p0_6 p0_7 p0_8 p0_9 p0_10 p0_11] := hP7.lendN _ hT12
 refine gx_k (.bool b9) w10 (gx_nil (gx_thenN (hK4 _ _ (gx_ret ?_))))
 obtain rfl := sj hF
 exact gxF (.bool b9) ⟨_, rfl, rfl, (hS11.pick [1] rfl rfl)⟩
def pQuotes_L1 (N : Nat) (zb : List Int) (p1 : Int) : Nat → (List Int) → Option (Ctl (Unit) (Bool))
 | 0, _ => none
 | k29+1, m28 => (match m28 with | [] => some (Ctl.go ()) | x33 :: l34 => ((ix zb p1).bind fun x48 => (if x48 = x33 then some (Ctl.ret true) else pQuotes_L1 N zb p1 k29 l34)))
def pQuotes (N : Nat) (zb : List Int) (zg : List Int) (zl : Int) (zn : Int) (p0_4 : Int) (p0_5 : Int) (p0_6 : Int) (p0_7 : Int) (p0_8 : Int) (p0_9 : Bool) (p0_10 : Bool) (p0_11 : Bool) (p1 : Int) (p2 : ByteArray) : Option (Bool) :=
 ((pIs N zb zg zl zn p0_4 p0_5 p0_6 p0_7 p0_8 p0_9 p0_10 p0_11 p1 ([22])).bind fun b11 => (match b11 with | true => ((pQuotes_L1 N zb p1 N (runesL p2 p2.size 0) : Option (Ctl (Unit) (Bool))).bind fun | Ctl.go () => some false | Ctl.ret r => some r) | false => some false))
def pQuotes_R (zb : List Int) (zg : List Int) (zl : Int) (zn : Int) (p0_4 : Int) (p0_5 : Int) (p0_6 : Int) (p0_7 : Int) (p0_8 : Int) (p0_9 : Bool) (p0_10 : Bool) (p0_11 : Bool) (p1 : Int) (p2 : ByteArray) (g0 : Nat) (zA : Option Addr) (zc : Nat) (A0_1 : Option Addr) (c0_1 : Nat) (r : Bool) (w0 : World) (v : Value) (w : World) : Prop := v = .bool r ∧ St (foots [plE g0 zA zc A0_1 c0_1 zb zg zl zn p0_4 p0_5 p0_6 p0_7 p0_8 p0_9 p0_10 p0_11]) w0 w [plE g0 zA zc A0_1 c0_1 zb zg zl zn p0_4 p0_5 p0_6 p0_7 p0_8 p0_9 p0_10 p0_11]
theorem pQuotes_ok (N : Nat) (zb : List Int) (zg : List Int) (zl : Int) (zn : Int) (p0_4 : Int) (p0_5 : Int) (p0_6 : Int) (p0_7 : Int) (p0_8 : Int) (p0_9 : Bool) (p0_10 : Bool) (p0_11 : Bool) (p1 : Int) (p2 : ByteArray) (g0 : Nat) (zA : Option Addr) (zc : Nat) (A0_1 : Option Addr) (c0_1 : Nat) (r : Bool) (hF : pQuotes N zb zg zl zn p0_4 p0_5 p0_6 p0_7 p0_8 p0_9 p0_10 p0_11 p1 p2 = some r) (w0 : World) (hv0_0 : Vw (foots [plE g0 zA zc A0_1 c0_1 zb zg zl zn p0_4 p0_5 p0_6 p0_7 p0_8 p0_9 p0_10 p0_11]) .i32 w0 zA zc zb) (hv0_1 : Vw (foots [plE g0 zA zc A0_1 c0_1 zb zg zl zn p0_4 p0_5 p0_6 p0_7 p0_8 p0_9 p0_10 p0_11]) .u8 w0 A0_1 c0_1 zg) (hl : St (foots [plE g0 zA zc A0_1 c0_1 zb zg zl zn p0_4 p0_5 p0_6 p0_7 p0_8 p0_9 p0_10 p0_11]) w0 w0 [plE g0 zA zc A0_1 c0_1 zb zg zl zn p0_4 p0_5 p0_6 p0_7 p0_8 p0_9 p0_10 p0_11]) :
  Calls Tryz.prog 96 #[.pointer (some ⟨g0, 0, none⟩), .int .i64 p1, .string p2] w0 fun e w => ∃ v, e = .returned v ∧ pQuotes_R zb zg zl zn p0_4 p0_5 p0_6 p0_7 p0_8 p0_9 p0_10 p0_11 p1 p2 g0 zA zc A0_1 c0_1 r w0 v w := by
 have hS0 := hl
 unfold pQuotes at hF
 refine calls_of Tryz.func96 rfl ⟨((vP g0) :: (i6 p1) :: (.string p2) :: un 25 ([])).toArray, []⟩ (by kernel_rfl) (gx_seq (fun K1 hK2 => gx_region (gx_k (.bool false) w0 (gx_nil (gx_thenN (hK2 _ _ (gx_seq (fun K3 hK4 => ?_))))))))
 refine gx_seq (fun K5 hK6 => gx_region (gx_k (vP g0) w0 (gx_k (i6 p1) w0 (gx_r (st_made .u8 5 [22] hS0 (by show 1 ≤ 1000000000; decide) (by kernel_rfl)) ?_))))
 rintro _ w7 ⟨rfl, hS8⟩
 have hS8 : St _ _ w7 [plE g0 zA zc A0_1 c0_1 zb zg zl zn p0_4 p0_5 p0_6 p0_7 p0_8 p0_9 p0_10 p0_11, rowE .u8 5 (some ⟨w0.heap.size, 0, none⟩) 1 ([22])] := hS8
 have hP9 : St _ _ w7 ([plE g0 zA zc A0_1 c0_1 zb zg zl zn p0_4 p0_5 p0_6 p0_7 p0_8 p0_9 p0_10 p0_11] ++ [rowE .u8 5 (some ⟨w0.heap.size, 0, none⟩) 1 ([22])]) := hS8
 obtain ⟨b11, hc10, hF⟩ := bind_in hF
 try dsimp only at hF
 refine gx_c _ (pIs_ok N zb zg zl zn p0_4 p0_5 p0_6 p0_7 p0_8 p0_9 p0_10 p0_11 p1 ([22]) g0 zA zc A0_1 c0_1 (some ⟨w0.heap.size, 0, none⟩) 1 _ hc10 w7 (hP9.vwA hv0_0) (hP9.vwA hv0_1) (hP9.vwB 0 rfl) hP9.part) ?_
 rintro _ w12 ⟨rfl, hT14⟩
 have hS13 : St _ _ w12 [rowE .u8 5 (some ⟨w0.heap.size, 0, none⟩) 1 ([22]), plE g0 zA zc A0_1 c0_1 zb zg zl zn p0_4 p0_5 p0_6 p0_7 p0_8 p0_9 p0_10 p0_11] := hP9.lendN _ hT14
 rcases b11 with _ | _
 try dsimp only at hF
 refine gx_k (.bool true) w12 (gx_nil (gx_thenN (hK6 _ _ (gx_yes (by kernel_rfl) (gx_seq (fun K57 hK58 => gx_region (gx_k (.bool false) w12 ?_)))))))
 refine gx_nil (gx_thenN (hK58 _ _ (gx_ret (gx_thenR ?_))))
 obtain rfl := sj hF
 exact gxF (.bool false) ⟨_, rfl, rfl, (hS13.pick [1] rfl rfl)⟩
 try dsimp only at hF
 refine gx_k (.bool false) w12 (gx_nil (gx_thenN (hK6 _ _ (gx_no (by kernel_rfl) (gx_pass (gx_thenN (hK4 _ _ ?_)))))))
 obtain ⟨c18, hE19, hO20⟩ := bind_in hF
 refine gx_cut (fun a w => selfA (fun u17 => ⟨((vP g0) :: (i6 p1) :: (.string p2) :: un 3 ((u17 6) :: undef :: (u17 8) :: (vP g0) :: (i6 p1) :: (u17 11) :: (.bool true) :: (.bool false) :: dd u17 14 14 ([]))).toArray, []⟩) a ∧ Ctl.go () = c18 ∧ St (foots [plE g0 zA zc A0_1 c0_1 zb zg zl zn p0_4 p0_5 p0_6 p0_7 p0_8 p0_9 p0_10 p0_11]) w0 w [plE g0 zA zc A0_1 c0_1 zb zg zl zn p0_4 p0_5 p0_6 p0_7 p0_8 p0_9 p0_10 p0_11]) ?_ ?_
 refine gx_seq (fun K21 hK22 => gx_region (gx_k (.string p2) w12 (gx_r (st_range (s := p2) rfl (by kernel_rfl) (by kernel_rfl) hS13) ?_)))
 rintro _ w23 ⟨rfl, hS24⟩
 have hS24 : St _ _ w23 [rowE .u8 5 (some ⟨w0.heap.size, 0, none⟩) 1 ([22]), plE g0 zA zc A0_1 c0_1 zb zg zl zn p0_4 p0_5 p0_6 p0_7 p0_8 p0_9 p0_10 p0_11, itE w12.heap.size (runesL p2 p2.size 0)] := hS24
 refine gx_nil (gx_thenN (hK22 _ _ (gx_block (gx_loop (fun k a w => ∃ (m28 : List Int), selfA (fun u27 => ⟨((vP g0) :: (i6 p1) :: (.string p2) :: un 3 ((u27 6) :: undef :: (u27 8) :: (vP g0) :: (i6 p1) :: (u27 11) :: (.bool true) :: (.bool false) :: (.string p2) :: (vP w12.heap.size) :: dd u27 16 12 ([]))).toArray, []⟩) a ∧ pQuotes_L1 N zb p1 k m28 = some c18 ∧ St (foots [plE g0 zA zc A0_1 c0_1 zb zg zl zn p0_4 p0_5 p0_6 p0_7 p0_8 p0_9 p0_10 p0_11]) w0 w [plE g0 zA zc A0_1 c0_1 zb zg zl zn p0_4 p0_5 p0_6 p0_7 p0_8 p0_9 p0_10 p0_11, itE w12.heap.size m28]) N ?_ ?_))))
 exact ⟨(runesL p2 p2.size 0), selfA_i (by kernel_rfl), hE19, (hS24.pick [1, 2] rfl rfl)⟩
 rintro k29 _ w25 ⟨m28, hq53, hL30, hS26⟩
 obtain ⟨u27, rfl⟩ := selfA_u hq53
 rcases k29 with _ | k29
 cases hL30
 first | rw [pQuotes_L1] at hL30 | unfold pQuotes_L1 at hL30
 refine gx_seq (fun K31 hK32 => gx_region ?_)
 rcases m28 with _ | ⟨x33, l34⟩
 try dsimp only at hL30
 refine gx_v (.tuple #[.bool false]) w25 (run_nextend rfl (by kernel_rfl) (hS26.get 1 rfl)) (gx_k (.bool false) w25 (gx_nil (gx_thenN (hK32 _ _ (gx_seq (fun K40 hK41 => gx_no (by kernel_rfl) (gx_exit ?_)))))))
 refine gx_thenE (gx_thenE (gx_blkE (gx_thenN ?_)))
 exact ⟨selfA_i (by kernel_rfl), (sj hL30), (hS26.pick [0] rfl rfl)⟩
 try dsimp only at hL30
 refine gx_r (st_next rfl (by kernel_rfl) (hS26) 1 rfl) ?_
 rintro _ w36 ⟨q35, rfl, hS37⟩
 have hS37 : St _ _ w36 [plE g0 zA zc A0_1 c0_1 zb zg zl zn p0_4 p0_5 p0_6 p0_7 p0_8 p0_9 p0_10 p0_11, itE w12.heap.size l34] := hS37
 refine gx_k (.bool true) w36 (gx_nil (gx_thenN (hK32 _ _ (gx_seq (fun K42 hK43 => gx_yes (by kernel_rfl) (gx_pass (gx_thenN ?_)))))))
 refine hK43 _ _ (gx_block (gx_seq (fun K44 hK45 => gx_region (gx_k (.int .i32 x33) w36 (gx_k (.int .i32 x33) w36 (gx_nil (gx_thenN (hK45 _ _ ?_))))))))
 refine gx_seq (fun K46 hK47 => gx_region (gx_k (vP g0) w36 (gx_k (vP g0) w36 (gx_k (vP g0) w36 (gx_v (.slice zA zb.length zc) w36 (rl1 (hS37.box 0 rfl 0 rfl)) (gx_k (i6 p1) w36 ?_))))))
 obtain ⟨x48, hx49, hL30⟩ := bind_in hL30
 refine gx_v (pI p1 zA) w36 (rix 21 .i64 hx49 ((hS37.view hv0_0))) (gx_v (.int .i32 x48) w36 (rlx (hS37.view hv0_0) hx49) (gx_k (.int .i32 x33) w36 ?_))
 rcases if_in hL30 with ⟨h50, hL30⟩ | ⟨h50, hL30⟩
 refine gx_v (.bool true) w36 (rbE (decide_eq_true h50)) (gx_nil (gx_thenN (hK47 _ _ (gx_yes (by kernel_rfl) (gx_seq (fun K51 hK52 => gx_region (gx_k (.bool true) w36 ?_)))))))
 refine gx_nil (gx_thenN (hK52 _ _ (gx_ret (gx_blkR (gx_thenR (gx_blkR (gx_thenR ?_)))))))
 obtain rfl := sj hL30
 try dsimp only at hO20
 obtain rfl := sj hO20
 exact gxF (.bool true) ⟨_, rfl, rfl, (hS37.pick [0] rfl rfl)⟩
 refine gx_v (.bool false) w36 (rbE (decide_eq_false h50)) (gx_nil (gx_thenN (hK47 _ _ (gx_no (by kernel_rfl) (gx_pass (gx_blkN (gx_thenN ?_)))))))
 exact ⟨k29, Nat.lt_succ_self k29, l34, selfA_i (by kernel_rfl), hL30, hS37⟩
 rintro _ w15 ⟨hq56, rfl, hS16⟩
 obtain ⟨u17, rfl⟩ := selfA_u hq56
 try dsimp only at hO20
 refine gx_seq (fun K54 hK55 => gx_region (gx_k (.bool false) w15 (gx_nil (gx_thenN (hK55 _ _ (gx_ret ?_))))))
 obtain rfl := sj hO20
 exact gxF (.bool false) ⟨_, rfl, rfl, hS16⟩
def pOpens (N : Nat) (zb : List Int) (zg : List Int) (zl : Int) (zn : Int) (p0_4 : Int) (p0_5 : Int) (p0_6 : Int) (p0_7 : Int) (p0_8 : Int) (p0_9 : Bool) (p0_10 : Bool) (p0_11 : Bool) (p1 : Int) : Option (Bool) :=
 ((pQuotes N zb zg zl zn p0_4 p0_5 p0_6 p0_7 p0_8 p0_9 p0_10 p0_11 p1 (⟨#[194, 171, 226, 128, 152, 226, 128, 155, 226, 128, 156, 226, 128, 159, 226, 128, 185]⟩ : ByteArray)).bind fun b7 => some b7)
def pOpens_R (zb : List Int) (zg : List Int) (zl : Int) (zn : Int) (p0_4 : Int) (p0_5 : Int) (p0_6 : Int) (p0_7 : Int) (p0_8 : Int) (p0_9 : Bool) (p0_10 : Bool) (p0_11 : Bool) (p1 : Int) (g0 : Nat) (zA : Option Addr) (zc : Nat) (A0_1 : Option Addr) (c0_1 : Nat) (r : Bool) (w0 : World) (v : Value) (w : World) : Prop := v = .bool r ∧ St (foots [plE g0 zA zc A0_1 c0_1 zb zg zl zn p0_4 p0_5 p0_6 p0_7 p0_8 p0_9 p0_10 p0_11]) w0 w [plE g0 zA zc A0_1 c0_1 zb zg zl zn p0_4 p0_5 p0_6 p0_7 p0_8 p0_9 p0_10 p0_11]
theorem pOpens_ok (N : Nat) (zb : List Int) (zg : List Int) (zl : Int) (zn : Int) (p0_4 : Int) (p0_5 : Int) (p0_6 : Int) (p0_7 : Int) (p0_8 : Int) (p0_9 : Bool) (p0_10 : Bool) (p0_11 : Bool) (p1 : Int) (g0 : Nat) (zA : Option Addr) (zc : Nat) (A0_1 : Option Addr) (c0_1 : Nat) (r : Bool) (hF : pOpens N zb zg zl zn p0_4 p0_5 p0_6 p0_7 p0_8 p0_9 p0_10 p0_11 p1 = some r) (w0 : World) (hv0_0 : Vw (foots [plE g0 zA zc A0_1 c0_1 zb zg zl zn p0_4 p0_5 p0_6 p0_7 p0_8 p0_9 p0_10 p0_11]) .i32 w0 zA zc zb) (hv0_1 : Vw (foots [plE g0 zA zc A0_1 c0_1 zb zg zl zn p0_4 p0_5 p0_6 p0_7 p0_8 p0_9 p0_10 p0_11]) .u8 w0 A0_1 c0_1 zg) (hl : St (foots [plE g0 zA zc A0_1 c0_1 zb zg zl zn p0_4 p0_5 p0_6 p0_7 p0_8 p0_9 p0_10 p0_11]) w0 w0 [plE g0 zA zc A0_1 c0_1 zb zg zl zn p0_4 p0_5 p0_6 p0_7 p0_8 p0_9 p0_10 p0_11]) :
  Calls Tryz.prog 76 #[.pointer (some ⟨g0, 0, none⟩), .int .i64 p1] w0 fun e w => ∃ v, e = .returned v ∧ pOpens_R zb zg zl zn p0_4 p0_5 p0_6 p0_7 p0_8 p0_9 p0_10 p0_11 p1 g0 zA zc A0_1 c0_1 r w0 v w := by
 have hS0 := hl
 unfold pOpens at hF
 refine calls_of Tryz.func76 rfl ⟨((vP g0) :: (i6 p1) :: un 6 ([])).toArray, []⟩ (by kernel_rfl) (gx_seq (fun K1 hK2 => gx_region (gx_k (.bool false) w0 (gx_nil (gx_thenN (hK2 _ _ (gx_seq (fun K3 hK4 => ?_))))))))
 refine gx_region (gx_k (vP g0) w0 (gx_k (i6 p1) w0 ?_))
 have hP5 : St _ _ w0 ([plE g0 zA zc A0_1 c0_1 zb zg zl zn p0_4 p0_5 p0_6 p0_7 p0_8 p0_9 p0_10 p0_11] ++ []) := hS0
 obtain ⟨b7, hc6, hF⟩ := bind_in hF
 try dsimp only at hF
 refine gx_c _ (pQuotes_ok N zb zg zl zn p0_4 p0_5 p0_6 p0_7 p0_8 p0_9 p0_10 p0_11 p1 (⟨#[194, 171, 226, 128, 152, 226, 128, 155, 226, 128, 156, 226, 128, 159, 226, 128, 185]⟩ : ByteArray) g0 zA zc A0_1 c0_1 _ hc6 w0 (hP5.vwA hv0_0) (hP5.vwA hv0_1) hP5.part) ?_
 rintro _ w8 ⟨rfl, hT10⟩
 have hS9 : St _ _ w8 [plE g0 zA zc A0_1 c0_1 zb zg zl zn p0_4 p0_5 p0_6 p0_7 p0_8 p0_9 p0_10 p0_11] := hP5.lendN _ hT10
 refine gx_k (.bool b7) w8 (gx_nil (gx_thenN (hK4 _ _ (gx_ret ?_))))
 obtain rfl := sj hF
 exact gxF (.bool b7) ⟨_, rfl, rfl, hS9⟩
def pCloses (N : Nat) (zb : List Int) (zg : List Int) (zl : Int) (zn : Int) (p0_4 : Int) (p0_5 : Int) (p0_6 : Int) (p0_7 : Int) (p0_8 : Int) (p0_9 : Bool) (p0_10 : Bool) (p0_11 : Bool) (p1 : Int) : Option (Bool) :=
 ((pQuotes N zb zg zl zn p0_4 p0_5 p0_6 p0_7 p0_8 p0_9 p0_10 p0_11 p1 (⟨#[194, 187, 226, 128, 153, 226, 128, 157, 226, 128, 186]⟩ : ByteArray)).bind fun b7 => some b7)
def pCloses_R (zb : List Int) (zg : List Int) (zl : Int) (zn : Int) (p0_4 : Int) (p0_5 : Int) (p0_6 : Int) (p0_7 : Int) (p0_8 : Int) (p0_9 : Bool) (p0_10 : Bool) (p0_11 : Bool) (p1 : Int) (g0 : Nat) (zA : Option Addr) (zc : Nat) (A0_1 : Option Addr) (c0_1 : Nat) (r : Bool) (w0 : World) (v : Value) (w : World) : Prop := v = .bool r ∧ St (foots [plE g0 zA zc A0_1 c0_1 zb zg zl zn p0_4 p0_5 p0_6 p0_7 p0_8 p0_9 p0_10 p0_11]) w0 w [plE g0 zA zc A0_1 c0_1 zb zg zl zn p0_4 p0_5 p0_6 p0_7 p0_8 p0_9 p0_10 p0_11]
theorem pCloses_ok (N : Nat) (zb : List Int) (zg : List Int) (zl : Int) (zn : Int) (p0_4 : Int) (p0_5 : Int) (p0_6 : Int) (p0_7 : Int) (p0_8 : Int) (p0_9 : Bool) (p0_10 : Bool) (p0_11 : Bool) (p1 : Int) (g0 : Nat) (zA : Option Addr) (zc : Nat) (A0_1 : Option Addr) (c0_1 : Nat) (r : Bool) (hF : pCloses N zb zg zl zn p0_4 p0_5 p0_6 p0_7 p0_8 p0_9 p0_10 p0_11 p1 = some r) (w0 : World) (hv0_0 : Vw (foots [plE g0 zA zc A0_1 c0_1 zb zg zl zn p0_4 p0_5 p0_6 p0_7 p0_8 p0_9 p0_10 p0_11]) .i32 w0 zA zc zb) (hv0_1 : Vw (foots [plE g0 zA zc A0_1 c0_1 zb zg zl zn p0_4 p0_5 p0_6 p0_7 p0_8 p0_9 p0_10 p0_11]) .u8 w0 A0_1 c0_1 zg) (hl : St (foots [plE g0 zA zc A0_1 c0_1 zb zg zl zn p0_4 p0_5 p0_6 p0_7 p0_8 p0_9 p0_10 p0_11]) w0 w0 [plE g0 zA zc A0_1 c0_1 zb zg zl zn p0_4 p0_5 p0_6 p0_7 p0_8 p0_9 p0_10 p0_11]) :
  Calls Tryz.prog 78 #[.pointer (some ⟨g0, 0, none⟩), .int .i64 p1] w0 fun e w => ∃ v, e = .returned v ∧ pCloses_R zb zg zl zn p0_4 p0_5 p0_6 p0_7 p0_8 p0_9 p0_10 p0_11 p1 g0 zA zc A0_1 c0_1 r w0 v w := by
 have hS0 := hl
 unfold pCloses at hF
 refine calls_of Tryz.func78 rfl ⟨((vP g0) :: (i6 p1) :: un 6 ([])).toArray, []⟩ (by kernel_rfl) (gx_seq (fun K1 hK2 => gx_region (gx_k (.bool false) w0 (gx_nil (gx_thenN (hK2 _ _ (gx_seq (fun K3 hK4 => ?_))))))))
 refine gx_region (gx_k (vP g0) w0 (gx_k (i6 p1) w0 ?_))
 have hP5 : St _ _ w0 ([plE g0 zA zc A0_1 c0_1 zb zg zl zn p0_4 p0_5 p0_6 p0_7 p0_8 p0_9 p0_10 p0_11] ++ []) := hS0
 obtain ⟨b7, hc6, hF⟩ := bind_in hF
 try dsimp only at hF
 refine gx_c _ (pQuotes_ok N zb zg zl zn p0_4 p0_5 p0_6 p0_7 p0_8 p0_9 p0_10 p0_11 p1 (⟨#[194, 187, 226, 128, 153, 226, 128, 157, 226, 128, 186]⟩ : ByteArray) g0 zA zc A0_1 c0_1 _ hc6 w0 (hP5.vwA hv0_0) (hP5.vwA hv0_1) hP5.part) ?_
 rintro _ w8 ⟨rfl, hT10⟩
 have hS9 : St _ _ w8 [plE g0 zA zc A0_1 c0_1 zb zg zl zn p0_4 p0_5 p0_6 p0_7 p0_8 p0_9 p0_10 p0_11] := hP5.lendN _ hT10
 refine gx_k (.bool b7) w8 (gx_nil (gx_thenN (hK4 _ _ (gx_ret ?_))))
 obtain rfl := sj hF
 exact gxF (.bool b7) ⟨_, rfl, rfl, hS9⟩
def pTextOf_L1 (N : Nat) (p0 : List Int) (x11 : Int) (x21 : Int) : Nat → (List Int) → Bool → Int → Option (List Int)
 | 0, _, _, _ => none
 | k52+1, l49, b50, x51 => (if x51 < ((p0.length : Nat) : Int) then ((ix p0 x51).bind fun x63 => ((ucBk N x63).bind fun x69 => ((pHasC N x11 x69).bind fun b79 => (match b79 with | true => (match b50 with | true => ((ix l49 x51).bind fun _x85 => ((setx l49 x51 0).bind fun l89 => pTextOf_L1 N p0 x11 x21 k52 l89 false (IntKind.i64.wrap (x51 + 1)))) | false => ((ix l49 x51).bind fun _x91 => ((setx l49 x51 39).bind fun l95 => pTextOf_L1 N p0 x11 x21 k52 l95 false (IntKind.i64.wrap (x51 + 1))))) | false => ((pHasC N x21 x69).bind fun b99 => ((ix l49 x51).bind fun _x103 => ((setx l49 x51 x69).bind fun l107 => pTextOf_L1 N p0 x11 x21 k52 l107 b99 (IntKind.i64.wrap (x51 + 1))))))))) else some (l49))
def pTextOf (N : Nat) (p0 : List Int) : Option (List Int) :=
 ((pSetOf N ([9, 10])).bind fun x11 => ((pSetOf N ([1, 2, 3, 4, 5, 6])).bind fun x21 => ((mkx ((p0.length : Nat) : Int)).bind fun l27 => ((pTextOf_L1 N p0 x11 x21 N l27 true 0 : Option (List Int)).bind fun l39 => some l39))))
def pTextOf_R (p0 : List Int) (A0 : Option Addr) (c0 : Nat) (r : List Int) (w0 : World) (v : Value) (w : World) : Prop := ∃ (A0_1' : Option Addr) (c0_1' : Nat), v = .agg #[.slice A0 p0.length c0, .slice A0_1' r.length c0_1'] ∧ St [] w0 w [rowE .u8 5 A0_1' c0_1' r]
theorem pTextOf_ok (N : Nat) (p0 : List Int) (A0 : Option Addr) (c0 : Nat) (r : List Int) (hF : pTextOf N p0 = some r) (w0 : World) (hv0 : Vw [] .i32 w0 A0 c0 p0) :
  Calls Tryz.prog 65 #[.slice A0 p0.length c0] w0 fun e w => ∃ v, e = .returned v ∧ pTextOf_R p0 A0 c0 r w0 v w := by
 have hS0 := St.start w0
 unfold pTextOf at hF
 refine calls_of Tryz.func65 rfl ⟨((.slice A0 p0.length c0) :: un 43 ([])).toArray, []⟩ (by kernel_rfl) (gx_seq (fun K1 hK2 => gx_region (gx_r (st_boxed [nS, nS] 40 hS0 (by kernel_rfl)) ?_)))
 rintro _ w3 ⟨rfl, hS4⟩
 have hS4 : St _ _ w3 [boxE w0.heap.size [nS, nS] 40] := hS4
 refine gx_nil (gx_thenN (hK2 _ _ (gx_seq (fun K5 hK6 => gx_region (gx_r (st_made .u8 5 [9, 10] hS4 (by show 2 ≤ 1000000000; decide) (by kernel_rfl)) ?_)))))
 rintro _ w7 ⟨rfl, hS8⟩
 have hS8 : St _ _ w7 [boxE w0.heap.size [nS, nS] 40, rowE .u8 5 (some ⟨w3.heap.size, 0, none⟩) 2 ([9, 10])] := hS8
 have hP9 : St _ _ w7 ([] ++ [boxE w0.heap.size [nS, nS] 40, rowE .u8 5 (some ⟨w3.heap.size, 0, none⟩) 2 ([9, 10])]) := hS8
 obtain ⟨x11, hc10, hF⟩ := bind_in hF
 try dsimp only at hF
 refine gx_c _ (pSetOf_ok N ([9, 10]) (some ⟨w3.heap.size, 0, none⟩) 2 _ hc10 w7 (hP9.vwB 1 rfl)) ?_
 rintro _ w12 ⟨rfl, hT14⟩
 have hS13 : St _ _ w12 [boxE w0.heap.size [nS, nS] 40, rowE .u8 5 (some ⟨w3.heap.size, 0, none⟩) 2 ([9, 10])] := hS8.take _ hT14
 refine gx_k (.int .u64 x11) w12 (gx_nil (gx_thenN (hK6 _ _ (gx_seq (fun K15 hK16 => gx_region (gx_r (st_made .u8 5 [1, 2, 3, 4, 5, 6] hS13 (by show 6 ≤ 1000000000; decide) (by kernel_rfl)) ?_))))))
 rintro _ w17 ⟨rfl, hS18⟩
 have hS18 : St _ _ w17 [boxE w0.heap.size [nS, nS] 40, rowE .u8 5 (some ⟨w3.heap.size, 0, none⟩) 2 ([9, 10]), rowE .u8 5 (some ⟨w12.heap.size, 0, none⟩) 6 ([1, 2, 3, 4, 5, 6])] := hS18
 have hP19 : St _ _ w17 ([] ++ [boxE w0.heap.size [nS, nS] 40, rowE .u8 5 (some ⟨w3.heap.size, 0, none⟩) 2 ([9, 10]), rowE .u8 5 (some ⟨w12.heap.size, 0, none⟩) 6 ([1, 2, 3, 4, 5, 6])]) := hS18
 obtain ⟨x21, hc20, hF⟩ := bind_in hF
 try dsimp only at hF
 refine gx_c _ (pSetOf_ok N ([1, 2, 3, 4, 5, 6]) (some ⟨w12.heap.size, 0, none⟩) 6 _ hc20 w17 (hP19.vwB 2 rfl)) ?_
 rintro _ w22 ⟨rfl, hT24⟩
 have hS23 : St _ _ w22 [boxE w0.heap.size [nS, nS] 40, rowE .u8 5 (some ⟨w3.heap.size, 0, none⟩) 2 ([9, 10]), rowE .u8 5 (some ⟨w12.heap.size, 0, none⟩) 6 ([1, 2, 3, 4, 5, 6])] := hS18.take _ hT24
 refine gx_k (.int .u64 x21) w22 (gx_nil (gx_thenN (hK16 _ _ (gx_seq (fun K25 hK26 => gx_region (gx_k (.slice A0 p0.length c0) w22 (gx_k (i6 ((p0.length : Nat) : Int)) w22 ?_)))))))
 obtain ⟨l27, hm28, hF⟩ := bind_in hF
 refine gx_r (st_make (T := 5) (k := .u8) (by_ := 1) rfl (by kernel_rfl) (by kernel_rfl) (by kernel_rfl) (by kernel_rfl) (by kernel_rfl) hS23 hm28) ?_
 rintro _ w29 ⟨A31, c32, rfl, hS30⟩
 have hS30 : St _ _ w29 [boxE w0.heap.size [nS, nS] 40, rowE .u8 5 (some ⟨w3.heap.size, 0, none⟩) 2 ([9, 10]), rowE .u8 5 (some ⟨w12.heap.size, 0, none⟩) 6 ([1, 2, 3, 4, 5, 6]), rowE .u8 5 A31 c32 l27] := hS30
 refine gx_k (.slice A31 l27.length c32) w29 (gx_nil (gx_thenN (hK26 _ _ (gx_seq (fun K33 hK34 => gx_region (gx_k (.bool true) w29 (gx_nil ?_)))))))
 refine gx_thenN (hK34 _ _ ?_)
 obtain ⟨c40, hE41, hO42⟩ := bind_in hF
 refine gx_cut (fun a w => ∃ (l39 : List Int), selfA (fun u37 => ⟨((.slice A0 p0.length c0) :: undef :: (vP w0.heap.size) :: (.int .u64 x11) :: (.int .u64 x21) :: (.slice A31 l27.length c32) :: dd u37 6 5 ((.int .u64 x11) :: (u37 12) :: (.int .u64 x21) :: (u37 14) :: (i6 ((p0.length : Nat) : Int)) :: dd u37 16 25 (un 3 ([])))).toArray, []⟩) a ∧ l39 = c40 ∧ St [] w0 w [boxE w0.heap.size [nS, nS] 40, rowE .u8 5 A31 c32 l39] ∧ l27.length = l39.length) ?_ ?_
 refine gx_seq (fun K43 hK44 => gx_region (gx_k (.slice A0 p0.length c0) w29 (gx_k (i6 ((p0.length : Nat) : Int)) w29 (gx_k (i6 0) w29 (gx_nil (gx_thenN (hK44 _ _ (gx_block (gx_loop (fun k a w => ∃ (l49 : List Int) (b50 : Bool) (x51 : Int), selfA (fun u47 => ⟨((.slice A0 p0.length c0) :: undef :: (vP w0.heap.size) :: (.int .u64 x11) :: (.int .u64 x21) :: (.slice A31 l27.length c32) :: (.bool b50) :: dd u47 7 4 ((.int .u64 x11) :: (u47 12) :: (.int .u64 x21) :: (u47 14) :: (i6 ((p0.length : Nat) : Int)) :: (u47 16) :: (.slice A0 p0.length c0) :: (i6 ((p0.length : Nat) : Int)) :: (i6 x51) :: dd u47 20 21 (un 3 ([])))).toArray, []⟩) a ∧ pTextOf_L1 N p0 x11 x21 k l49 b50 x51 = some c40 ∧ St [] w0 w [boxE w0.heap.size [nS, nS] 40, rowE .u8 5 A31 c32 l49] ∧ l27.length = l49.length) N ?_ ?_)))))))))
 exact ⟨l27, true, 0, selfA_i (by kernel_rfl), hE41, (hS30.pick [0, 3] rfl rfl), rfl⟩
 rintro k52 _ w45 ⟨l49, b50, x51, hq111, hL53, hS46, hn48⟩
 obtain ⟨u47, rfl⟩ := selfA_u hq111
 rcases k52 with _ | k52
 cases hL53
 first | rw [pTextOf_L1] at hL53 | unfold pTextOf_L1 at hL53
 refine gx_seq (fun K54 hK55 => gx_region ?_)
 rcases if_in hL53 with ⟨h56, hL53⟩ | ⟨h56, hL53⟩
 refine gx_v (.bool true) w45 (rbE (decide_eq_true h56)) (gx_nil (gx_thenN (hK55 _ _ (gx_seq (fun K57 hK58 => gx_yes (by kernel_rfl) (gx_pass (gx_thenN ?_)))))))
 refine hK58 _ _ (gx_seq (fun K59 hK60 => gx_block (gx_seq (fun K61 hK62 => gx_region (gx_k (i6 x51) w45 ?_)))))
 obtain ⟨x63, hx64, hL53⟩ := bind_in hL53
 refine gx_v (pI x51 A0) w45 (rix 21 .i64 hx64 ((hS46.view hv0))) (gx_v (.int .i32 x63) w45 (rlx (hS46.view hv0) hx64) (gx_k (i6 x51) w45 (gx_k (.int .i32 x63) w45 (gx_nil (gx_thenN (hK62 _ _ (gx_seq (fun K65 hK66 => gx_region ?_))))))))
 refine gx_k (.int .i32 x63) w45 ?_
 have hP67 : St _ _ w45 ([] ++ [boxE w0.heap.size [nS, nS] 40, rowE .u8 5 A31 c32 l49]) := hS46
 obtain ⟨x69, hc68, hL53⟩ := bind_in hL53
 try dsimp only at hL53
 refine gx_c _ (ucBk_ok N x63 _ hc68 w45 ) ?_
 rintro _ w70 ⟨rfl, hT72⟩
 have hS71 : St _ _ w70 [boxE w0.heap.size [nS, nS] 40, rowE .u8 5 A31 c32 l49] := hS46.take _ hT72
 refine gx_k (.int .u8 x69) w70 (gx_nil (gx_thenN (hK66 _ _ (gx_seq (fun K73 hK74 => gx_block (gx_seq (fun K75 hK76 => gx_region ?_)))))))
 refine gx_k (.int .u64 x11) w70 (gx_k (.int .u8 x69) w70 ?_)
 have hP77 : St _ _ w70 ([] ++ [boxE w0.heap.size [nS, nS] 40, rowE .u8 5 A31 c32 l49]) := hS71
 obtain ⟨b79, hc78, hL53⟩ := bind_in hL53
 try dsimp only at hL53
 refine gx_c _ (pHasC_ok N x11 x69 _ hc78 w70 ) ?_
 rintro _ w80 ⟨rfl, hT82⟩
 have hS81 : St _ _ w80 [boxE w0.heap.size [nS, nS] 40, rowE .u8 5 A31 c32 l49] := hS71.take _ hT82
 rcases b79 with _ | _
 try dsimp only at hL53
 refine gx_k (.bool true) w80 (gx_k (.bool true) w80 (gx_nil (gx_thenN (hK76 _ _ (gx_yes (by kernel_rfl) (gx_region (gx_k (.int .u64 x21) w80 (gx_k (.int .u8 x69) w80 ?_))))))))
 have hP97 : St _ _ w80 ([] ++ [boxE w0.heap.size [nS, nS] 40, rowE .u8 5 A31 c32 l49]) := hS81
 obtain ⟨b99, hc98, hL53⟩ := bind_in hL53
 try dsimp only at hL53
 refine gx_c _ (pHasC_ok N x21 x69 _ hc98 w80 ) ?_
 rintro _ w100 ⟨rfl, hT102⟩
 have hS101 : St _ _ w100 [boxE w0.heap.size [nS, nS] 40, rowE .u8 5 A31 c32 l49] := hS81.take _ hT102
 refine gx_k (.bool b99) w100 (gx_nil (gx_blkN (gx_thenN (hK74 _ _ (gx_region (gx_k (.slice A31 l27.length c32) w100 (gx_k (i6 x51) w100 (gx_k (.int .u8 x69) w100 ?_))))))))
 obtain ⟨x103, hx104, hL53⟩ := bind_in hL53
 refine gx_v (pI x51 A31) w100 (riy 5 .i64 hx104 hn48 (((hS101.row 1 rfl).1))) ?_
 obtain ⟨l107, hx108, hL53⟩ := bind_in hL53
 refine gx_s (st_storeix rfl (by kernel_rfl) (by kernel_rfl) (fun _ => by kernel_rfl) hS101 1 rfl hx108) ?_
 rintro w105 hS106
 have hS106 : St _ _ w105 [boxE w0.heap.size [nS, nS] 40, rowE .u8 5 A31 c32 l107] := hS106
 refine gx_nil (gx_blkN (gx_thenN (hK60 _ _ (gx_region (gx_k (i6 (iw (x51 + 1))) w105 (gx_k (i6 (iw (x51 + 1))) w105 (gx_nil (gx_thenN ?_))))))))
 exact ⟨k52, Nat.lt_succ_self k52, l107, b99, (iw (x51 + 1)), selfA_i (by kernel_rfl), hL53, hS106, (hn48.trans (setx_len hx108).symm)⟩
 try dsimp only at hL53
 refine gx_k (.bool false) w80 (gx_k (.bool false) w80 (gx_nil (gx_thenN (hK76 _ _ (gx_no (by kernel_rfl) (gx_seq (fun K83 hK84 => gx_region (gx_k (.bool b50) w80 (gx_k (.bool b50) w80 ?_)))))))))
 refine gx_nil (gx_thenN (hK84 _ _ ?_))
 rcases b50 with _ | _
 try dsimp only at hL53
 refine gx_no (by kernel_rfl) (gx_region (gx_k (.int .u8 39) w80 (gx_nil (gx_blkN (gx_thenN (hK74 _ _ (gx_region ?_)))))))
 refine gx_k (.slice A31 l27.length c32) w80 (gx_k (i6 x51) w80 (gx_k (.int .u8 39) w80 ?_))
 obtain ⟨x91, hx92, hL53⟩ := bind_in hL53
 refine gx_v (pI x51 A31) w80 (riy 5 .i64 hx92 hn48 (((hS81.row 1 rfl).1))) ?_
 obtain ⟨l95, hx96, hL53⟩ := bind_in hL53
 refine gx_s (st_storeix rfl (by kernel_rfl) (by kernel_rfl) (fun _ => by kernel_rfl) hS81 1 rfl hx96) ?_
 rintro w93 hS94
 have hS94 : St _ _ w93 [boxE w0.heap.size [nS, nS] 40, rowE .u8 5 A31 c32 l95] := hS94
 refine gx_nil (gx_blkN (gx_thenN (hK60 _ _ (gx_region (gx_k (i6 (iw (x51 + 1))) w93 (gx_k (i6 (iw (x51 + 1))) w93 (gx_nil (gx_thenN ?_))))))))
 exact ⟨k52, Nat.lt_succ_self k52, l95, false, (iw (x51 + 1)), selfA_i (by kernel_rfl), hL53, hS94, (hn48.trans (setx_len hx96).symm)⟩
 try dsimp only at hL53
 refine gx_yes (by kernel_rfl) (gx_region (gx_k (.int .u8 0) w80 (gx_k (.bool false) w80 (gx_nil (gx_blkN (gx_thenN (hK74 _ _ (gx_region ?_))))))))
 refine gx_k (.slice A31 l27.length c32) w80 (gx_k (i6 x51) w80 (gx_k (.int .u8 0) w80 ?_))
 obtain ⟨x85, hx86, hL53⟩ := bind_in hL53
 refine gx_v (pI x51 A31) w80 (riy 5 .i64 hx86 hn48 (((hS81.row 1 rfl).1))) ?_
 obtain ⟨l89, hx90, hL53⟩ := bind_in hL53
 refine gx_s (st_storeix rfl (by kernel_rfl) (by kernel_rfl) (fun _ => by kernel_rfl) hS81 1 rfl hx90) ?_
 rintro w87 hS88
 have hS88 : St _ _ w87 [boxE w0.heap.size [nS, nS] 40, rowE .u8 5 A31 c32 l89] := hS88
 refine gx_nil (gx_blkN (gx_thenN (hK60 _ _ (gx_region (gx_k (i6 (iw (x51 + 1))) w87 (gx_k (i6 (iw (x51 + 1))) w87 (gx_nil (gx_thenN ?_))))))))
 exact ⟨k52, Nat.lt_succ_self k52, l89, false, (iw (x51 + 1)), selfA_i (by kernel_rfl), hL53, hS88, (hn48.trans (setx_len hx90).symm)⟩
 refine gx_v (.bool false) w45 (rbE (decide_eq_false h56)) (gx_nil (gx_thenN (hK55 _ _ (gx_seq (fun K109 hK110 => gx_no (by kernel_rfl) (gx_exit (gx_thenE ?_)))))))
 refine gx_thenE (gx_blkE (gx_thenN ?_))
 exact ⟨l49, selfA_i (by kernel_rfl), (sj hL53), hS46, hn48⟩
 rintro _ w35 ⟨l39, hq116, rfl, hS36, hn38⟩
 obtain ⟨u37, rfl⟩ := selfA_u hq116
 try dsimp only at hO42
 refine gx_seq (fun K112 hK113 => gx_region (gx_k (.slice A0 p0.length c0) w35 (gx_k (.slice A31 l27.length c32) w35 (gx_k (.agg #[.slice A0 p0.length c0, .slice A31 l27.length c32]) w35 (gx_s (st_storeG (cs := [nS, nS]) (ds := [.slice A0 p0.length c0, .slice A31 l27.length c32]) rfl (by kernel_rfl) (by kernel_rfl) (by kernel_rfl) rfl rfl hS36 0 rfl) ?_)))))
 rintro w114 hS115
 have hS115 : St _ _ w114 [boxE w0.heap.size [.slice A0 p0.length c0, .slice A31 l27.length c32] 40, rowE .u8 5 A31 c32 l39] := hS115
 refine gx_nil (gx_thenN (hK113 _ _ (gx_ret ?_)))
 obtain rfl := sj hO42
 exact gx_fin (.agg #[.slice A0 p0.length c0, .slice A31 l27.length c32]) (by kernel_rfl) (res_cell rfl _ _ w0.heap.size _ _ _ (by kernel_rfl) (hS115.get 0 rfl) (by kernel_rfl) (by kernel_rfl)) ⟨_, rfl, A31, c32, by rw [← hn38] <;> kernel_rfl, (hS115.pick [1] rfl rfl)⟩
end Go.Proofs.YtdbimchiecdkoaaGreat
