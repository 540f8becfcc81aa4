/-
  The statements, walked.
-/
import Derived.Test.YtdbimchiecdkoaaGreatP4
namespace Go.Proofs.YtdbimchiecdkoaaGreat
open Go Go.RowKit
set_option maxRecDepth 100000
set_option maxHeartbeats 4000000
set_option linter.unusedVariables false
def kSame (_N : Nat) (p0 : List Int) (p1 : List Int) : Option (Bool) :=
 some (((strOfNums p0).toList == (strOfNums p1).toList))
def kSame_R (r : Bool) (w0 : World) (v : Value) (w : World) : Prop := v = .bool r ∧ St [] w0 w []
theorem kSame_ok (N : Nat) (p0 : List Int) (p1 : List Int) (A0 : Option Addr) (c0 : Nat) (A1 : Option Addr) (c1 : Nat) (r : Bool) (hF : kSame N p0 p1 = some r) (w0 : World) (hv0 : Vw [] .u8 w0 A0 c0 p0) (hv1 : Vw [] .u8 w0 A1 c1 p1) :
  Calls Tryz.prog 10 #[.slice A0 p0.length c0, .slice A1 p1.length c1] w0 fun e w => ∃ v, e = .returned v ∧ kSame_R r w0 v w := by
 have hS0 := St.start w0
 unfold kSame at hF
 refine calls_of Tryz.func10 rfl ⟨((.slice A0 p0.length c0) :: (.slice A1 p1.length c1) :: un 8 ([])).toArray, []⟩ (by kernel_rfl) (gx_seq (fun K1 hK2 => gx_region (gx_k (.bool false) w0 (gx_nil (gx_thenN (hK2 _ _ (gx_seq (fun K3 hK4 => ?_))))))))
 refine gx_region (gx_k (.slice A0 p0.length c0) w0 (gx_v (.string (strOfNums p0)) w0 (run_conv rfl (by kernel_rfl) (conv_b _ _ _ (hS0.view hv0))) (gx_k (.slice A1 p1.length c1) w0 (gx_v (.string (strOfNums p1)) w0 (run_conv rfl (by kernel_rfl) (conv_b _ _ _ (hS0.view hv1))) (gx_k (.bool (((strOfNums p0).toList == (strOfNums p1).toList))) w0 (gx_k (.bool (((strOfNums p0).toList == (strOfNums p1).toList))) w0 (gx_nil (gx_thenN ?_))))))))
 refine hK4 _ _ (gx_ret ?_)
 obtain rfl := sj hF
 exact gxF (.bool (((strOfNums p0).toList == (strOfNums p1).toList))) ⟨_, rfl, rfl, hS0⟩
def kAre_L1 (N : Nat) (p1 : ByteArray) (l13 : List Int) : Nat → Int → Option (Ctl (Unit) (Bool))
 | 0, _ => none
 | k38+1, x37 => (if x37 < ((l13.length : Nat) : Int) then ((ix l13 x37).bind fun x51 => ((ix (strL p1) x37).bind fun x53 => (if x51 ≠ (IntKind.u8.wrap (x53 - 48)) then some (Ctl.ret false) else kAre_L1 N p1 l13 k38 (IntKind.i64.wrap (x37 + 1))))) else some (Ctl.go ()))
def kAre (N : Nat) (p0 : ByteArray) (p1 : ByteArray) : Option (Bool) :=
 ((runesX p0).bind fun l5 => ((pBreaks N l5).bind fun l13 => (if ((l13.length : Nat) : Int) ≠ ((p1.size : Nat) : Int) then some false else ((kAre_L1 N p1 l13 N 0 : Option (Ctl (Unit) (Bool))).bind fun | Ctl.go () => some true | Ctl.ret r => some r))))
def kAre_R (r : Bool) (w0 : World) (v : Value) (w : World) : Prop := v = .bool r ∧ St [] w0 w []
theorem kAre_ok (N : Nat) (p0 : ByteArray) (p1 : ByteArray)  (r : Bool) (hF : kAre N p0 p1 = some r) (w0 : World)  :
  Calls Tryz.prog 4 #[.string p0, .string p1] w0 fun e w => ∃ v, e = .returned v ∧ kAre_R r w0 v w := by
 have hS0 := St.start w0
 unfold kAre at hF
 refine calls_of Tryz.func4 rfl ⟨((.string p0) :: (.string p1) :: un 28 ([])).toArray, []⟩ (by kernel_rfl) (gx_seq (fun K1 hK2 => gx_region (gx_k (.bool false) w0 (gx_nil (gx_thenN (hK2 _ _ (gx_seq (fun K3 hK4 => ?_))))))))
 refine gx_region (gx_k (.string p0) w0 ?_)
 obtain ⟨l5, hm6, hF⟩ := bind_in hF
 refine gx_r (st_runes (T := 21) (s := p0) rfl (by kernel_rfl) (by kernel_rfl) (by kernel_rfl) (by kernel_rfl) hS0 hm6) ?_
 rintro _ w7 ⟨A9, c10, rfl, hS8⟩
 have hS8 : St _ _ w7 [rowE .i32 21 A9 c10 l5] := hS8
 have hP11 : St _ _ w7 ([] ++ [rowE .i32 21 A9 c10 l5]) := hS8
 obtain ⟨l13, hc12, hF⟩ := bind_in hF
 try dsimp only at hF
 refine gx_c _ (pBreaks_ok N l5 A9 c10 _ hc12 w7 (hP11.vwB 0 rfl)) ?_
 rintro _ w16 ⟨A14, c15, rfl, hT18⟩
 have hS17 : St _ _ w16 [rowE .i32 21 A9 c10 l5, rowE .u8 5 A14 c15 l13] := hS8.take _ hT18
 refine gx_k (.slice A14 l13.length c15) w16 (gx_nil (gx_thenN (hK4 _ _ (gx_seq (fun K19 hK20 => gx_seq (fun K21 hK22 => gx_region (gx_k (.slice A14 l13.length c15) w16 (gx_k (i6 ((l13.length : Nat) : Int)) w16 (gx_k (.string p1) w16 (gx_k (i6 ((p1.size : Nat) : Int)) w16 ?_))))))))))
 rcases if_in hF with ⟨h23, hF⟩ | ⟨h23, hF⟩
 refine gx_v (.bool true) w16 (rbE (ne_yes h23)) (gx_nil (gx_thenN (hK22 _ _ (gx_yes (by kernel_rfl) (gx_seq (fun K24 hK25 => gx_region (gx_k (.bool false) w16 ?_)))))))
 refine gx_nil (gx_thenN (hK25 _ _ (gx_ret (gx_thenR ?_))))
 obtain rfl := sj hF
 exact gxF (.bool false) ⟨_, rfl, rfl, (hS17.pick [] rfl rfl)⟩
 refine gx_v (.bool false) w16 (rbE (ne_no h23)) (gx_nil (gx_thenN (hK22 _ _ (gx_no (by kernel_rfl) (gx_pass (gx_thenN (hK20 _ _ ?_)))))))
 obtain ⟨c29, hE30, hO31⟩ := bind_in hF
 refine gx_cut (fun a w => selfA (fun u28 => ⟨((.string p0) :: (.string p1) :: undef :: undef :: dd u28 4 3 ((.string p0) :: dd u28 8 3 ((i6 ((l13.length : Nat) : Int)) :: (.string p1) :: (i6 ((p1.size : Nat) : Int)) :: (.bool false) :: dd u28 15 15 ([])))).toArray, []⟩) a ∧ Ctl.go () = c29 ∧ St [] w0 w []) ?_ ?_
 refine gx_seq (fun K32 hK33 => gx_region (gx_k (i6 0) w16 (gx_nil (gx_thenN (hK33 _ _ (gx_block (gx_loop (fun k a w => ∃ (x37 : Int), selfA (fun u36 => ⟨((.string p0) :: (.string p1) :: undef :: undef :: (u36 4) :: (.slice A14 l13.length c15) :: (i6 x37) :: (.string p0) :: dd u36 8 3 ((i6 ((l13.length : Nat) : Int)) :: (.string p1) :: (i6 ((p1.size : Nat) : Int)) :: (.bool false) :: dd u36 15 15 ([]))).toArray, []⟩) a ∧ kAre_L1 N p1 l13 k x37 = some c29 ∧ St [] w0 w [rowE .u8 5 A14 c15 l13]) N ?_ ?_)))))))
 exact ⟨0, selfA_i (by kernel_rfl), hE30, (hS17.pick [1] rfl rfl)⟩
 rintro k38 _ w34 ⟨x37, hq58, hL39, hS35⟩
 obtain ⟨u36, rfl⟩ := selfA_u hq58
 rcases k38 with _ | k38
 cases hL39
 first | rw [kAre_L1] at hL39 | unfold kAre_L1 at hL39
 refine gx_seq (fun K40 hK41 => gx_seq (fun K42 hK43 => gx_region (gx_k (i6 x37) w34 (gx_k (.slice A14 l13.length c15) w34 (gx_k (i6 ((l13.length : Nat) : Int)) w34 ?_)))))
 rcases if_in hL39 with ⟨h44, hL39⟩ | ⟨h44, hL39⟩
 refine gx_v (.bool true) w34 (rbE (decide_eq_true h44)) (gx_nil (gx_thenN (hK43 _ _ (gx_yes (by kernel_rfl) (gx_pass (gx_thenN (hK41 _ _ ?_)))))))
 refine gx_seq (fun K45 hK46 => gx_block (gx_seq (fun K47 hK48 => gdst (fun w => St [] w0 w [rowE .u8 5 A14 c15 l13]) 9 ?_)))
 have hS50 := hS35.drew
 generalize w34.drew = w49 at hS50 ⊢
 refine gv1 0 21 (.slice A14 l13.length c15) rfl hS50 (gv1 1 22 (i6 x37) rfl hS50 ?_)
 obtain ⟨x51, hx52, hL39⟩ := bind_in hL39
 refine gu1 2 23 (pI x37 A14) rfl hS50 (fun w hSw => rix 5 .i64 hx52 ((hS50.row 0 rfl).1)) (gu1 3 24 (.int .u8 x51) rfl hS50 (fun w hSw => rlx (hSw.row 0 rfl).1 hx52) (gv1 4 25 (.string p1) rfl hS50 (gv1 5 26 (i6 x37) rfl hS50 ?_)))
 obtain ⟨x53, hx54, hL39⟩ := bind_in hL39
 refine gu1 6 27 (.int .u8 x53) rfl hS50 (fun w hSw => run_strix (k := .i64) rfl (by kernel_rfl) (by kernel_rfl) (by kernel_rfl) hx54) (gv1 7 28 (.int .u8 (IntKind.u8.wrap (x53 - 48))) rfl hS50 ?_)
 rcases if_in hL39 with ⟨h55, hL39⟩ | ⟨h55, hL39⟩
 refine gu1 8 29 (.bool true) rfl hS50 (fun w hSw => rbE (ne_yes h55)) (gd_done (by kernel_rfl) (gx_thenN (hK48 _ _ (gx_yes (by kernel_rfl) (gx_seq (fun K56 hK57 => gx_region (gx_k (.bool false) w49 ?_)))))))
 refine gx_nil (gx_thenN (hK57 _ _ (gx_ret (gx_blkR (gx_thenR (gx_thenR (gx_blkR ?_)))))))
 refine gx_thenR ?_
 obtain rfl := sj hL39
 try dsimp only at hO31
 obtain rfl := sj hO31
 exact gxF (.bool false) ⟨_, rfl, rfl, (hS50.pick [] rfl rfl)⟩
 refine gu1 8 29 (.bool false) rfl hS50 (fun w hSw => rbE (ne_no h55)) (gd_done (by kernel_rfl) (gx_thenN (hK48 _ _ (gx_no (by kernel_rfl) (gx_pass (gx_blkN (gx_thenN ?_)))))))
 refine hK46 _ _ (gx_region (gx_k (i6 x37) w49 (gx_k (i6 (iw (x37 + 1))) w49 (gx_k (i6 (iw (x37 + 1))) w49 (gx_nil (gx_thenN ?_))))))
 exact ⟨k38, Nat.lt_succ_self k38, (iw (x37 + 1)), selfA_i (by kernel_rfl), hL39, hS50⟩
 refine gx_v (.bool false) w34 (rbE (decide_eq_false h44)) (gx_nil (gx_thenN (hK43 _ _ (gx_no (by kernel_rfl) (gx_exit (gx_thenE (gx_thenE ?_)))))))
 refine gx_blkE (gx_thenN ?_)
 exact ⟨selfA_i (by kernel_rfl), (sj hL39), (hS35.pick [] rfl rfl)⟩
 rintro _ w26 ⟨hq61, rfl, hS27⟩
 obtain ⟨u28, rfl⟩ := selfA_u hq61
 try dsimp only at hO31
 refine gx_seq (fun K59 hK60 => gx_region (gx_k (.bool true) w26 (gx_nil (gx_thenN (hK60 _ _ (gx_ret ?_))))))
 obtain rfl := sj hO31
 exact gxF (.bool true) ⟨_, rfl, rfl, hS27⟩
def kWorks (N : Nat) : Option (Bool) :=
 ((kAre N (⟨#[97, 32, 98]⟩ : ByteArray) (⟨#[48, 48, 49, 50]⟩ : ByteArray)).bind fun b7 => (match b7 with | true => ((kAre N (⟨#[97, 13, 10, 98]⟩ : ByteArray) (⟨#[48, 48, 48, 50, 50]⟩ : ByteArray)).bind fun b13 => some b13) | false => some false))
def kWorks_R (r : Bool) (w0 : World) (v : Value) (w : World) : Prop := v = .bool r ∧ St [] w0 w []
theorem kWorks_ok (N : Nat)  (r : Bool) (hF : kWorks N = some r) (w0 : World)  :
  Calls Tryz.prog 7 #[] w0 fun e w => ∃ v, e = .returned v ∧ kWorks_R r w0 v w := by
 have hS0 := St.start w0
 unfold kWorks at hF
 refine calls_of Tryz.func7 rfl ⟨(un 5 ([])).toArray, []⟩ (by kernel_rfl) (gx_seq (fun K1 hK2 => gx_region (gx_k (.bool false) w0 (gx_nil (gx_thenN (hK2 _ _ (gx_seq (fun K3 hK4 => ?_))))))))
 refine gx_region ?_
 have hP5 : St _ _ w0 ([] ++ []) := hS0
 obtain ⟨b7, hc6, hF⟩ := bind_in hF
 try dsimp only at hF
 refine gx_c _ (kAre_ok N (⟨#[97, 32, 98]⟩ : ByteArray) (⟨#[48, 48, 49, 50]⟩ : ByteArray) _ hc6 w0 ) ?_
 rintro _ w8 ⟨rfl, hT10⟩
 have hS9 : St _ _ w8 [] := hS0.take _ hT10
 refine gx_k (.bool b7) w8 ?_
 rcases b7 with _ | _
 try dsimp only at hF
 refine gx_o (gx_k (.bool false) w8 (gx_k (.bool false) w8 (gx_nil (gx_thenN (hK4 _ _ (gx_ret ?_))))))
 obtain rfl := sj hF
 exact gxF (.bool false) ⟨_, rfl, rfl, hS9⟩
 try dsimp only at hF
 have hP11 : St _ _ w8 ([] ++ []) := hS9
 obtain ⟨b13, hc12, hF⟩ := bind_in hF
 try dsimp only at hF
 refine gx_c _ (kAre_ok N (⟨#[97, 13, 10, 98]⟩ : ByteArray) (⟨#[48, 48, 48, 50, 50]⟩ : ByteArray) _ hc12 w8 ) ?_
 rintro _ w14 ⟨rfl, hT16⟩
 have hS15 : St _ _ w14 [] := hS9.take _ hT16
 refine gx_k (.bool b13) w14 (gx_k (.bool b13) w14 (gx_nil (gx_thenN (hK4 _ _ (gx_ret ?_)))))
 obtain rfl := sj hF
 exact gxF (.bool b13) ⟨_, rfl, rfl, hS15⟩
end Go.Proofs.YtdbimchiecdkoaaGreat
