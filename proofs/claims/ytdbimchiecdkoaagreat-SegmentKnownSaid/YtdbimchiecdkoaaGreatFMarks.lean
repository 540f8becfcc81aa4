/-
  SegmentMarks, walked.
-/
import Derived.Test.YtdbimchiecdkoaaGreatF0
namespace Go.Proofs.YtdbimchiecdkoaaGreat
open Go Go.RowKit
set_option maxRecDepth 100000
set_option maxHeartbeats 4000000
set_option linter.unusedVariables false
def fMarks_L1 (N : Nat) (p0 : List Int) : Nat → (List Int) → Int → Int → Option (List Int)
 | 0, _, _, _ => none
 | k40+1, l37, x38, x39 => (if x39 < ((p0.length : Nat) : Int) then ((ix p0 x39).bind fun x51 => ((rfBk N x51).bind fun x55 => (((if x55 = 9 then (if x38 ≠ 9 then some (x38) else (if x55 = 10 then some (x38) else some (x55))) else (if x55 = 10 then some (x38) else some (x55))) : Option (Int)).bind fun x62 => (((((if x62 = 1 then some (true) else (if x62 = 2 then some (true) else some (false))) : Option (Bool)).bind fun b82 => (((match b82 with | true => some (true) | false => (if x62 = 3 then some (true) else some (false))) : Option (Bool)).bind fun b92 => (((match b92 with | true => some (true) | false => (if x62 = 4 then some (true) else some (false))) : Option (Bool)).bind fun b101 => (match b101 with | true => some (true) | false => (if x62 = 5 then some (true) else (if x62 = 6 then some (true) else some (false))))))) : Option (Bool)).bind fun b75 => (match b75 with | true => fMarks_L1 N p0 k40 l37 x62 (IntKind.i64.wrap (x39 + 1)) | false => ((ix p0 x39).bind fun x113 => ((rfBk N x113).bind fun x117 => (if x117 ≠ 10 then ((apx l37 ([x39])).bind fun l124 => fMarks_L1 N p0 k40 l124 x62 (IntKind.i64.wrap (x39 + 1))) else fMarks_L1 N p0 k40 l37 x62 (IntKind.i64.wrap (x39 + 1)))))))))) else some (l37))
def fMarks_L2 (N : Nat) (p0 : List Int) (x150 : Int) (l200 : List Int) (l208 : List Int) : Nat → Int → Option (Ctl (Unit) (Bool))
 | 0, _ => none
 | k251+1, x250 => (if x250 ≤ ((p0.length : Nat) : Int) then (((if x250 > x150 then some ((IntKind.i64.wrap (x250 + 1))) else some (x250)) : Option (Int)).bind fun x265 => ((ix l200 x250).bind fun x276 => ((ix l208 x265).bind fun x278 => (if x276 ≠ x278 then some (Ctl.ret false) else fMarks_L2 N p0 x150 l200 l208 k251 (IntKind.i64.wrap (x250 + 1)))))) else some (Ctl.go ()))
def fMarks (N : Nat) (p0 : List Int) (p1 : Int) : Option (Bool) :=
 (if ((p0.length : Nat) : Int) > 300 then ((kWorks N ).bind fun b12 => some b12) else ((fMarks_L1 N p0 N ([]) 5 0 : Option (List Int)).bind fun l25 => (if ((l25.length : Nat) : Int) = 0 then ((kWorks N ).bind fun b143 => some b143) else (if ((l25.length : Nat) : Int) = 0 then none else ((ix l25 (Int.tmod (IntKind.i64.wrap p1) ((l25.length : Nat) : Int))).bind fun x150 => ((cutx p0 (0 : Int) (IntKind.i64.wrap (x150 + 1))).bind fun l156 => ((apx ([]) l156).bind fun l163 => ((apx l163 ([769])).bind fun l174 => ((cutx p0 (IntKind.i64.wrap (x150 + 1)) ((p0.length : Nat) : Int)).bind fun l183 => ((apx l174 l183).bind fun l189 => ((pBreaks N p0).bind fun l200 => ((pBreaks N l189).bind fun l208 => (((((if ((l200.length : Nat) : Int) ≠ (IntKind.i64.wrap (((p0.length : Nat) : Int) + 1)) then some (true) else (if ((l208.length : Nat) : Int) ≠ (IntKind.i64.wrap (((l189.length : Nat) : Int) + 1)) then some (true) else some (false))) : Option (Bool)).bind fun b225 => (match b225 with | true => some (Ctl.ret false) | false => ((ix l208 (IntKind.i64.wrap (x150 + 1))).bind fun x234 => (if x234 ≠ 0 then some (Ctl.ret false) else some (Ctl.go ()))))) : Option (Ctl (Unit) (Bool))).bind fun | Ctl.go () => ((fMarks_L2 N p0 x150 l200 l208 N 0 : Option (Ctl (Unit) (Bool))).bind fun | Ctl.go () => ((kWorks N ).bind fun b289 => some b289) | Ctl.ret r => some r) | Ctl.ret r => some r)))))))))))))
def fMarks_R (r : Bool) (w0 : World) (v : Value) (w : World) : Prop := v = .bool r ∧ St [] w0 w []
theorem fMarks_ok (N : Nat) (p0 : List Int) (p1 : Int) (A0 : Option Addr) (c0 : Nat) (r : Bool) (hF : fMarks N p0 p1 = some r) (w0 : World) (hv0 : Vw [] .i32 w0 A0 c0 p0) :
  Calls Tryz.prog 6 #[.slice A0 p0.length c0, .int .u16 p1] w0 fun e w => ∃ v, e = .returned v ∧ fMarks_R r w0 v w := by
 have hS0 := St.start w0
 unfold fMarks at hF
 refine calls_of Tryz.func6 rfl ⟨((.slice A0 p0.length c0) :: (u6 p1) :: un 152 ([])).toArray, []⟩ (by kernel_rfl) (gx_seq (fun K1 hK2 => gx_region (gx_k (.bool false) w0 (gx_nil (gx_thenN (hK2 _ _ (gx_seq (fun K3 hK4 => ?_))))))))
 refine gx_seq (fun K5 hK6 => gx_region (gx_k (.slice A0 p0.length c0) w0 (gx_k (i6 ((p0.length : Nat) : Int)) w0 ?_)))
 rcases if_in hF with ⟨h7, hF⟩ | ⟨h7, hF⟩
 refine gx_v (.bool true) w0 (rbE (decide_eq_true h7)) (gx_nil (gx_thenN (hK6 _ _ (gx_yes (by kernel_rfl) (gx_seq (fun K8 hK9 => gx_region ?_))))))
 have hP10 : St _ _ w0 ([] ++ []) := hS0
 obtain ⟨b12, hc11, hF⟩ := bind_in hF
 try dsimp only at hF
 refine gx_c _ (kWorks_ok N  _ hc11 w0 ) ?_
 rintro _ w13 ⟨rfl, hT15⟩
 have hS14 : St _ _ w13 [] := hS0.take _ hT15
 refine gx_k (.bool b12) w13 (gx_nil (gx_thenN (hK9 _ _ (gx_ret (gx_thenR ?_)))))
 obtain rfl := sj hF
 exact gxF (.bool b12) ⟨_, rfl, rfl, hS14⟩
 refine gx_v (.bool false) w0 (rbE (decide_eq_false h7)) (gx_nil (gx_thenN (hK6 _ _ (gx_no (by kernel_rfl) (gx_pass (gx_thenN (hK4 _ _ ?_)))))))
 refine gx_seq (fun K16 hK17 => gx_region (gx_k (nS) w0 (gx_nil (gx_thenN (hK17 _ _ (gx_seq (fun K18 hK19 => gx_region ?_)))))))
 refine gx_k (.int .u8 5) w0 (gx_nil (gx_thenN (hK19 _ _ ?_)))
 obtain ⟨c26, hE27, hO28⟩ := bind_in hF
 refine gx_cut (fun a w => ∃ (l25 : List Int) (A23 : Option Addr) (c24 : Nat), selfA (fun u22 => ⟨((.slice A0 p0.length c0) :: (u6 p1) :: undef :: undef :: (.bool false) :: (.slice A23 l25.length c24) :: dd u22 6 4 (un 6 ((u22 16) :: (i6 ((p0.length : Nat) : Int)) :: (.bool false) :: undef :: dd u22 20 59 (un 75 ([]))))).toArray, []⟩) a ∧ l25 = c26 ∧ St [] w0 w [rowE .i64 3 A23 c24 l25]) ?_ ?_
 refine gx_seq (fun K29 hK30 => gx_region (gx_k (i6 0) w0 (gx_nil (gx_thenN (hK30 _ _ (gx_block ?_))))))
 have hS31 : St _ _ w0 [rowE .i64 3 none 0 ([])] := hS0.nilrow .i64 3
 refine gx_loop (fun k a w => ∃ (l37 : List Int) (x38 : Int) (x39 : Int) (A35 : Option Addr) (c36 : Nat), selfA (fun u34 => ⟨((.slice A0 p0.length c0) :: (u6 p1) :: undef :: undef :: (.bool false) :: (.slice A35 l37.length c36) :: (.int .u8 x38) :: (i6 x39) :: dd u34 8 2 (un 6 ((u34 16) :: (i6 ((p0.length : Nat) : Int)) :: (.bool false) :: undef :: dd u34 20 59 (un 75 ([]))))).toArray, []⟩) a ∧ fMarks_L1 N p0 k l37 x38 x39 = some c26 ∧ St [] w0 w [rowE .i64 3 A35 c36 l37]) N ?_ ?_
 exact ⟨([]), 5, 0, none, 0, selfA_i (by kernel_rfl), hE27, hS31⟩
 rintro k40 _ w32 ⟨l37, x38, x39, A35, c36, hq133, hL41, hS33⟩
 obtain ⟨u34, rfl⟩ := selfA_u hq133
 rcases k40 with _ | k40
 cases hL41
 first | rw [fMarks_L1] at hL41 | unfold fMarks_L1 at hL41
 refine gx_seq (fun K42 hK43 => gx_seq (fun K44 hK45 => gx_region (gx_k (i6 x39) w32 (gx_k (.slice A0 p0.length c0) w32 (gx_k (i6 ((p0.length : Nat) : Int)) w32 ?_)))))
 rcases if_in hL41 with ⟨h46, hL41⟩ | ⟨h46, hL41⟩
 refine gx_v (.bool true) w32 (rbE (decide_eq_true h46)) (gx_nil (gx_thenN (hK45 _ _ (gx_yes (by kernel_rfl) (gx_pass (gx_thenN (hK43 _ _ ?_)))))))
 refine gx_seq (fun K47 hK48 => gx_block (gx_seq (fun K49 hK50 => gx_region (gx_k (.slice A0 p0.length c0) w32 (gx_k (i6 x39) w32 ?_)))))
 obtain ⟨x51, hx52, hL41⟩ := bind_in hL41
 refine gx_v (pI x39 A0) w32 (rix 21 .i64 hx52 ((hS33.view hv0))) (gx_v (.int .i32 x51) w32 (rlx (hS33.view hv0) hx52) ?_)
 have hP53 : St _ _ w32 ([] ++ [rowE .i64 3 A35 c36 l37]) := hS33
 obtain ⟨x55, hc54, hL41⟩ := bind_in hL41
 try dsimp only at hL41
 refine gx_c _ (rfBk_ok N x51 _ hc54 w32 ) ?_
 rintro _ w56 ⟨rfl, hT58⟩
 have hS57 : St _ _ w56 [rowE .i64 3 A35 c36 l37] := hS33.take _ hT58
 refine gx_k (.int .u8 x55) w56 (gx_nil (gx_thenN (hK50 _ _ ?_)))
 obtain ⟨c63, hE64, hO65⟩ := bind_in hL41
 refine gx_cut (fun a w => ∃ (x62 : Int), selfA (fun u61 => ⟨((.slice A0 p0.length c0) :: (u6 p1) :: undef :: undef :: (.bool false) :: (.slice A35 l37.length c36) :: (.int .u8 x38) :: (i6 x39) :: (.int .u8 x62) :: (u34 9) :: un 6 ((u34 16) :: (i6 ((p0.length : Nat) : Int)) :: (.bool false) :: undef :: (i6 x39) :: (u61 21) :: (i6 ((p0.length : Nat) : Int)) :: (.bool true) :: dd u34 24 2 ((u61 26) :: (i6 x39) :: (pI x39 A0) :: (.int .i32 x51) :: (.int .u8 x55) :: dd u61 31 11 (dd u34 42 37 (un 75 ([])))))).toArray, []⟩) a ∧ x62 = c63 ∧ St [] w0 w [rowE .i64 3 A35 c36 l37]) ?_ ?_
 refine gx_seq (fun K66 hK67 => gx_region (gx_k (.int .u8 x55) w56 ?_))
 rcases if_in hE64 with ⟨h68, hE64⟩ | ⟨h68, hE64⟩
 refine gx_v (.bool true) w56 (rbE (decide_eq_true h68)) (gx_k (.bool true) w56 (gx_k (.int .u8 x38) w56 ?_))
 rcases if_in hE64 with ⟨h69, hE64⟩ | ⟨h69, hE64⟩
 refine gx_v (.bool true) w56 (rbE (ne_yes h69)) (gx_k (.bool true) w56 (gx_k (.bool true) w56 (gx_o (gx_o (gx_k (.bool true) w56 (gx_nil (gx_thenN (hK67 _ _ (gx_yes (by kernel_rfl) (gx_region (gx_k (.int .u8 x38) w56 (gx_k (.int .u8 x38) w56 ?_))))))))))))
 refine gx_nil (gx_thenN ?_)
 exact ⟨x38, selfA_i (by kernel_rfl), (sj hE64), hS57⟩
 refine gx_v (.bool false) w56 (rbE (ne_no h69)) (gx_k (.bool false) w56 (gx_k (.bool false) w56 (gx_k (.int .u8 x55) w56 ?_)))
 rcases if_in hE64 with ⟨h70, hE64⟩ | ⟨h70, hE64⟩
 refine gx_v (.bool true) w56 (rbE (decide_eq_true h70)) (gx_k (.bool true) w56 (gx_nil (gx_thenN (hK67 _ _ (gx_yes (by kernel_rfl) (gx_region (gx_k (.int .u8 x38) w56 (gx_k (.int .u8 x38) w56 ?_))))))))
 refine gx_nil (gx_thenN ?_)
 exact ⟨x38, selfA_i (by kernel_rfl), (sj hE64), hS57⟩
 refine gx_v (.bool false) w56 (rbE (decide_eq_false h70)) (gx_k (.bool false) w56 (gx_nil (gx_thenN (hK67 _ _ (gx_no (by kernel_rfl) (gx_pass (gx_thenN ?_)))))))
 exact ⟨x55, selfA_i (by kernel_rfl), (sj hE64), hS57⟩
 refine gx_v (.bool false) w56 (rbE (decide_eq_false h68)) (gx_k (.bool false) w56 (gx_o (gx_o (gx_k (.bool false) w56 (gx_k (.bool false) w56 (gx_k (.int .u8 x55) w56 ?_))))))
 rcases if_in hE64 with ⟨h71, hE64⟩ | ⟨h71, hE64⟩
 refine gx_v (.bool true) w56 (rbE (decide_eq_true h71)) (gx_k (.bool true) w56 (gx_nil (gx_thenN (hK67 _ _ (gx_yes (by kernel_rfl) (gx_region (gx_k (.int .u8 x38) w56 (gx_k (.int .u8 x38) w56 ?_))))))))
 refine gx_nil (gx_thenN ?_)
 exact ⟨x38, selfA_i (by kernel_rfl), (sj hE64), hS57⟩
 refine gx_v (.bool false) w56 (rbE (decide_eq_false h71)) (gx_k (.bool false) w56 (gx_nil (gx_thenN (hK67 _ _ (gx_no (by kernel_rfl) (gx_pass (gx_thenN ?_)))))))
 exact ⟨x55, selfA_i (by kernel_rfl), (sj hE64), hS57⟩
 rintro _ w59 ⟨x62, hq132, rfl, hS60⟩
 obtain ⟨u61, rfl⟩ := selfA_u hq132
 try dsimp only at hO65
 obtain ⟨c76, hE77, hO78⟩ := bind_in hO65
 refine gx_cut (fun a w => ∃ (b75 : Bool), selfA (fun u74 => ⟨((.slice A0 p0.length c0) :: (u6 p1) :: undef :: undef :: (.bool false) :: (.slice A35 l37.length c36) :: (.int .u8 x38) :: (i6 x39) :: (.int .u8 x62) :: (.bool b75) :: un 6 ((u34 16) :: (i6 ((p0.length : Nat) : Int)) :: (.bool false) :: undef :: (i6 x39) :: (u61 21) :: (i6 ((p0.length : Nat) : Int)) :: (.bool true) :: dd u34 24 2 ((u61 26) :: (i6 x39) :: (pI x39 A0) :: (.int .i32 x51) :: (.int .u8 x55) :: dd u61 31 11 (dd u74 42 22 (dd u34 64 15 (un 75 ([]))))))).toArray, []⟩) a ∧ b75 = c76 ∧ St [] w0 w [rowE .i64 3 A35 c36 l37]) ?_ ?_
 refine gx_region (gx_k (.int .u8 x62) w59 ?_)
 obtain ⟨c83, hE84, hO85⟩ := bind_in hE77
 refine gx_part (l1 := [_, _, _, _, _]) (fun a w => ∃ (b82 : Bool), selfA (fun u81 => ⟨((.slice A0 p0.length c0) :: (u6 p1) :: undef :: undef :: (.bool false) :: (.slice A35 l37.length c36) :: (.int .u8 x38) :: (i6 x39) :: (.int .u8 x62) :: (u34 9) :: un 6 ((u34 16) :: (i6 ((p0.length : Nat) : Int)) :: (.bool false) :: undef :: (i6 x39) :: (u61 21) :: (i6 ((p0.length : Nat) : Int)) :: (.bool true) :: dd u34 24 2 ((u61 26) :: (i6 x39) :: (pI x39 A0) :: (.int .i32 x51) :: (.int .u8 x55) :: dd u61 31 11 ((.int .u8 x62) :: dd u81 43 4 ((.bool b82) :: dd u34 48 31 (un 75 ([]))))))).toArray, []⟩) a ∧ b82 = c83 ∧ St [] w0 w [rowE .i64 3 A35 c36 l37]) rfl ?_ ?_
 rcases if_in hE84 with ⟨h87, hE84⟩ | ⟨h87, hE84⟩
 refine gx_v (.bool true) w59 (rbE (decide_eq_true h87)) (gx_k (.bool true) w59 (gx_o (gx_o (gx_k (.bool true) w59 (gx_nil (gx_thenN ?_))))))
 exact ⟨true, selfA_i (by kernel_rfl), (sj hE84), hS60⟩
 refine gx_v (.bool false) w59 (rbE (decide_eq_false h87)) (gx_k (.bool false) w59 (gx_k (.int .u8 x62) w59 ?_))
 rcases if_in hE84 with ⟨h88, hE84⟩ | ⟨h88, hE84⟩
 refine gx_v (.bool true) w59 (rbE (decide_eq_true h88)) (gx_k (.bool true) w59 (gx_nil (gx_thenN ?_)))
 exact ⟨true, selfA_i (by kernel_rfl), (sj hE84), hS60⟩
 refine gx_v (.bool false) w59 (rbE (decide_eq_false h88)) (gx_k (.bool false) w59 (gx_nil (gx_thenN ?_)))
 exact ⟨false, selfA_i (by kernel_rfl), (sj hE84), hS60⟩
 rintro _ w79 ⟨b82, hq86, rfl, hS80⟩
 obtain ⟨u81, rfl⟩ := selfA_u hq86
 try dsimp only at hO85
 obtain ⟨c93, hE94, hO95⟩ := bind_in hO85
 refine gx_part (l1 := [_, _, _, _]) (fun a w => ∃ (b92 : Bool), selfA (fun u91 => ⟨((.slice A0 p0.length c0) :: (u6 p1) :: undef :: undef :: (.bool false) :: (.slice A35 l37.length c36) :: (.int .u8 x38) :: (i6 x39) :: (.int .u8 x62) :: (u34 9) :: un 6 ((u34 16) :: (i6 ((p0.length : Nat) : Int)) :: (.bool false) :: undef :: (i6 x39) :: (u61 21) :: (i6 ((p0.length : Nat) : Int)) :: (.bool true) :: dd u34 24 2 ((u61 26) :: (i6 x39) :: (pI x39 A0) :: (.int .i32 x51) :: (.int .u8 x55) :: dd u61 31 11 ((.int .u8 x62) :: dd u81 43 4 ((.bool b82) :: dd u91 48 3 ((.bool b92) :: dd u34 52 27 (un 75 ([])))))))).toArray, []⟩) a ∧ b92 = c93 ∧ St [] w0 w [rowE .i64 3 A35 c36 l37]) rfl ?_ ?_
 refine gx_k (.bool b82) w79 ?_
 rcases b82 with _ | _
 try dsimp only at hE94
 refine gx_k (.int .u8 x62) w79 ?_
 rcases if_in hE94 with ⟨h97, hE94⟩ | ⟨h97, hE94⟩
 refine gx_v (.bool true) w79 (rbE (decide_eq_true h97)) (gx_k (.bool true) w79 (gx_nil (gx_thenN ?_)))
 exact ⟨true, selfA_i (by kernel_rfl), (sj hE94), hS80⟩
 refine gx_v (.bool false) w79 (rbE (decide_eq_false h97)) (gx_k (.bool false) w79 (gx_nil (gx_thenN ?_)))
 exact ⟨false, selfA_i (by kernel_rfl), (sj hE94), hS80⟩
 try dsimp only at hE94
 refine gx_o (gx_o (gx_k (.bool true) w79 (gx_nil (gx_thenN ?_))))
 exact ⟨true, selfA_i (by kernel_rfl), (sj hE94), hS80⟩
 rintro _ w89 ⟨b92, hq96, rfl, hS90⟩
 obtain ⟨u91, rfl⟩ := selfA_u hq96
 try dsimp only at hO95
 obtain ⟨c102, hE103, hO104⟩ := bind_in hO95
 refine gx_part (l1 := [_, _, _, _]) (fun a w => ∃ (b101 : Bool), selfA (fun u100 => ⟨((.slice A0 p0.length c0) :: (u6 p1) :: undef :: undef :: (.bool false) :: (.slice A35 l37.length c36) :: (.int .u8 x38) :: (i6 x39) :: (.int .u8 x62) :: (u34 9) :: un 6 ((u34 16) :: (i6 ((p0.length : Nat) : Int)) :: (.bool false) :: undef :: (i6 x39) :: (u61 21) :: (i6 ((p0.length : Nat) : Int)) :: (.bool true) :: dd u34 24 2 ((u61 26) :: (i6 x39) :: (pI x39 A0) :: (.int .i32 x51) :: (.int .u8 x55) :: dd u61 31 11 ((.int .u8 x62) :: dd u81 43 4 ((.bool b82) :: dd u91 48 3 ((.bool b92) :: dd u100 52 3 ((.bool b101) :: dd u34 56 23 (un 75 ([]))))))))).toArray, []⟩) a ∧ b101 = c102 ∧ St [] w0 w [rowE .i64 3 A35 c36 l37]) rfl ?_ ?_
 refine gx_k (.bool b92) w89 ?_
 rcases b92 with _ | _
 try dsimp only at hE103
 refine gx_k (.int .u8 x62) w89 ?_
 rcases if_in hE103 with ⟨h106, hE103⟩ | ⟨h106, hE103⟩
 refine gx_v (.bool true) w89 (rbE (decide_eq_true h106)) (gx_k (.bool true) w89 (gx_nil (gx_thenN ?_)))
 exact ⟨true, selfA_i (by kernel_rfl), (sj hE103), hS90⟩
 refine gx_v (.bool false) w89 (rbE (decide_eq_false h106)) (gx_k (.bool false) w89 (gx_nil (gx_thenN ?_)))
 exact ⟨false, selfA_i (by kernel_rfl), (sj hE103), hS90⟩
 try dsimp only at hE103
 refine gx_o (gx_o (gx_k (.bool true) w89 (gx_nil (gx_thenN ?_))))
 exact ⟨true, selfA_i (by kernel_rfl), (sj hE103), hS90⟩
 rintro _ w98 ⟨b101, hq105, rfl, hS99⟩
 obtain ⟨u100, rfl⟩ := selfA_u hq105
 try dsimp only at hO104
 refine gx_k (.bool b101) w98 ?_
 rcases b101 with _ | _
 try dsimp only at hO104
 refine gx_k (.int .u8 x62) w98 ?_
 rcases if_in hO104 with ⟨h107, hO104⟩ | ⟨h107, hO104⟩
 refine gx_v (.bool true) w98 (rbE (decide_eq_true h107)) (gx_k (.bool true) w98 (gx_k (.bool true) w98 (gx_o (gx_o (gx_k (.bool true) w98 (gx_k (.bool true) w98 (gx_nil (gx_thenN ?_))))))))
 exact ⟨true, selfA_i (by kernel_rfl), (sj hO104), hS99⟩
 refine gx_v (.bool false) w98 (rbE (decide_eq_false h107)) (gx_k (.bool false) w98 (gx_k (.bool false) w98 (gx_k (.int .u8 x62) w98 ?_)))
 rcases if_in hO104 with ⟨h108, hO104⟩ | ⟨h108, hO104⟩
 refine gx_v (.bool true) w98 (rbE (decide_eq_true h108)) (gx_k (.bool true) w98 (gx_k (.bool true) w98 (gx_nil (gx_thenN ?_))))
 exact ⟨true, selfA_i (by kernel_rfl), (sj hO104), hS99⟩
 refine gx_v (.bool false) w98 (rbE (decide_eq_false h108)) (gx_k (.bool false) w98 (gx_k (.bool false) w98 (gx_nil (gx_thenN ?_))))
 exact ⟨false, selfA_i (by kernel_rfl), (sj hO104), hS99⟩
 try dsimp only at hO104
 refine gx_o (gx_o (gx_k (.bool true) w98 (gx_k (.bool true) w98 (gx_o (gx_o (gx_k (.bool true) w98 (gx_k (.bool true) w98 (gx_nil (gx_thenN ?_)))))))))
 exact ⟨true, selfA_i (by kernel_rfl), (sj hO104), hS99⟩
 rintro _ w72 ⟨b75, hq131, rfl, hS73⟩
 obtain ⟨u74, rfl⟩ := selfA_u hq131
 try dsimp only at hO78
 refine gx_seq (fun K109 hK110 => gx_seq (fun K111 hK112 => gx_region (gx_k (.bool b75) w72 ?_)))
 rcases b75 with _ | _
 try dsimp only at hO78
 refine gx_k (.bool true) w72 (gx_k (.bool true) w72 (gx_k (.slice A0 p0.length c0) w72 (gx_k (i6 x39) w72 ?_)))
 obtain ⟨x113, hx114, hO78⟩ := bind_in hO78
 refine gx_v (pI x39 A0) w72 (rix 21 .i64 hx114 ((hS73.view hv0))) (gx_v (.int .i32 x113) w72 (rlx (hS73.view hv0) hx114) ?_)
 have hP115 : St _ _ w72 ([] ++ [rowE .i64 3 A35 c36 l37]) := hS73
 obtain ⟨x117, hc116, hO78⟩ := bind_in hO78
 try dsimp only at hO78
 refine gx_c _ (rfBk_ok N x113 _ hc116 w72 ) ?_
 rintro _ w118 ⟨rfl, hT120⟩
 have hS119 : St _ _ w118 [rowE .i64 3 A35 c36 l37] := hS73.take _ hT120
 rcases if_in hO78 with ⟨h121, hO78⟩ | ⟨h121, hO78⟩
 refine gx_v (.bool true) w118 (rbE (ne_yes h121)) (gx_k (.bool true) w118 (gx_nil (gx_thenN (hK112 _ _ (gx_yes (by kernel_rfl) (gx_region (gx_k (.slice A35 l37.length c36) w118 (gx_k (i6 x39) w118 ?_))))))))
 refine gx_r (st_made .i64 3 [x39] hS119 (by show 1 ≤ 1000000000; decide) (by kernel_rfl)) ?_
 rintro _ w122 ⟨rfl, hS123⟩
 have hS123 : St _ _ w122 [rowE .i64 3 A35 c36 l37, rowE .i64 3 (some ⟨w118.heap.size, 0, none⟩) 1 ([x39])] := hS123
 obtain ⟨l124, ha125, hO78⟩ := bind_in hO78
 obtain ⟨ha125, hq126⟩ := apx_in ha125
 refine gx_r (st_append rfl (by kernel_rfl) (by kernel_rfl) hS123 0 rfl (hS123.row 1 rfl).1 (hS123.row 1 rfl).2 ha125 (by kernel_rfl) (by kernel_rfl)) ?_
 rintro _ w129 ⟨A127, c128, rfl, hS130⟩
 rw [← hq126] at hS130 ⊢
 have hS130 : St _ _ w129 [rowE .i64 3 A127 c128 l124, rowE .i64 3 (some ⟨w118.heap.size, 0, none⟩) 1 ([x39])] := hS130
 refine gx_k (.slice A127 l124.length c128) w129 (gx_nil (gx_thenN (hK110 _ _ (gx_region (gx_k (.int .u8 x62) w129 (gx_k (.int .u8 x62) w129 (gx_nil (gx_blkN ?_))))))))
 refine gx_thenN (hK48 _ _ (gx_region (gx_k (i6 x39) w129 (gx_k (i6 (iw (x39 + 1))) w129 (gx_k (i6 (iw (x39 + 1))) w129 (gx_nil (gx_thenN ?_)))))))
 exact ⟨k40, Nat.lt_succ_self k40, l124, x62, (iw (x39 + 1)), A127, c128, selfA_i (by kernel_rfl), hO78, (hS130.pick [0] rfl rfl)⟩
 refine gx_v (.bool false) w118 (rbE (ne_no h121)) (gx_k (.bool false) w118 (gx_nil (gx_thenN (hK112 _ _ (gx_no (by kernel_rfl) (gx_pass (gx_thenN ?_)))))))
 refine hK110 _ _ (gx_region (gx_k (.int .u8 x62) w118 (gx_k (.int .u8 x62) w118 (gx_nil (gx_blkN (gx_thenN (hK48 _ _ (gx_region ?_))))))))
 refine gx_k (i6 x39) w118 (gx_k (i6 (iw (x39 + 1))) w118 (gx_k (i6 (iw (x39 + 1))) w118 (gx_nil (gx_thenN ?_))))
 exact ⟨k40, Nat.lt_succ_self k40, l37, x62, (iw (x39 + 1)), A35, c36, selfA_i (by kernel_rfl), hO78, hS119⟩
 try dsimp only at hO78
 refine gx_k (.bool false) w72 (gx_k (.bool false) w72 (gx_o (gx_o (gx_o (gx_o (gx_o (gx_o (gx_k (.bool false) w72 (gx_nil (gx_thenN (hK112 _ _ (gx_no (by kernel_rfl) (gx_pass (gx_thenN ?_))))))))))))))
 refine hK110 _ _ (gx_region (gx_k (.int .u8 x62) w72 (gx_k (.int .u8 x62) w72 (gx_nil (gx_blkN (gx_thenN (hK48 _ _ (gx_region ?_))))))))
 refine gx_k (i6 x39) w72 (gx_k (i6 (iw (x39 + 1))) w72 (gx_k (i6 (iw (x39 + 1))) w72 (gx_nil (gx_thenN ?_))))
 exact ⟨k40, Nat.lt_succ_self k40, l37, x62, (iw (x39 + 1)), A35, c36, selfA_i (by kernel_rfl), hO78, hS73⟩
 refine gx_v (.bool false) w32 (rbE (decide_eq_false h46)) (gx_nil (gx_thenN (hK45 _ _ (gx_no (by kernel_rfl) (gx_exit (gx_thenE (gx_thenE ?_)))))))
 refine gx_blkE (gx_thenN ?_)
 exact ⟨l37, A35, c36, selfA_i (by kernel_rfl), (sj hL41), hS33⟩
 rintro _ w20 ⟨l25, A23, c24, hq295, rfl, hS21⟩
 obtain ⟨u22, rfl⟩ := selfA_u hq295
 try dsimp only at hO28
 refine gx_seq (fun K134 hK135 => gx_seq (fun K136 hK137 => gx_region (gx_k (.slice A23 l25.length c24) w20 (gx_k (i6 ((l25.length : Nat) : Int)) w20 ?_))))
 rcases if_in hO28 with ⟨h138, hO28⟩ | ⟨h138, hO28⟩
 refine gx_v (.bool true) w20 (rbE (decide_eq_true h138)) (gx_nil (gx_thenN (hK137 _ _ (gx_yes (by kernel_rfl) (gx_seq (fun K139 hK140 => gx_region ?_))))))
 have hP141 : St _ _ w20 ([] ++ [rowE .i64 3 A23 c24 l25]) := hS21
 obtain ⟨b143, hc142, hO28⟩ := bind_in hO28
 try dsimp only at hO28
 refine gx_c _ (kWorks_ok N  _ hc142 w20 ) ?_
 rintro _ w144 ⟨rfl, hT146⟩
 have hS145 : St _ _ w144 [rowE .i64 3 A23 c24 l25] := hS21.take _ hT146
 refine gx_k (.bool b143) w144 (gx_nil (gx_thenN (hK140 _ _ (gx_ret (gx_thenR ?_)))))
 obtain rfl := sj hO28
 exact gxF (.bool b143) ⟨_, rfl, rfl, (hS145.pick [] rfl rfl)⟩
 refine gx_v (.bool false) w20 (rbE (decide_eq_false h138)) (gx_nil (gx_thenN (hK137 _ _ (gx_no (by kernel_rfl) (gx_pass (gx_thenN (hK135 _ _ ?_)))))))
 refine gx_seq (fun K147 hK148 => gx_region (gx_k (.slice A23 l25.length c24) w20 (gx_k (u6 p1) w20 (gx_k (i6 (iw p1)) w20 (gx_k (.slice A23 l25.length c24) w20 (gx_k (i6 ((l25.length : Nat) : Int)) w20 ?_))))))
 rcases if_in hO28 with ⟨h149, hO28⟩ | ⟨h149, hO28⟩
 cases hO28
 refine gx_v (i6 (Int.tmod (iw p1) ((l25.length : Nat) : Int))) w20 (run_rem (T := 3) rfl (by kernel_rfl) (by kernel_rfl) rfl h149) ?_
 obtain ⟨x150, hx151, hO28⟩ := bind_in hO28
 refine gx_v (pI (Int.tmod (iw p1) ((l25.length : Nat) : Int)) A23) w20 (rix 3 .i64 hx151 ((hS21.row 0 rfl).1)) (gx_v (i6 x150) w20 (rlx (hS21.row 0 rfl).1 hx151) (gx_k (i6 x150) w20 (gx_nil (gx_thenN (hK148 _ _ (gx_seq (fun K152 hK153 => gx_region ?_)))))))
 refine gx_k (nS) w20 (gx_nil (gx_thenN (hK153 _ _ (gx_seq (fun K154 hK155 => gx_region (gx_k (nS) w20 (gx_k (.slice A0 p0.length c0) w20 (gx_k (i6 x150) w20 (gx_k (i6 (iw (x150 + 1))) w20 ?_)))))))))
 obtain ⟨l156, hx157, hO28⟩ := bind_in hO28
 obtain ⟨A158, c159, hA160⟩ := cut_is A0 (Int.toNat (0 : Int)) (Int.toNat (iw (x150 + 1))) c0
 rw [← cutx_len hx157] at hA160
 have hv161 := Vw.cut hv0 hx157 hA160
 refine gx_v (.slice A158 l156.length c159) w20 (run_cut (TE := 21) (n := p0.length) (l := Int.toNat (0 : Int)) (h := Int.toNat (iw (x150 + 1))) none (some (i6 (iw (x150 + 1)))) rfl (by kernel_rfl) (by kernel_rfl) (by kernel_rfl) (by kernel_rfl) (fun _ => by kernel_rfl) (bnd_h (cutx_in hx157).2.1 (Int.le_trans (cutx_in hx157).2.2.1 (by exact_mod_cast num_room (hS21.view hv0)))) hA160) ?_
 have hS162 : St _ _ w20 [rowE .i64 3 A23 c24 l25, rowE .i32 21 none 0 ([])] := hS21.nilrow .i32 21
 obtain ⟨l163, ha164, hO28⟩ := bind_in hO28
 obtain ⟨ha164, hq165⟩ := apx_in ha164
 refine gx_r (st_append rfl (by kernel_rfl) (by kernel_rfl) hS162 1 rfl (hS162.view hv161) hv161.nn ha164 (by kernel_rfl) (by kernel_rfl)) ?_
 rintro _ w168 ⟨A166, c167, rfl, hS169⟩
 rw [← hq165] at hS169 ⊢
 have hS169 : St _ _ w168 [rowE .i64 3 A23 c24 l25, rowE .i32 21 A166 c167 l163] := hS169
 refine gx_k (.slice A166 l163.length c167) w168 (gx_nil (gx_thenN (hK155 _ _ (gx_seq (fun K170 hK171 => gx_region (gx_k (.slice A166 l163.length c167) w168 (gx_r (st_made .i32 21 [769] hS169 (by show 1 ≤ 1000000000; decide) (by kernel_rfl)) ?_)))))))
 rintro _ w172 ⟨rfl, hS173⟩
 have hS173 : St _ _ w172 [rowE .i64 3 A23 c24 l25, rowE .i32 21 A166 c167 l163, rowE .i32 21 (some ⟨w168.heap.size, 0, none⟩) 1 ([769])] := hS173
 obtain ⟨l174, ha175, hO28⟩ := bind_in hO28
 obtain ⟨ha175, hq176⟩ := apx_in ha175
 refine gx_r (st_append rfl (by kernel_rfl) (by kernel_rfl) hS173 1 rfl (hS173.row 2 rfl).1 (hS173.row 2 rfl).2 ha175 (by kernel_rfl) (by kernel_rfl)) ?_
 rintro _ w179 ⟨A177, c178, rfl, hS180⟩
 rw [← hq176] at hS180 ⊢
 have hS180 : St _ _ w179 [rowE .i64 3 A23 c24 l25, rowE .i32 21 A177 c178 l174, rowE .i32 21 (some ⟨w168.heap.size, 0, none⟩) 1 ([769])] := hS180
 refine gx_k (.slice A177 l174.length c178) w179 (gx_nil (gx_thenN (hK171 _ _ (gx_seq (fun K181 hK182 => gx_region (gx_k (.slice A177 l174.length c178) w179 (gx_k (.slice A0 p0.length c0) w179 (gx_k (i6 x150) w179 (gx_k (i6 (iw (x150 + 1))) w179 ?_)))))))))
 obtain ⟨l183, hx184, hO28⟩ := bind_in hO28
 obtain ⟨A185, c186, hA187⟩ := cut_is A0 (Int.toNat (iw (x150 + 1))) (Int.toNat ((p0.length : Nat) : Int)) c0
 rw [← cutx_len hx184] at hA187
 have hv188 := Vw.cut hv0 hx184 hA187
 refine gx_v (.slice A185 l183.length c186) w179 (run_cut (TE := 21) (n := p0.length) (l := Int.toNat (iw (x150 + 1))) (h := Int.toNat ((p0.length : Nat) : Int)) (some (i6 (iw (x150 + 1)))) none rfl (by kernel_rfl) (by kernel_rfl) (by kernel_rfl) (by kernel_rfl) (fun _ => by kernel_rfl) (bnd_l (cutx_in hx184).1 (cutx_in hx184).2.1) hA187) ?_
 obtain ⟨l189, ha190, hO28⟩ := bind_in hO28
 obtain ⟨ha190, hq191⟩ := apx_in ha190
 refine gx_r (st_append rfl (by kernel_rfl) (by kernel_rfl) hS180 1 rfl (hS180.view hv188) hv188.nn ha190 (by kernel_rfl) (by kernel_rfl)) ?_
 rintro _ w194 ⟨A192, c193, rfl, hS195⟩
 rw [← hq191] at hS195 ⊢
 have hS195 : St _ _ w194 [rowE .i64 3 A23 c24 l25, rowE .i32 21 A192 c193 l189, rowE .i32 21 (some ⟨w168.heap.size, 0, none⟩) 1 ([769])] := hS195
 refine gx_k (.slice A192 l189.length c193) w194 (gx_nil (gx_thenN (hK182 _ _ (gx_seq (fun K196 hK197 => gx_region (gx_k (.slice A0 p0.length c0) w194 ?_))))))
 have hP198 : St _ _ w194 ([] ++ [rowE .i64 3 A23 c24 l25, rowE .i32 21 A192 c193 l189, rowE .i32 21 (some ⟨w168.heap.size, 0, none⟩) 1 ([769])]) := hS195
 obtain ⟨l200, hc199, hO28⟩ := bind_in hO28
 try dsimp only at hO28
 refine gx_c _ (pBreaks_ok N p0 A0 c0 _ hc199 w194 (hP198.vwA hv0)) ?_
 rintro _ w203 ⟨A201, c202, rfl, hT205⟩
 have hS204 : St _ _ w203 [rowE .i64 3 A23 c24 l25, rowE .i32 21 A192 c193 l189, rowE .i32 21 (some ⟨w168.heap.size, 0, none⟩) 1 ([769]), rowE .u8 5 A201 c202 l200] := hS195.take _ hT205
 refine gx_k (.slice A192 l189.length c193) w203 ?_
 have hP206 : St _ _ w203 ([] ++ [rowE .i64 3 A23 c24 l25, rowE .i32 21 A192 c193 l189, rowE .i32 21 (some ⟨w168.heap.size, 0, none⟩) 1 ([769]), rowE .u8 5 A201 c202 l200]) := hS204
 obtain ⟨l208, hc207, hO28⟩ := bind_in hO28
 try dsimp only at hO28
 refine gx_c _ (pBreaks_ok N l189 A192 c193 _ hc207 w203 (hP206.vwB 1 rfl)) ?_
 rintro _ w211 ⟨A209, c210, rfl, hT213⟩
 have hS212 : St _ _ w211 [rowE .i64 3 A23 c24 l25, rowE .i32 21 A192 c193 l189, rowE .i32 21 (some ⟨w168.heap.size, 0, none⟩) 1 ([769]), rowE .u8 5 A201 c202 l200, rowE .u8 5 A209 c210 l208] := hS204.take _ hT213
 refine gx_k (.slice A201 l200.length c202) w211 (gx_k (.slice A209 l208.length c210) w211 (gx_nil (gx_thenN (hK197 _ _ ?_))))
 obtain ⟨c217, hE218, hO219⟩ := bind_in hO28
 refine gx_cut (fun a w => selfA (fun u216 => ⟨((.slice A0 p0.length c0) :: (u6 p1) :: undef :: undef :: dd u216 4 2 (dd u22 6 4 ((i6 x150) :: (u216 11) :: (.slice A201 l200.length c202) :: (.slice A209 l208.length c210) :: undef :: undef :: (u22 16) :: (i6 ((p0.length : Nat) : Int)) :: (.bool false) :: undef :: dd u22 20 59 ((u216 79) :: (i6 ((l25.length : Nat) : Int)) :: (.bool false) :: undef :: (u216 83) :: (u6 p1) :: (i6 (iw p1)) :: (u216 86) :: (i6 ((l25.length : Nat) : Int)) :: (i6 (Int.tmod (iw p1) ((l25.length : Nat) : Int))) :: (pI (Int.tmod (iw p1) ((l25.length : Nat) : Int)) A23) :: (i6 x150) :: (nS) :: (u216 92) :: (i6 x150) :: (i6 (iw (x150 + 1))) :: dd u216 95 7 ((i6 x150) :: (i6 (iw (x150 + 1))) :: dd u216 104 28 (un 22 ([]))))))).toArray, []⟩) a ∧ Ctl.go () = c217 ∧ St [] w0 w [rowE .u8 5 A201 c202 l200, rowE .u8 5 A209 c210 l208]) ?_ ?_
 refine gx_seq (fun K220 hK221 => gx_region (gx_k (.slice A201 l200.length c202) w211 (gx_k (i6 ((l200.length : Nat) : Int)) w211 (gx_k (.slice A0 p0.length c0) w211 (gx_k (i6 ((p0.length : Nat) : Int)) w211 (gx_k (i6 (iw (((p0.length : Nat) : Int) + 1))) w211 ?_))))))
 obtain ⟨c226, hE227, hO228⟩ := bind_in hE218
 refine gx_part (l1 := [_, _, _, _, _, _, _, _, _]) (fun a w => ∃ (b225 : Bool), selfA (fun u224 => ⟨((.slice A0 p0.length c0) :: (u6 p1) :: undef :: undef :: (.bool false) :: (u224 5) :: dd u22 6 4 ((i6 x150) :: (u224 11) :: (.slice A201 l200.length c202) :: (.slice A209 l208.length c210) :: undef :: undef :: (u22 16) :: (i6 ((p0.length : Nat) : Int)) :: (.bool false) :: undef :: dd u22 20 59 ((u224 79) :: (i6 ((l25.length : Nat) : Int)) :: (.bool false) :: undef :: (u224 83) :: (u6 p1) :: (i6 (iw p1)) :: (u224 86) :: (i6 ((l25.length : Nat) : Int)) :: (i6 (Int.tmod (iw p1) ((l25.length : Nat) : Int))) :: (pI (Int.tmod (iw p1) ((l25.length : Nat) : Int)) A23) :: (i6 x150) :: (nS) :: (u224 92) :: (i6 x150) :: (i6 (iw (x150 + 1))) :: dd u224 95 7 ((i6 x150) :: (i6 (iw (x150 + 1))) :: dd u224 104 7 ((i6 ((l200.length : Nat) : Int)) :: (u224 112) :: (i6 ((p0.length : Nat) : Int)) :: (i6 (iw (((p0.length : Nat) : Int) + 1))) :: dd u224 115 8 ((.bool b225) :: un 30 ([]))))))).toArray, []⟩) a ∧ b225 = c226 ∧ St [] w0 w [rowE .u8 5 A201 c202 l200, rowE .u8 5 A209 c210 l208]) rfl ?_ ?_
 rcases if_in hE227 with ⟨h230, hE227⟩ | ⟨h230, hE227⟩
 refine gx_v (.bool true) w211 (rbE (ne_yes h230)) (gx_k (.bool true) w211 (gx_o (gx_o (gx_o (gx_o (gx_o (gx_o (gx_k (.bool true) w211 (gx_nil (gx_thenN ?_))))))))))
 exact ⟨true, selfA_i (by kernel_rfl), (sj hE227), (hS212.pick [3, 4] rfl rfl)⟩
 refine gx_v (.bool false) w211 (rbE (ne_no h230)) (gx_k (.bool false) w211 (gx_k (.slice A209 l208.length c210) w211 (gx_k (i6 ((l208.length : Nat) : Int)) w211 (gx_k (.slice A192 l189.length c193) w211 (gx_k (i6 ((l189.length : Nat) : Int)) w211 (gx_k (i6 (iw (((l189.length : Nat) : Int) + 1))) w211 ?_))))))
 rcases if_in hE227 with ⟨h231, hE227⟩ | ⟨h231, hE227⟩
 refine gx_v (.bool true) w211 (rbE (ne_yes h231)) (gx_k (.bool true) w211 (gx_nil (gx_thenN ?_)))
 exact ⟨true, selfA_i (by kernel_rfl), (sj hE227), (hS212.pick [3, 4] rfl rfl)⟩
 refine gx_v (.bool false) w211 (rbE (ne_no h231)) (gx_k (.bool false) w211 (gx_nil (gx_thenN ?_)))
 exact ⟨false, selfA_i (by kernel_rfl), (sj hE227), (hS212.pick [3, 4] rfl rfl)⟩
 rintro _ w222 ⟨b225, hq229, rfl, hS223⟩
 obtain ⟨u224, rfl⟩ := selfA_u hq229
 try dsimp only at hO228
 refine gx_k (.bool b225) w222 ?_
 rcases b225 with _ | _
 try dsimp only at hO228
 refine gx_k (.slice A209 l208.length c210) w222 (gx_k (i6 x150) w222 (gx_k (i6 (iw (x150 + 1))) w222 ?_))
 obtain ⟨x234, hx235, hO228⟩ := bind_in hO228
 refine gx_v (pI (iw (x150 + 1)) A209) w222 (rix 5 .i64 hx235 ((hS223.row 1 rfl).1)) (gx_v (.int .u8 x234) w222 (rlx (hS223.row 1 rfl).1 hx235) ?_)
 rcases if_in hO228 with ⟨h236, hO228⟩ | ⟨h236, hO228⟩
 refine gx_v (.bool true) w222 (rbE (ne_yes h236)) (gx_k (.bool true) w222 (gx_nil (gx_thenN (hK221 _ _ (gx_yes (by kernel_rfl) (gx_seq (fun K237 hK238 => gx_region ?_)))))))
 refine gx_k (.bool false) w222 (gx_nil (gx_thenN (hK238 _ _ (gx_ret (gx_thenR ?_)))))
 obtain rfl := sj hO228
 try dsimp only at hO219
 obtain rfl := sj hO219
 exact gxF (.bool false) ⟨_, rfl, rfl, (hS223.pick [] rfl rfl)⟩
 refine gx_v (.bool false) w222 (rbE (ne_no h236)) (gx_k (.bool false) w222 (gx_nil (gx_thenN (hK221 _ _ (gx_no (by kernel_rfl) (gx_pass (gx_thenN ?_)))))))
 exact ⟨selfA_i (by kernel_rfl), (sj hO228), hS223⟩
 try dsimp only at hO228
 refine gx_o (gx_o (gx_o (gx_o (gx_o (gx_o (gx_k (.bool true) w222 (gx_nil (gx_thenN (hK221 _ _ (gx_yes (by kernel_rfl) (gx_seq (fun K232 hK233 => gx_region (gx_k (.bool false) w222 ?_)))))))))))))
 refine gx_nil (gx_thenN (hK233 _ _ (gx_ret (gx_thenR ?_))))
 obtain rfl := sj hO228
 try dsimp only at hO219
 obtain rfl := sj hO219
 exact gxF (.bool false) ⟨_, rfl, rfl, (hS223.pick [] rfl rfl)⟩
 rintro _ w214 ⟨hq294, rfl, hS215⟩
 obtain ⟨u216, rfl⟩ := selfA_u hq294
 try dsimp only at hO219
 obtain ⟨c242, hE243, hO244⟩ := bind_in hO219
 refine gx_cut (fun a w => selfA (fun u241 => ⟨((u241 0) :: (u6 p1) :: undef :: undef :: (u241 4) :: (u216 5) :: dd u22 6 4 ((i6 x150) :: (u216 11) :: dd u241 12 4 ((u22 16) :: (i6 ((p0.length : Nat) : Int)) :: (.bool false) :: undef :: dd u22 20 59 ((u216 79) :: (i6 ((l25.length : Nat) : Int)) :: (.bool false) :: undef :: (u216 83) :: (u6 p1) :: (i6 (iw p1)) :: (u216 86) :: (i6 ((l25.length : Nat) : Int)) :: (i6 (Int.tmod (iw p1) ((l25.length : Nat) : Int))) :: (pI (Int.tmod (iw p1) ((l25.length : Nat) : Int)) A23) :: (i6 x150) :: (nS) :: (u216 92) :: (i6 x150) :: (i6 (iw (x150 + 1))) :: dd u216 95 7 ((i6 x150) :: (i6 (iw (x150 + 1))) :: dd u216 104 28 (dd u241 132 21 (undef :: []))))))).toArray, []⟩) a ∧ Ctl.go () = c242 ∧ St [] w0 w []) ?_ ?_
 refine gx_seq (fun K245 hK246 => gx_region (gx_k (i6 0) w214 (gx_nil (gx_thenN (hK246 _ _ (gx_block (gx_loop (fun k a w => ∃ (x250 : Int), selfA (fun u249 => ⟨((.slice A0 p0.length c0) :: (u6 p1) :: undef :: undef :: (u249 4) :: (u216 5) :: dd u22 6 4 ((i6 x150) :: (u216 11) :: (.slice A201 l200.length c202) :: (.slice A209 l208.length c210) :: (i6 x250) :: (u249 15) :: (u22 16) :: (i6 ((p0.length : Nat) : Int)) :: (.bool false) :: undef :: dd u22 20 59 ((u216 79) :: (i6 ((l25.length : Nat) : Int)) :: (.bool false) :: undef :: (u216 83) :: (u6 p1) :: (i6 (iw p1)) :: (u216 86) :: (i6 ((l25.length : Nat) : Int)) :: (i6 (Int.tmod (iw p1) ((l25.length : Nat) : Int))) :: (pI (Int.tmod (iw p1) ((l25.length : Nat) : Int)) A23) :: (i6 x150) :: (nS) :: (u216 92) :: (i6 x150) :: (i6 (iw (x150 + 1))) :: dd u216 95 7 ((i6 x150) :: (i6 (iw (x150 + 1))) :: dd u216 104 28 (dd u249 132 21 (undef :: [])))))).toArray, []⟩) a ∧ fMarks_L2 N p0 x150 l200 l208 k x250 = some c242 ∧ St [] w0 w [rowE .u8 5 A201 c202 l200, rowE .u8 5 A209 c210 l208]) N ?_ ?_)))))))
 exact ⟨0, selfA_i (by kernel_rfl), hE243, hS215⟩
 rintro k251 _ w247 ⟨x250, hq284, hL252, hS248⟩
 obtain ⟨u249, rfl⟩ := selfA_u hq284
 rcases k251 with _ | k251
 cases hL252
 first | rw [fMarks_L2] at hL252 | unfold fMarks_L2 at hL252
 refine gx_seq (fun K253 hK254 => gx_seq (fun K255 hK256 => gx_region (gx_k (i6 x250) w247 (gx_k (.slice A0 p0.length c0) w247 (gx_k (i6 ((p0.length : Nat) : Int)) w247 ?_)))))
 rcases if_in hL252 with ⟨h257, hL252⟩ | ⟨h257, hL252⟩
 refine gx_v (.bool true) w247 (rbE (decide_eq_true h257)) (gx_nil (gx_thenN (hK256 _ _ (gx_yes (by kernel_rfl) (gx_pass (gx_thenN (hK254 _ _ ?_)))))))
 refine gx_seq (fun K258 hK259 => gx_block (gx_seq (fun K260 hK261 => gx_region (gx_k (i6 x250) w247 (gx_k (i6 x250) w247 (gx_nil (gx_thenN (hK261 _ _ ?_))))))))
 obtain ⟨c266, hE267, hO268⟩ := bind_in hL252
 refine gx_cut (fun a w => ∃ (x265 : Int), selfA (fun u264 => ⟨((.slice A0 p0.length c0) :: (u6 p1) :: undef :: undef :: (u249 4) :: (u216 5) :: dd u22 6 4 ((i6 x150) :: (u216 11) :: (.slice A201 l200.length c202) :: (.slice A209 l208.length c210) :: (i6 x250) :: (i6 x265) :: (u22 16) :: (i6 ((p0.length : Nat) : Int)) :: (.bool false) :: undef :: dd u22 20 59 ((u216 79) :: (i6 ((l25.length : Nat) : Int)) :: (.bool false) :: undef :: (u216 83) :: (u6 p1) :: (i6 (iw p1)) :: (u216 86) :: (i6 ((l25.length : Nat) : Int)) :: (i6 (Int.tmod (iw p1) ((l25.length : Nat) : Int))) :: (pI (Int.tmod (iw p1) ((l25.length : Nat) : Int)) A23) :: (i6 x150) :: (nS) :: (u216 92) :: (i6 x150) :: (i6 (iw (x150 + 1))) :: dd u216 95 7 ((i6 x150) :: (i6 (iw (x150 + 1))) :: dd u216 104 28 ((i6 x250) :: (u264 133) :: (i6 ((p0.length : Nat) : Int)) :: (.bool true) :: dd u249 136 2 ((i6 x250) :: dd u264 139 5 (dd u249 144 9 (undef :: [])))))))).toArray, []⟩) a ∧ x265 = c266 ∧ St [] w0 w [rowE .u8 5 A201 c202 l200, rowE .u8 5 A209 c210 l208]) ?_ ?_
 refine gx_seq (fun K269 hK270 => gx_region (gx_k (i6 x250) w247 (gx_k (i6 x150) w247 ?_)))
 rcases if_in hE267 with ⟨h271, hE267⟩ | ⟨h271, hE267⟩
 refine gx_v (.bool true) w247 (rbE (decide_eq_true h271)) (gx_nil (gx_thenN (hK270 _ _ (gx_yes (by kernel_rfl) (gx_region (gx_k (i6 x250) w247 (gx_k (i6 (iw (x250 + 1))) w247 (gx_k (i6 (iw (x250 + 1))) w247 (gx_nil ?_)))))))))
 refine gx_thenN ?_
 exact ⟨(iw (x250 + 1)), selfA_i (by kernel_rfl), (sj hE267), hS248⟩
 refine gx_v (.bool false) w247 (rbE (decide_eq_false h271)) (gx_nil (gx_thenN (hK270 _ _ (gx_no (by kernel_rfl) (gx_pass (gx_thenN ?_))))))
 exact ⟨x250, selfA_i (by kernel_rfl), (sj hE267), hS248⟩
 rintro _ w262 ⟨x265, hq283, rfl, hS263⟩
 obtain ⟨u264, rfl⟩ := selfA_u hq283
 try dsimp only at hO268
 refine gx_seq (fun K272 hK273 => gdst (fun w => St [] w0 w [rowE .u8 5 A201 c202 l200, rowE .u8 5 A209 c210 l208]) 9 ?_)
 have hS275 := hS263.drew
 generalize w262.drew = w274 at hS275 ⊢
 refine gv1 0 144 (.slice A201 l200.length c202) rfl hS275 (gv1 1 145 (i6 x250) rfl hS275 ?_)
 obtain ⟨x276, hx277, hO268⟩ := bind_in hO268
 refine gu1 2 146 (pI x250 A201) rfl hS275 (fun w hSw => rix 5 .i64 hx277 ((hS275.row 0 rfl).1)) (gu1 3 147 (.int .u8 x276) rfl hS275 (fun w hSw => rlx (hSw.row 0 rfl).1 hx277) (gv1 4 148 (.slice A209 l208.length c210) rfl hS275 (gv1 5 149 (i6 x265) rfl hS275 ?_)))
 obtain ⟨x278, hx279, hO268⟩ := bind_in hO268
 refine gu1 6 150 (pI x265 A209) rfl hS275 (fun w hSw => rix 5 .i64 hx279 ((hS275.row 1 rfl).1)) (gu1 7 151 (.int .u8 x278) rfl hS275 (fun w hSw => rlx (hSw.row 1 rfl).1 hx279) ?_)
 rcases if_in hO268 with ⟨h280, hO268⟩ | ⟨h280, hO268⟩
 refine gu1 8 152 (.bool true) rfl hS275 (fun w hSw => rbE (ne_yes h280)) (gd_done (by kernel_rfl) (gx_thenN (hK273 _ _ (gx_yes (by kernel_rfl) (gx_seq (fun K281 hK282 => gx_region (gx_k (.bool false) w274 ?_)))))))
 refine gx_nil (gx_thenN (hK282 _ _ (gx_ret (gx_blkR (gx_thenR (gx_thenR (gx_blkR ?_)))))))
 refine gx_thenR ?_
 obtain rfl := sj hO268
 try dsimp only at hO244
 obtain rfl := sj hO244
 exact gxF (.bool false) ⟨_, rfl, rfl, (hS275.pick [] rfl rfl)⟩
 refine gu1 8 152 (.bool false) rfl hS275 (fun w hSw => rbE (ne_no h280)) (gd_done (by kernel_rfl) (gx_thenN (hK273 _ _ (gx_no (by kernel_rfl) (gx_pass (gx_blkN (gx_thenN ?_)))))))
 refine hK259 _ _ (gx_region (gx_k (i6 x250) w274 (gx_k (i6 (iw (x250 + 1))) w274 (gx_k (i6 (iw (x250 + 1))) w274 (gx_nil (gx_thenN ?_))))))
 exact ⟨k251, Nat.lt_succ_self k251, (iw (x250 + 1)), selfA_i (by kernel_rfl), hO268, hS275⟩
 refine gx_v (.bool false) w247 (rbE (decide_eq_false h257)) (gx_nil (gx_thenN (hK256 _ _ (gx_no (by kernel_rfl) (gx_exit (gx_thenE (gx_thenE ?_)))))))
 refine gx_blkE (gx_thenN ?_)
 exact ⟨selfA_i (by kernel_rfl), (sj hL252), (hS248.pick [] rfl rfl)⟩
 rintro _ w239 ⟨hq293, rfl, hS240⟩
 obtain ⟨u241, rfl⟩ := selfA_u hq293
 try dsimp only at hO244
 refine gx_seq (fun K285 hK286 => gx_region ?_)
 have hP287 : St _ _ w239 ([] ++ []) := hS240
 obtain ⟨b289, hc288, hO244⟩ := bind_in hO244
 try dsimp only at hO244
 refine gx_c _ (kWorks_ok N  _ hc288 w239 ) ?_
 rintro _ w290 ⟨rfl, hT292⟩
 have hS291 : St _ _ w290 [] := hS240.take _ hT292
 refine gx_k (.bool b289) w290 (gx_nil (gx_thenN (hK286 _ _ (gx_ret ?_))))
 obtain rfl := sj hO244
 exact gxF (.bool b289) ⟨_, rfl, rfl, hS291⟩
end Go.Proofs.YtdbimchiecdkoaaGreat
