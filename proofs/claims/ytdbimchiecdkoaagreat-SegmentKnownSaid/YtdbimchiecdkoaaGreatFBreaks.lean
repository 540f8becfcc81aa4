/-
  SegmentBreaks, walked.
-/
import Derived.Test.YtdbimchiecdkoaaGreatF0
import Derived.Test.YtdbimchiecdkoaaGreatRB
namespace Go.Proofs.YtdbimchiecdkoaaGreat
open Go Go.RowKit
set_option maxRecDepth 100000
set_option maxHeartbeats 4000000
set_option linter.unusedVariables false
def fBreaks_L2 (N : Nat) (l67 : List Int) : Nat → (List Int) → Int → Option (Ctl (Unit) (Bool))
 | 0, _, _ => none
 | k91+1, l89, x90 => (if x90 < ((l67.length : Nat) : Int) then ((ix l89 x90).bind fun _x100 => ((setx l89 x90 9).bind fun l104 => fBreaks_L2 N l67 k91 l104 (IntKind.i64.wrap (x90 + 1)))) else some (Ctl.go ()))
def fBreaks_L1 (N : Nat) (l21 : List Int) (l32 : List Int) : Nat → Int → Option (Ctl (Unit) (Bool))
 | 0, _ => none
 | k50+1, x49 => (if x49 < 2 then ((((pBreaks N l21).bind fun l67 => ((kSame N l67 l32).bind fun b79 => (match b79 with | true => fBreaks_L2 N l67 N l67 0 | false => some (Ctl.ret false)))) : Option (Ctl (Unit) (Bool))).bind fun | Ctl.go () => fBreaks_L1 N l21 l32 k50 (IntKind.i64.wrap (x49 + 1)) | Ctl.ret r => some (Ctl.ret r)) else some (Ctl.go ()))
def fBreaks_L3 (N : Nat) (p0 : List Int) (l21 : List Int) : Nat → Int → Option (Ctl (Unit) (Bool))
 | 0, _ => none
 | k123+1, x122 => (if x122 < ((p0.length : Nat) : Int) then ((ix l21 x122).bind fun x136 => ((ix p0 x122).bind fun x138 => (if x136 ≠ x138 then some (Ctl.ret false) else fBreaks_L3 N p0 l21 k123 (IntKind.i64.wrap (x122 + 1))))) else some (Ctl.go ()))
def fBreaks (N : Nat) (p0 : List Int) : Option (Bool) :=
 (if ((p0.length : Nat) : Int) > 400 then ((kWorks N ).bind fun b12 => some b12) else ((apx ([]) p0).bind fun l21 => ((rBreaks N p0).bind fun l32 => ((fBreaks_L1 N l21 l32 N 0 : Option (Ctl (Unit) (Bool))).bind fun | Ctl.go () => ((fBreaks_L3 N p0 l21 N 0 : Option (Ctl (Unit) (Bool))).bind fun | Ctl.go () => ((kWorks N ).bind fun b148 => some b148) | Ctl.ret r => some r) | Ctl.ret r => some r))))
def fBreaks_R (r : Bool) (w0 : World) (v : Value) (w : World) : Prop := v = .bool r ∧ St [] w0 w []
theorem fBreaks_ok (N : Nat) (p0 : List Int) (A0 : Option Addr) (c0 : Nat) (r : Bool) (hF : fBreaks N p0 = some r) (w0 : World) (hv0 : Vw [] .i32 w0 A0 c0 p0) :
  Calls Tryz.prog 5 #[.slice A0 p0.length c0] w0 fun e w => ∃ v, e = .returned v ∧ fBreaks_R r w0 v w := by
 have hS0 := St.start w0
 unfold fBreaks at hF
 refine calls_of Tryz.func5 rfl ⟨((.slice A0 p0.length c0) :: un 52 ([])).toArray, []⟩ (by kernel_rfl) (gx_seq (fun K1 hK2 => gx_region (gx_k (.bool false) w0 (gx_nil (gx_thenN (hK2 _ _ (gx_seq (fun K3 hK4 => ?_))))))))
 refine gx_seq (fun K5 hK6 => gx_region (gx_k (.slice A0 p0.length c0) w0 (gx_k (i6 ((p0.length : Nat) : Int)) w0 ?_)))
 rcases if_in hF with ⟨h7, hF⟩ | ⟨h7, hF⟩
 refine gx_v (.bool true) w0 (rbE (decide_eq_true h7)) (gx_nil (gx_thenN (hK6 _ _ (gx_yes (by kernel_rfl) (gx_seq (fun K8 hK9 => gx_region ?_))))))
 have hP10 : St _ _ w0 ([] ++ []) := hS0
 obtain ⟨b12, hc11, hF⟩ := bind_in hF
 try dsimp only at hF
 refine gx_c _ (kWorks_ok N  _ hc11 w0 ) ?_
 rintro _ w13 ⟨rfl, hT15⟩
 have hS14 : St _ _ w13 [] := hS0.take _ hT15
 refine gx_k (.bool b12) w13 (gx_nil (gx_thenN (hK9 _ _ (gx_ret (gx_thenR ?_)))))
 obtain rfl := sj hF
 exact gxF (.bool b12) ⟨_, rfl, rfl, hS14⟩
 refine gx_v (.bool false) w0 (rbE (decide_eq_false h7)) (gx_nil (gx_thenN (hK6 _ _ (gx_no (by kernel_rfl) (gx_pass (gx_thenN (hK4 _ _ ?_)))))))
 refine gx_seq (fun K16 hK17 => gx_region (gx_k (nS) w0 (gx_nil (gx_thenN (hK17 _ _ (gx_seq (fun K18 hK19 => gx_region ?_)))))))
 refine gx_k (nS) w0 (gx_k (.slice A0 p0.length c0) w0 ?_)
 have hS20 : St _ _ w0 [rowE .i32 21 none 0 ([])] := hS0.nilrow .i32 21
 obtain ⟨l21, ha22, hF⟩ := bind_in hF
 obtain ⟨ha22, hq23⟩ := apx_in ha22
 refine gx_r (st_append rfl (by kernel_rfl) (by kernel_rfl) hS20 0 rfl (hS20.view hv0) hv0.nn ha22 (by kernel_rfl) (by kernel_rfl)) ?_
 rintro _ w26 ⟨A24, c25, rfl, hS27⟩
 rw [← hq23] at hS27 ⊢
 have hS27 : St _ _ w26 [rowE .i32 21 A24 c25 l21] := hS27
 refine gx_k (.slice A24 l21.length c25) w26 (gx_nil (gx_thenN (hK19 _ _ (gx_seq (fun K28 hK29 => gx_region (gx_k (.slice A0 p0.length c0) w26 ?_))))))
 have hP30 : St _ _ w26 ([] ++ [rowE .i32 21 A24 c25 l21]) := hS27
 obtain ⟨l32, hc31, hF⟩ := bind_in hF
 try dsimp only at hF
 refine gx_c _ (rBreaks_ok N p0 A0 c0 _ hc31 w26 (hP30.vwA hv0)) ?_
 rintro _ w35 ⟨A33, c34, rfl, hT37⟩
 have hS36 : St _ _ w35 [rowE .i32 21 A24 c25 l21, rowE .u8 5 A33 c34 l32] := hS27.take _ hT37
 refine gx_k (.slice A33 l32.length c34) w35 (gx_nil (gx_thenN (hK29 _ _ ?_)))
 obtain ⟨c41, hE42, hO43⟩ := bind_in hF
 refine gx_cut (fun a w => selfA (fun u40 => ⟨((.slice A0 p0.length c0) :: undef :: (u40 2) :: (.slice A24 l21.length c25) :: dd u40 4 4 (undef :: (u40 9) :: (i6 ((p0.length : Nat) : Int)) :: (.bool false) :: undef :: (nS) :: dd u40 14 23 (un 16 ([])))).toArray, []⟩) a ∧ Ctl.go () = c41 ∧ St [] w0 w [rowE .i32 21 A24 c25 l21]) ?_ ?_
 refine gx_seq (fun K44 hK45 => gx_region (gx_k (i6 0) w35 (gx_nil (gx_thenN (hK45 _ _ (gx_block (gx_loop (fun k a w => ∃ (x49 : Int), selfA (fun u48 => ⟨((.slice A0 p0.length c0) :: undef :: (u48 2) :: (.slice A24 l21.length c25) :: (.slice A33 l32.length c34) :: (i6 x49) :: dd u48 6 2 (undef :: (u48 9) :: (i6 ((p0.length : Nat) : Int)) :: (.bool false) :: undef :: (nS) :: dd u48 14 23 (un 16 ([])))).toArray, []⟩) a ∧ fBreaks_L1 N l21 l32 k x49 = some c41 ∧ St [] w0 w [rowE .i32 21 A24 c25 l21, rowE .u8 5 A33 c34 l32]) N ?_ ?_)))))))
 exact ⟨0, selfA_i (by kernel_rfl), hE42, hS36⟩
 rintro k50 _ w46 ⟨x49, hq110, hL51, hS47⟩
 obtain ⟨u48, rfl⟩ := selfA_u hq110
 rcases k50 with _ | k50
 cases hL51
 first | rw [fBreaks_L1] at hL51 | unfold fBreaks_L1 at hL51
 refine gx_seq (fun K52 hK53 => gx_seq (fun K54 hK55 => gx_region (gx_k (i6 x49) w46 ?_)))
 rcases if_in hL51 with ⟨h56, hL51⟩ | ⟨h56, hL51⟩
 refine gx_v (.bool true) w46 (rbE (decide_eq_true h56)) (gx_nil (gx_thenN (hK55 _ _ (gx_yes (by kernel_rfl) (gx_pass (gx_thenN (hK53 _ _ ?_)))))))
 obtain ⟨c60, hE61, hO62⟩ := bind_in hL51
 refine gx_cut (fun a w => selfA (fun u59 => ⟨((.slice A0 p0.length c0) :: undef :: (u59 2) :: (.slice A24 l21.length c25) :: (.slice A33 l32.length c34) :: (i6 x49) :: dd u59 6 2 (undef :: (u48 9) :: (i6 ((p0.length : Nat) : Int)) :: (.bool false) :: undef :: (nS) :: dd u48 14 4 ((i6 x49) :: (.bool true) :: dd u48 20 2 (dd u59 22 15 (un 16 ([])))))).toArray, []⟩) a ∧ Ctl.go () = c60 ∧ St [] w0 w [rowE .i32 21 A24 c25 l21, rowE .u8 5 A33 c34 l32]) ?_ ?_
 refine gx_block (gx_seq (fun K63 hK64 => gx_region (gx_k (.slice A24 l21.length c25) w46 ?_)))
 have hP65 : St _ _ w46 ([] ++ [rowE .i32 21 A24 c25 l21, rowE .u8 5 A33 c34 l32]) := hS47
 obtain ⟨l67, hc66, hE61⟩ := bind_in hE61
 try dsimp only at hE61
 refine gx_c _ (pBreaks_ok N l21 A24 c25 _ hc66 w46 (hP65.vwB 0 rfl)) ?_
 rintro _ w70 ⟨A68, c69, rfl, hT72⟩
 have hS71 : St _ _ w70 [rowE .i32 21 A24 c25 l21, rowE .u8 5 A33 c34 l32, rowE .u8 5 A68 c69 l67] := hS47.take _ hT72
 refine gx_k (.slice A68 l67.length c69) w70 (gx_nil (gx_thenN (hK64 _ _ (gx_seq (fun K73 hK74 => gx_seq (fun K75 hK76 => gx_region (gx_k (.slice A68 l67.length c69) w70 (gx_k (.slice A33 l32.length c34) w70 ?_))))))))
 have hP77 : St _ _ w70 ([] ++ [rowE .i32 21 A24 c25 l21, rowE .u8 5 A33 c34 l32, rowE .u8 5 A68 c69 l67]) := hS71
 obtain ⟨b79, hc78, hE61⟩ := bind_in hE61
 try dsimp only at hE61
 refine gx_c _ (kSame_ok N l67 l32 A68 c69 A33 c34 _ hc78 w70 (hP77.vwB 2 rfl) (hP77.vwB 1 rfl)) ?_
 rintro _ w80 ⟨rfl, hT82⟩
 have hS81 : St _ _ w80 [rowE .i32 21 A24 c25 l21, rowE .u8 5 A33 c34 l32, rowE .u8 5 A68 c69 l67] := hS71.take _ hT82
 rcases b79 with _ | _
 try dsimp only at hE61
 refine gx_k (.bool true) w80 (gx_nil (gx_thenN (hK76 _ _ (gx_yes (by kernel_rfl) (gx_seq (fun K107 hK108 => gx_region (gx_k (.bool false) w80 ?_)))))))
 refine gx_nil (gx_thenN (hK108 _ _ (gx_ret (gx_thenR (gx_blkR (gx_thenR ?_))))))
 obtain rfl := sj hE61
 try dsimp only at hO62
 refine gx_thenR (gx_blkR (gx_thenR ?_))
 obtain rfl := sj hO62
 try dsimp only at hO43
 obtain rfl := sj hO43
 exact gxF (.bool false) ⟨_, rfl, rfl, (hS81.pick [] rfl rfl)⟩
 try dsimp only at hE61
 refine gx_k (.bool false) w80 (gx_nil (gx_thenN (hK76 _ _ (gx_no (by kernel_rfl) (gx_pass (gx_thenN (hK74 _ _ ?_)))))))
 refine gx_seq (fun K83 hK84 => gx_region (gx_k (i6 0) w80 (gx_nil (gx_thenN (hK84 _ _ (gx_block (gx_loop (fun k a w => ∃ (l89 : List Int) (x90 : Int), selfA (fun u87 => ⟨((.slice A0 p0.length c0) :: undef :: (u48 2) :: (.slice A24 l21.length c25) :: (.slice A33 l32.length c34) :: (i6 x49) :: (.slice A68 l67.length c69) :: (i6 x90) :: undef :: (u48 9) :: (i6 ((p0.length : Nat) : Int)) :: (.bool false) :: undef :: (nS) :: dd u48 14 4 ((i6 x49) :: (.bool true) :: dd u48 20 2 (dd u87 22 4 ((.bool true) :: (.bool false) :: dd u87 28 9 (un 16 ([])))))).toArray, []⟩) a ∧ fBreaks_L2 N l67 k l89 x90 = some c60 ∧ St [] w0 w [rowE .i32 21 A24 c25 l21, rowE .u8 5 A33 c34 l32, rowE .u8 5 A68 c69 l89] ∧ l67.length = l89.length) N ?_ ?_)))))))
 exact ⟨l67, 0, selfA_i (by kernel_rfl), hE61, hS81, rfl⟩
 rintro k91 _ w85 ⟨l89, x90, hq106, hL92, hS86, hn88⟩
 obtain ⟨u87, rfl⟩ := selfA_u hq106
 rcases k91 with _ | k91
 cases hL92
 first | rw [fBreaks_L2] at hL92 | unfold fBreaks_L2 at hL92
 refine gx_seq (fun K93 hK94 => gx_seq (fun K95 hK96 => gx_region (gx_k (i6 x90) w85 (gx_k (.slice A68 l67.length c69) w85 (gx_k (i6 ((l67.length : Nat) : Int)) w85 ?_)))))
 rcases if_in hL92 with ⟨h97, hL92⟩ | ⟨h97, hL92⟩
 refine gx_v (.bool true) w85 (rbE (decide_eq_true h97)) (gx_nil (gx_thenN (hK96 _ _ (gx_yes (by kernel_rfl) (gx_pass (gx_thenN (hK94 _ _ ?_)))))))
 refine gx_seq (fun K98 hK99 => gx_block (gx_region (gx_k (.slice A68 l67.length c69) w85 (gx_k (i6 x90) w85 ?_))))
 obtain ⟨x100, hx101, hL92⟩ := bind_in hL92
 refine gx_v (pI x90 A68) w85 (riy 5 .i64 hx101 hn88 (((hS86.row 2 rfl).1))) ?_
 obtain ⟨l104, hx105, hL92⟩ := bind_in hL92
 refine gx_s (st_storeix rfl (by kernel_rfl) (by kernel_rfl) (fun _ => by kernel_rfl) hS86 2 rfl hx105) ?_
 rintro w102 hS103
 have hS103 : St _ _ w102 [rowE .i32 21 A24 c25 l21, rowE .u8 5 A33 c34 l32, rowE .u8 5 A68 c69 l104] := hS103
 refine gx_nil (gx_blkN (gx_thenN (hK99 _ _ (gx_region (gx_k (i6 x90) w102 (gx_k (i6 (iw (x90 + 1))) w102 (gx_k (i6 (iw (x90 + 1))) w102 (gx_nil (gx_thenN ?_)))))))))
 exact ⟨k91, Nat.lt_succ_self k91, l104, (iw (x90 + 1)), selfA_i (by kernel_rfl), hL92, hS103, (hn88.trans (setx_len hx105).symm)⟩
 refine gx_v (.bool false) w85 (rbE (decide_eq_false h97)) (gx_nil (gx_thenN (hK96 _ _ (gx_no (by kernel_rfl) (gx_exit (gx_thenE (gx_thenE ?_)))))))
 refine gx_blkE (gx_blkN (gx_thenN ?_))
 exact ⟨selfA_i (by kernel_rfl), (sj hL92), (hS86.pick [0, 1] rfl rfl)⟩
 rintro _ w57 ⟨hq109, rfl, hS58⟩
 obtain ⟨u59, rfl⟩ := selfA_u hq109
 try dsimp only at hO62
 refine gx_region (gx_k (i6 x49) w57 (gx_k (i6 (iw (x49 + 1))) w57 (gx_k (i6 (iw (x49 + 1))) w57 (gx_nil (gx_thenN ?_)))))
 exact ⟨k50, Nat.lt_succ_self k50, (iw (x49 + 1)), selfA_i (by kernel_rfl), hO62, hS58⟩
 refine gx_v (.bool false) w46 (rbE (decide_eq_false h56)) (gx_nil (gx_thenN (hK55 _ _ (gx_no (by kernel_rfl) (gx_exit (gx_thenE (gx_thenE ?_)))))))
 refine gx_blkE (gx_thenN ?_)
 exact ⟨selfA_i (by kernel_rfl), (sj hL51), (hS47.pick [0] rfl rfl)⟩
 rintro _ w38 ⟨hq153, rfl, hS39⟩
 obtain ⟨u40, rfl⟩ := selfA_u hq153
 try dsimp only at hO43
 obtain ⟨c114, hE115, hO116⟩ := bind_in hO43
 refine gx_cut (fun a w => selfA (fun u113 => ⟨((u113 0) :: undef :: dd u113 2 2 (dd u40 4 4 ((u113 8) :: (u40 9) :: (i6 ((p0.length : Nat) : Int)) :: (.bool false) :: undef :: (nS) :: dd u40 14 23 (dd u113 37 15 (undef :: []))))).toArray, []⟩) a ∧ Ctl.go () = c114 ∧ St [] w0 w []) ?_ ?_
 refine gx_seq (fun K117 hK118 => gx_region (gx_k (i6 0) w38 (gx_nil (gx_thenN (hK118 _ _ (gx_block (gx_loop (fun k a w => ∃ (x122 : Int), selfA (fun u121 => ⟨((.slice A0 p0.length c0) :: undef :: (u121 2) :: (.slice A24 l21.length c25) :: dd u40 4 4 ((i6 x122) :: (u40 9) :: (i6 ((p0.length : Nat) : Int)) :: (.bool false) :: undef :: (nS) :: dd u40 14 23 (dd u121 37 15 (undef :: [])))).toArray, []⟩) a ∧ fBreaks_L3 N p0 l21 k x122 = some c114 ∧ St [] w0 w [rowE .i32 21 A24 c25 l21]) N ?_ ?_)))))))
 exact ⟨0, selfA_i (by kernel_rfl), hE115, hS39⟩
 rintro k123 _ w119 ⟨x122, hq143, hL124, hS120⟩
 obtain ⟨u121, rfl⟩ := selfA_u hq143
 rcases k123 with _ | k123
 cases hL124
 first | rw [fBreaks_L3] at hL124 | unfold fBreaks_L3 at hL124
 refine gx_seq (fun K125 hK126 => gx_seq (fun K127 hK128 => gx_region (gx_k (i6 x122) w119 (gx_k (.slice A0 p0.length c0) w119 (gx_k (i6 ((p0.length : Nat) : Int)) w119 ?_)))))
 rcases if_in hL124 with ⟨h129, hL124⟩ | ⟨h129, hL124⟩
 refine gx_v (.bool true) w119 (rbE (decide_eq_true h129)) (gx_nil (gx_thenN (hK128 _ _ (gx_yes (by kernel_rfl) (gx_pass (gx_thenN (hK126 _ _ ?_)))))))
 refine gx_seq (fun K130 hK131 => gx_block (gx_seq (fun K132 hK133 => gdst (fun w => St [] w0 w [rowE .i32 21 A24 c25 l21]) 9 ?_)))
 have hS135 := hS120.drew
 generalize w119.drew = w134 at hS135 ⊢
 refine gv1 0 43 (.slice A24 l21.length c25) rfl hS135 (gv1 1 44 (i6 x122) rfl hS135 ?_)
 obtain ⟨x136, hx137, hL124⟩ := bind_in hL124
 refine gu1 2 45 (pI x122 A24) rfl hS135 (fun w hSw => rix 21 .i64 hx137 ((hS135.row 0 rfl).1)) (gu1 3 46 (.int .i32 x136) rfl hS135 (fun w hSw => rlx (hSw.row 0 rfl).1 hx137) (gv1 4 47 (.slice A0 p0.length c0) rfl hS135 (gv1 5 48 (i6 x122) rfl hS135 ?_)))
 obtain ⟨x138, hx139, hL124⟩ := bind_in hL124
 refine gu1 6 49 (pI x122 A0) rfl hS135 (fun w hSw => rix 21 .i64 hx139 ((hS135.view hv0))) (gu1 7 50 (.int .i32 x138) rfl hS135 (fun w hSw => rlx (hSw.view hv0) hx139) ?_)
 rcases if_in hL124 with ⟨h140, hL124⟩ | ⟨h140, hL124⟩
 refine gu1 8 51 (.bool true) rfl hS135 (fun w hSw => rbE (ne_yes h140)) (gd_done (by kernel_rfl) (gx_thenN (hK133 _ _ (gx_yes (by kernel_rfl) (gx_seq (fun K141 hK142 => gx_region (gx_k (.bool false) w134 ?_)))))))
 refine gx_nil (gx_thenN (hK142 _ _ (gx_ret (gx_blkR (gx_thenR (gx_thenR (gx_blkR ?_)))))))
 refine gx_thenR ?_
 obtain rfl := sj hL124
 try dsimp only at hO116
 obtain rfl := sj hO116
 exact gxF (.bool false) ⟨_, rfl, rfl, (hS135.pick [] rfl rfl)⟩
 refine gu1 8 51 (.bool false) rfl hS135 (fun w hSw => rbE (ne_no h140)) (gd_done (by kernel_rfl) (gx_thenN (hK133 _ _ (gx_no (by kernel_rfl) (gx_pass (gx_blkN (gx_thenN ?_)))))))
 refine hK131 _ _ (gx_region (gx_k (i6 x122) w134 (gx_k (i6 (iw (x122 + 1))) w134 (gx_k (i6 (iw (x122 + 1))) w134 (gx_nil (gx_thenN ?_))))))
 exact ⟨k123, Nat.lt_succ_self k123, (iw (x122 + 1)), selfA_i (by kernel_rfl), hL124, hS135⟩
 refine gx_v (.bool false) w119 (rbE (decide_eq_false h129)) (gx_nil (gx_thenN (hK128 _ _ (gx_no (by kernel_rfl) (gx_exit (gx_thenE (gx_thenE ?_)))))))
 refine gx_blkE (gx_thenN ?_)
 exact ⟨selfA_i (by kernel_rfl), (sj hL124), (hS120.pick [] rfl rfl)⟩
 rintro _ w111 ⟨hq152, rfl, hS112⟩
 obtain ⟨u113, rfl⟩ := selfA_u hq152
 try dsimp only at hO116
 refine gx_seq (fun K144 hK145 => gx_region ?_)
 have hP146 : St _ _ w111 ([] ++ []) := hS112
 obtain ⟨b148, hc147, hO116⟩ := bind_in hO116
 try dsimp only at hO116
 refine gx_c _ (kWorks_ok N  _ hc147 w111 ) ?_
 rintro _ w149 ⟨rfl, hT151⟩
 have hS150 : St _ _ w149 [] := hS112.take _ hT151
 refine gx_k (.bool b148) w149 (gx_nil (gx_thenN (hK145 _ _ (gx_ret ?_))))
 obtain rfl := sj hO116
 exact gxF (.bool b148) ⟨_, rfl, rfl, hS150⟩
end Go.Proofs.YtdbimchiecdkoaaGreat
