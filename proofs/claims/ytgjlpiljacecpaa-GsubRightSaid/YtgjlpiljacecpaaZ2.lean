/-
  slices.Sort, walked.
-/
import Derived.Test.YtgjlpiljacecpaaZ1
namespace Go.Proofs.Ytgjlpiljacecpaa
open Go Go.RowKit
set_option linter.unusedVariables false
set_option maxRecDepth 100000
set_option maxHeartbeats 4000000
def zPart_L2 (N : Nat) (p2 : Int) (l19 : List Int) : Nat → Int → Option (Int)
 | 0, _ => none
 | k49+1, x48 => (if x48 < p2 then ((ix l19 x48).bind fun x58 => ((ix l19 (IntKind.i64.wrap (x48 - 1))).bind fun x60 => ((zLess N x58 x60).bind fun b64 => (match b64 with | true => some (x48) | false => zPart_L2 N p2 l19 k49 (IntKind.i64.wrap (x48 + 1)))))) else some (x48))
def zPart_L3 (N : Nat) : Nat → (List Int) → Int → Option (List Int)
 | 0, _, _ => none
 | k109+1, l107, x108 => (if x108 ≥ 1 then ((ix l107 x108).bind fun x124 => ((ix l107 (IntKind.i64.wrap (x108 - 1))).bind fun x126 => ((zLess N x124 x126).bind fun b130 => (match b130 with | true => ((ix l107 (IntKind.i64.wrap (x108 - 1))).bind fun xz17_133o8_1 => ((ix l107 x108).bind fun xz17_133o12_1 => ((ix l107 x108).bind fun _xz17_133o14_1 => ((setx l107 x108 xz17_133o8_1).bind fun lz17_133o15_3 => ((ix lz17_133o15_3 (IntKind.i64.wrap (x108 - 1))).bind fun _xz17_133o16_1 => ((setx lz17_133o15_3 (IntKind.i64.wrap (x108 - 1)) xz17_133o12_1).bind fun lz17_133o17_3 => zPart_L3 N k109 lz17_133o17_3 (IntKind.i64.wrap (x108 - 1)))))))) | false => some (l107))))) else some (l107))
def zPart_L4 (N : Nat) (p2 : Int) (x41 : Int) : Nat → (List Int) → Int → Option (Ctl (List Int × Int) (Bool × List Int))
 | 0, _, _ => none
 | k152+1, l150, x151 => (if x151 < p2 then ((ix l150 x151).bind fun x167 => ((ix l150 (IntKind.i64.wrap (x151 - 1))).bind fun x169 => ((zLess N x167 x169).bind fun b173 => (match b173 with | true => ((ix l150 (IntKind.i64.wrap (x151 - 1))).bind fun xz23_176o8_1 => ((ix l150 x151).bind fun xz23_176o12_1 => ((ix l150 x151).bind fun _xz23_176o14_1 => ((setx l150 x151 xz23_176o8_1).bind fun lz23_176o15_3 => ((ix lz23_176o15_3 (IntKind.i64.wrap (x151 - 1))).bind fun _xz23_176o16_1 => ((setx lz23_176o15_3 (IntKind.i64.wrap (x151 - 1)) xz23_176o12_1).bind fun lz23_176o17_3 => zPart_L4 N p2 x41 k152 lz23_176o17_3 (IntKind.i64.wrap (x151 + 1)))))))) | false => some (Ctl.go (l150, x41)))))) else some (Ctl.go (l150, x41)))
def zPart_L1 (N : Nat) (p1 : Int) (p2 : Int) : Nat → (List Int) → Int → Int → Option (Ctl (List Int) (Bool × List Int))
 | 0, _, _, _ => none
 | k22+1, l19, x20, x21 => (if x21 < 5 then ((((zPart_L2 N p2 l19 N x20 : Option (Int)).bind fun x41 => (if x41 = p2 then some (Ctl.ret (true, l19)) else (if (IntKind.i64.wrap (p2 - p1)) < 50 then some (Ctl.ret (false, l19)) else ((ix l19 (IntKind.i64.wrap (x41 - 1))).bind fun xz11_84o8_1 => ((ix l19 x41).bind fun xz11_84o12_1 => ((ix l19 x41).bind fun _xz11_84o14_1 => ((setx l19 x41 xz11_84o8_1).bind fun lz11_84o15_3 => ((ix lz11_84o15_3 (IntKind.i64.wrap (x41 - 1))).bind fun _xz11_84o16_1 => ((setx lz11_84o15_3 (IntKind.i64.wrap (x41 - 1)) xz11_84o12_1).bind fun lz11_84o17_3 => (((if (IntKind.i64.wrap (x41 - p1)) ≥ 2 then zPart_L3 N N lz11_84o17_3 (IntKind.i64.wrap (x41 - 1)) else some (lz11_84o17_3)) : Option (List Int)).bind fun l94 => (if (IntKind.i64.wrap (p2 - x41)) ≥ 2 then zPart_L4 N p2 x41 N l94 (IntKind.i64.wrap (x41 + 1)) else some (Ctl.go (l94, x41))))))))))))) : Option (Ctl (List Int × Int) (Bool × List Int))).bind fun | Ctl.go (l33, x34) => zPart_L1 N p1 p2 k22 l33 x34 (IntKind.i64.wrap (x21 + 1)) | Ctl.ret r => some (Ctl.ret r)) else some (Ctl.go l19))
def zPart (N : Nat) (p0 : List Int) (p1 : Int) (p2 : Int) : Option (Bool × List Int) :=
 ((zPart_L1 N p1 p2 N p0 (IntKind.i64.wrap (p1 + 1)) 0 : Option (Ctl (List Int) (Bool × List Int))).bind fun | Ctl.go l9 => some (false, l9) | Ctl.ret r => some r)
def zPart_R (p0 : List Int) (p1 : Int) (p2 : Int) (A0 : Option Addr) (c0 : Nat) (r : Bool × List Int) (w0 : World) (v : Value) (w : World) : Prop := v = .bool r.1 ∧ St (foots [rowE .u16 31 A0 c0 p0]) w0 w [rowE .u16 31 A0 c0 r.2] ∧ r.2.length = p0.length
theorem zPart_ok (N : Nat) (p0 : List Int) (p1 : Int) (p2 : Int) (A0 : Option Addr) (c0 : Nat) (r : Bool × List Int) (hF : zPart N p0 p1 p2 = some r) (w0 : World) (hl : St (foots [rowE .u16 31 A0 c0 p0]) w0 w0 [rowE .u16 31 A0 c0 p0]) :
  Calls Try.prog 126 #[.slice A0 p0.length c0, .int .i64 p1, .int .i64 p2] w0 fun e w => ∃ v, e = .returned v ∧ zPart_R p0 p1 p2 A0 c0 r w0 v w := by
 have hS0 := hl
 unfold zPart at hF
 refine calls_of Try.func126 rfl ⟨((.slice A0 p0.length c0) :: (i6 p1) :: (i6 p2) :: un 130 ([])).toArray, []⟩ (by kernel_rfl) (gx_seq (fun K1 hK2 => gx_region (gx_k (.bool false) w0 (gx_nil (gx_thenN (hK2 _ _ (gx_seq (fun K3 hK4 => ?_))))))))
 refine gx_region (gx_k (i6 p1) w0 (gx_k (i6 (iw (p1 + 1))) w0 (gx_k (i6 (iw (p1 + 1))) w0 (gx_nil (gx_thenN (hK4 _ _ ?_))))))
 obtain ⟨c10, hE11, hO12⟩ := bind_in hF
 refine gx_cut (fun a w => ∃ (l9 : List Int), selfA (fun u7 => ⟨((.slice A0 p0.length c0) :: (i6 p1) :: (i6 p2) :: un 3 (dd u7 6 5 ((i6 p1) :: (i6 (iw (p1 + 1))) :: dd u7 13 120 ([])))).toArray, []⟩) a ∧ Ctl.go l9 = c10 ∧ St (foots [rowE .u16 31 A0 c0 p0]) w0 w [rowE .u16 31 A0 c0 l9] ∧ p0.length = l9.length) ?_ ?_
 refine gx_seq (fun K13 hK14 => gx_region (gx_k (i6 0) w0 (gx_nil (gx_thenN (hK14 _ _ (gx_block (gx_loop (fun k a w => ∃ (l19 : List Int) (x20 : Int) (x21 : Int), selfA (fun u17 => ⟨((.slice A0 p0.length c0) :: (i6 p1) :: (i6 p2) :: un 3 ((u17 6) :: (i6 x20) :: (i6 x21) :: dd u17 9 2 ((i6 p1) :: (i6 (iw (p1 + 1))) :: dd u17 13 120 ([])))).toArray, []⟩) a ∧ zPart_L1 N p1 p2 k l19 x20 x21 = some c10 ∧ St (foots [rowE .u16 31 A0 c0 p0]) w0 w [rowE .u16 31 A0 c0 l19] ∧ p0.length = l19.length) N ?_ ?_)))))))
 exact ⟨p0, (iw (p1 + 1)), 0, selfA_i (by kernel_rfl), hE11, hS0, rfl⟩
 rintro k22 _ w15 ⟨l19, x20, x21, hq188, hL23, hS16, hn18⟩
 obtain ⟨u17, rfl⟩ := selfA_u hq188
 rcases k22 with _ | k22
 cases hL23
 first | rw [zPart_L1] at hL23 | unfold zPart_L1 at hL23
 refine gx_seq (fun K24 hK25 => gx_seq (fun K26 hK27 => gx_region (gx_k (i6 x21) w15 ?_)))
 rcases if_in hL23 with ⟨h28, hL23⟩ | ⟨h28, hL23⟩
 refine gx_v (.bool true) w15 (rbE (decide_eq_true h28)) (gx_nil (gx_thenN (hK27 _ _ (gx_yes (by kernel_rfl) (gx_pass (gx_thenN (hK25 _ _ ?_)))))))
 obtain ⟨c35, hE36, hO37⟩ := bind_in hL23
 refine gx_cut (fun a w => ∃ (l33 : List Int) (x34 : Int), selfA (fun u31 => ⟨((.slice A0 p0.length c0) :: (i6 p1) :: (i6 p2) :: un 3 ((u31 6) :: (i6 x34) :: (i6 x21) :: dd u31 9 2 ((i6 p1) :: (i6 (iw (p1 + 1))) :: (i6 x21) :: (.bool true) :: dd u17 15 2 (dd u31 17 116 ([]))))).toArray, []⟩) a ∧ Ctl.go (l33, x34) = c35 ∧ St (foots [rowE .u16 31 A0 c0 p0]) w0 w [rowE .u16 31 A0 c0 l33] ∧ p0.length = l33.length) ?_ ?_
 refine gx_block ?_
 obtain ⟨c42, hE43, hO44⟩ := bind_in hE36
 refine gx_cut (fun a w => ∃ (x41 : Int), selfA (fun u40 => ⟨((.slice A0 p0.length c0) :: (i6 p1) :: (i6 p2) :: un 3 ((u17 6) :: (i6 x41) :: (i6 x21) :: dd u17 9 2 ((i6 p1) :: (i6 (iw (p1 + 1))) :: (i6 x21) :: (.bool true) :: dd u17 15 2 (dd u40 17 18 (dd u17 35 98 ([])))))).toArray, []⟩) a ∧ x41 = c42 ∧ St (foots [rowE .u16 31 A0 c0 p0]) w0 w [rowE .u16 31 A0 c0 l19]) ?_ ?_
 refine gx_block (gx_loop (fun k a w => ∃ (x48 : Int), selfA (fun u47 => ⟨((.slice A0 p0.length c0) :: (i6 p1) :: (i6 p2) :: un 3 ((u17 6) :: (i6 x48) :: (i6 x21) :: dd u17 9 2 ((i6 p1) :: (i6 (iw (p1 + 1))) :: (i6 x21) :: (.bool true) :: dd u17 15 2 (dd u47 17 18 (dd u17 35 98 ([])))))).toArray, []⟩) a ∧ zPart_L2 N p2 l19 k x48 = some c42 ∧ St (foots [rowE .u16 31 A0 c0 p0]) w0 w [rowE .u16 31 A0 c0 l19]) N ?_ ?_)
 exact ⟨x20, selfA_i (by kernel_rfl), hE43, hS16⟩
 rintro k49 _ w45 ⟨x48, hq68, hL50, hS46⟩
 obtain ⟨u47, rfl⟩ := selfA_u hq68
 rcases k49 with _ | k49
 cases hL50
 first | rw [zPart_L2] at hL50 | unfold zPart_L2 at hL50
 refine gx_seq (fun K51 hK52 => gx_seq (fun K53 hK54 => gdst (fun w => St (foots [rowE .u16 31 A0 c0 p0]) w0 w [rowE .u16 31 A0 c0 l19]) 16 ?_))
 have hS56 := hS46.drew
 generalize w45.drew = w55 at hS56 ⊢
 refine gv1 0 17 (i6 x48) rfl hS56 (gv1 1 18 (i6 p2) rfl hS56 ?_)
 rcases if_in hL50 with ⟨h57, hL50⟩ | ⟨h57, hL50⟩
 refine gu1 2 19 (.bool true) rfl hS56 (rbT h57) (gv1 3 20 (.bool true) rfl hS56 (gv1 4 21 (.slice A0 p0.length c0) rfl hS56 (gv1 5 22 (i6 x48) rfl hS56 ?_)))
 obtain ⟨x58, hx59, hL50⟩ := bind_in hL50
 refine gu1 6 23 (pI x48 A0) rfl hS56 (fun w hSw => riy 31 .i64 hx59 hn18 (((hS56.row 0 rfl).1))) (gu1 7 24 (u6 x58) rfl hS56 (fun w hSw => rlx (hSw.row 0 rfl).1 hx59) (gv1 8 25 (.slice A0 p0.length c0) rfl hS56 (gv1 9 26 (i6 x48) rfl hS56 (gv1 10 27 (i6 (iw (x48 - 1))) rfl hS56 ?_))))
 obtain ⟨x60, hx61, hL50⟩ := bind_in hL50
 refine gu1 11 28 (pI (iw (x48 - 1)) A0) rfl hS56 (fun w hSw => riy 31 .i64 hx61 hn18 (((hS56.row 0 rfl).1))) (gu1 12 29 (u6 x60) rfl hS56 (fun w hSw => rlx (hSw.row 0 rfl).1 hx61) ?_)
 have hP62 : St _ _ w55 ([] ++ [rowE .u16 31 A0 c0 l19]) := hS56
 obtain ⟨b64, hc63, hL50⟩ := bind_in hL50
 try dsimp only at hL50
 refine gdC 13 ⟨some 30, _, _, _, _, _⟩ _ rfl (by kernel_rfl) (zLess_ok N x58 x60 _ hc63 w55 ) ?_
 rintro _ w65 ⟨rfl, hT67⟩
 have hS66 : St _ _ w65 [rowE .u16 31 A0 c0 l19] := hS56.take _ hT67
 refine ⟨hS66, ?_⟩
 rcases b64 with _ | _
 try dsimp only at hL50
 refine gv1 14 31 (.bool true) rfl hS66 (gv1 15 32 (.bool true) rfl hS66 (gd_done (by kernel_rfl) (gx_thenN (hK54 _ _ (gx_yes (by kernel_rfl) (gx_pass (gx_thenN ?_)))))))
 refine hK52 _ _ (gx_block (gx_region (gx_k (i6 x48) w65 (gx_k (i6 (iw (x48 + 1))) w65 (gx_k (i6 (iw (x48 + 1))) w65 (gx_nil (gx_blkN (gx_thenN ?_))))))))
 exact ⟨k49, Nat.lt_succ_self k49, (iw (x48 + 1)), selfA_i (by kernel_rfl), hL50, hS66⟩
 try dsimp only at hL50
 refine gv1 14 31 (.bool false) rfl hS66 (gv1 15 32 (.bool false) rfl hS66 (gd_done (by kernel_rfl) (gx_thenN (hK54 _ _ (gx_no (by kernel_rfl) (gx_exit (gx_thenE ?_)))))))
 refine gx_thenE (gx_blkE (gx_thenN ?_))
 exact ⟨x48, selfA_i (by kernel_rfl), (sj hL50), hS66⟩
 refine gu1 2 19 (.bool false) rfl hS56 (rbF h57) (gv1 3 20 (.bool false) rfl hS56 (gz1 4 21 rfl hS56 (gz1 5 22 rfl hS56 (gz1 6 23 rfl hS56 (gz1 7 24 rfl hS56 (gz1 8 25 rfl hS56 (gz1 9 26 rfl hS56 ?_)))))))
 refine gz1 10 27 rfl hS56 (gz1 11 28 rfl hS56 (gz1 12 29 rfl hS56 (gz1 13 30 rfl hS56 (gz1 14 31 rfl hS56 (gv1 15 32 (.bool false) rfl hS56 (gd_done (by kernel_rfl) (gx_thenN ?_)))))))
 refine hK54 _ _ (gx_no (by kernel_rfl) (gx_exit (gx_thenE (gx_thenE (gx_blkE (gx_thenN ?_))))))
 exact ⟨x48, selfA_i (by kernel_rfl), (sj hL50), hS56⟩
 rintro _ w38 ⟨x41, hq186, rfl, hS39⟩
 obtain ⟨u40, rfl⟩ := selfA_u hq186
 try dsimp only at hO44
 refine gx_seq (fun K69 hK70 => gx_seq (fun K71 hK72 => gx_region (gx_k (i6 x41) w38 (gx_k (i6 p2) w38 ?_))))
 rcases if_in hO44 with ⟨h73, hO44⟩ | ⟨h73, hO44⟩
 refine gx_v (.bool true) w38 (rbE (decide_eq_true h73)) (gx_nil (gx_thenN (hK72 _ _ (gx_yes (by kernel_rfl) (gx_seq (fun K74 hK75 => gx_region (gx_k (.bool true) w38 ?_)))))))
 refine gx_nil (gx_thenN (hK75 _ _ (gx_ret (gx_thenR (gx_blkR (gx_thenR ?_))))))
 obtain rfl := sj hO44
 try dsimp only at hO37
 refine gx_thenR (gx_blkR (gx_thenR ?_))
 obtain rfl := sj hO37
 try dsimp only at hO12
 obtain rfl := sj hO12
 exact gxF (.bool true) ⟨_, rfl, rfl, hS39, (hn18).symm⟩
 refine gx_v (.bool false) w38 (rbE (decide_eq_false h73)) (gx_nil (gx_thenN (hK72 _ _ (gx_no (by kernel_rfl) (gx_pass (gx_thenN (hK70 _ _ ?_)))))))
 refine gx_seq (fun K76 hK77 => gx_seq (fun K78 hK79 => gx_region (gx_k (i6 p2) w38 (gx_k (i6 p1) w38 (gx_k (i6 (iw (p2 - p1))) w38 ?_)))))
 rcases if_in hO44 with ⟨h80, hO44⟩ | ⟨h80, hO44⟩
 refine gx_v (.bool true) w38 (rbE (decide_eq_true h80)) (gx_nil (gx_thenN (hK79 _ _ (gx_yes (by kernel_rfl) (gx_seq (fun K81 hK82 => gx_region (gx_k (.bool false) w38 ?_)))))))
 refine gx_nil (gx_thenN (hK82 _ _ (gx_ret (gx_thenR (gx_blkR (gx_thenR ?_))))))
 obtain rfl := sj hO44
 try dsimp only at hO37
 refine gx_thenR (gx_blkR (gx_thenR ?_))
 obtain rfl := sj hO37
 try dsimp only at hO12
 obtain rfl := sj hO12
 exact gxF (.bool false) ⟨_, rfl, rfl, hS39, (hn18).symm⟩
 refine gx_v (.bool false) w38 (rbE (decide_eq_false h80)) (gx_nil (gx_thenN (hK79 _ _ (gx_no (by kernel_rfl) (gx_pass (gx_thenN (hK77 _ _ ?_)))))))
 refine gx_seq (fun K83 hK84 => gdst (fun w => St (foots [rowE .u16 31 A0 c0 p0]) w0 w []) 18 ?_)
 have hS87 := hS39.drew
 generalize w38.drew = w86 at hS87 ⊢
 obtain ⟨xz11_84o8_1, hxz11_84o8_2, hO44⟩ := bind_in hO44
 obtain ⟨xz11_84o12_1, hxz11_84o12_2, hO44⟩ := bind_in hO44
 obtain ⟨xz11_84o14_1, hxz11_84o14_2, hO44⟩ := bind_in hO44
 obtain ⟨lz11_84o15_3, hxz11_84o15_4, hO44⟩ := bind_in hO44
 obtain ⟨xz11_84o16_1, hxz11_84o16_2, hO44⟩ := bind_in hO44
 obtain ⟨lz11_84o17_3, hxz11_84o17_4, hO44⟩ := bind_in hO44
 refine gd_share (X := Unit) (fun _ => ⟨((.slice A0 p0.length c0) :: (i6 p1) :: (i6 p2) :: un 3 ((u17 6) :: (i6 x41) :: (i6 x21) :: dd u17 9 2 ((i6 p1) :: (i6 (iw (p1 + 1))) :: (i6 x21) :: (.bool true) :: dd u17 15 2 (dd u40 17 18 ((i6 x41) :: (i6 p2) :: (.bool false) :: (i6 p2) :: (i6 p1) :: (i6 (iw (p2 - p1))) :: (.bool false) :: (.slice A0 p0.length c0) :: (i6 x41) :: (.slice A0 p0.length c0) :: (i6 x41) :: (i6 (iw (x41 - 1))) :: (.slice A0 p0.length c0) :: (i6 x41) :: (i6 (iw (x41 - 1))) :: (pI (iw (x41 - 1)) A0) :: (u6 xz11_84o8_1) :: (.slice A0 p0.length c0) :: (i6 x41) :: (pI x41 A0) :: (u6 xz11_84o12_1) :: (pI x41 A0) :: (pI (iw (x41 - 1)) A0) :: dd u17 58 75 ([])))))).toArray, []⟩) (fun _ w => St (foots [rowE .u16 31 A0 c0 p0]) w0 w [rowE .u16 31 A0 c0 lz11_84o17_3]) ?_ ?_
 rintro _ w88 hS89
 have hS89 : St _ _ w88 [rowE .u16 31 A0 c0 lz11_84o17_3] := hS89
 show WQ _ _ ⟨((.slice A0 p0.length c0) :: (i6 p1) :: (i6 p2) :: un 3 ((u17 6) :: (i6 x41) :: (i6 x21) :: dd u17 9 2 ((i6 p1) :: (i6 (iw (p1 + 1))) :: (i6 x21) :: (.bool true) :: dd u17 15 2 (dd u40 17 18 ((i6 x41) :: (i6 p2) :: (.bool false) :: (i6 p2) :: (i6 p1) :: (i6 (iw (p2 - p1))) :: (.bool false) :: (.slice A0 p0.length c0) :: (i6 x41) :: (.slice A0 p0.length c0) :: (i6 x41) :: (i6 (iw (x41 - 1))) :: (.slice A0 p0.length c0) :: (i6 x41) :: (i6 (iw (x41 - 1))) :: (pI (iw (x41 - 1)) A0) :: (u6 xz11_84o8_1) :: (.slice A0 p0.length c0) :: (i6 x41) :: (pI x41 A0) :: (u6 xz11_84o12_1) :: (pI x41 A0) :: (pI (iw (x41 - 1)) A0) :: dd u17 58 75 ([])))))).toArray, []⟩ _
 refine gx_thenN (hK84 _ _ ?_)
 obtain ⟨c95, hE96, hO97⟩ := bind_in hO44
 refine gx_cut (fun a w => ∃ (l94 : List Int), selfA (fun u92 => ⟨((.slice A0 p0.length c0) :: (i6 p1) :: (i6 p2) :: un 3 ((u17 6) :: (i6 x41) :: (i6 x21) :: (u92 9) :: (u17 10) :: (i6 p1) :: (i6 (iw (p1 + 1))) :: (i6 x21) :: (.bool true) :: dd u17 15 2 (dd u40 17 18 ((i6 x41) :: (i6 p2) :: (.bool false) :: (i6 p2) :: (i6 p1) :: (i6 (iw (p2 - p1))) :: (.bool false) :: (u92 42) :: (i6 x41) :: (u92 44) :: (i6 x41) :: (i6 (iw (x41 - 1))) :: (u92 47) :: (i6 x41) :: (i6 (iw (x41 - 1))) :: (pI (iw (x41 - 1)) A0) :: (u6 xz11_84o8_1) :: (u92 52) :: (i6 x41) :: (pI x41 A0) :: (u6 xz11_84o12_1) :: (pI x41 A0) :: (pI (iw (x41 - 1)) A0) :: dd u92 58 37 (dd u17 95 38 ([])))))).toArray, []⟩) a ∧ l94 = c95 ∧ St (foots [rowE .u16 31 A0 c0 p0]) w0 w [rowE .u16 31 A0 c0 l94] ∧ p0.length = l94.length) ?_ ?_
 refine gx_seq (fun K98 hK99 => gx_region (gx_k (i6 x41) w88 (gx_k (i6 p1) w88 (gx_k (i6 (iw (x41 - p1))) w88 ?_))))
 rcases if_in hE96 with ⟨h100, hE96⟩ | ⟨h100, hE96⟩
 refine gx_v (.bool true) w88 (rbE (decide_eq_true h100)) (gx_nil (gx_thenN (hK99 _ _ (gx_yes (by kernel_rfl) (gx_seq (fun K101 hK102 => gx_region (gx_k (i6 x41) w88 (gx_k (i6 (iw (x41 - 1))) w88 (gx_k (i6 (iw (x41 - 1))) w88 ?_)))))))))
 refine gx_nil (gx_thenN (hK102 _ _ (gx_block (gx_loop (fun k a w => ∃ (l107 : List Int) (x108 : Int), selfA (fun u105 => ⟨((.slice A0 p0.length c0) :: (i6 p1) :: (i6 p2) :: un 3 ((u17 6) :: (i6 x41) :: (i6 x21) :: (i6 x108) :: (u17 10) :: (i6 p1) :: (i6 (iw (p1 + 1))) :: (i6 x21) :: (.bool true) :: dd u17 15 2 (dd u40 17 18 ((i6 x41) :: (i6 p2) :: (.bool false) :: (i6 p2) :: (i6 p1) :: (i6 (iw (p2 - p1))) :: (.bool false) :: (u105 42) :: (i6 x41) :: (u105 44) :: (i6 x41) :: (i6 (iw (x41 - 1))) :: (u105 47) :: (i6 x41) :: (i6 (iw (x41 - 1))) :: (pI (iw (x41 - 1)) A0) :: (u6 xz11_84o8_1) :: (u105 52) :: (i6 x41) :: (pI x41 A0) :: (u6 xz11_84o12_1) :: (pI x41 A0) :: (pI (iw (x41 - 1)) A0) :: (i6 x41) :: (i6 p1) :: (i6 (iw (x41 - p1))) :: (.bool true) :: (i6 x41) :: (i6 (iw (x41 - 1))) :: dd u105 64 31 (dd u17 95 38 ([])))))).toArray, []⟩) a ∧ zPart_L3 N k l107 x108 = some c95 ∧ St (foots [rowE .u16 31 A0 c0 p0]) w0 w [rowE .u16 31 A0 c0 l107] ∧ p0.length = l107.length) N ?_ ?_))))
 exact ⟨lz11_84o17_3, (iw (x41 - 1)), selfA_i (by kernel_rfl), hE96, hS89, ((hn18.trans (setx_len hxz11_84o15_4).symm).trans (setx_len hxz11_84o17_4).symm)⟩
 rintro k109 _ w103 ⟨l107, x108, hq140, hL110, hS104, hn106⟩
 obtain ⟨u105, rfl⟩ := selfA_u hq140
 rcases k109 with _ | k109
 cases hL110
 first | rw [zPart_L3] at hL110 | unfold zPart_L3 at hL110
 refine gx_seq (fun K111 hK112 => gx_seq (fun K113 hK114 => gx_region (gx_k (i6 x108) w103 ?_)))
 rcases if_in hL110 with ⟨h115, hL110⟩ | ⟨h115, hL110⟩
 refine gx_v (.bool true) w103 (rbE (decide_eq_true h115)) (gx_nil (gx_thenN (hK114 _ _ (gx_yes (by kernel_rfl) (gx_pass (gx_thenN (hK112 _ _ ?_)))))))
 refine gx_seq (fun K116 hK117 => gx_block (gx_seq (fun K118 hK119 => gx_seq (fun K120 hK121 => gdst (fun w => St (foots [rowE .u16 31 A0 c0 p0]) w0 w [rowE .u16 31 A0 c0 l107]) 11 ?_))))
 have hS123 := hS104.drew
 generalize w103.drew = w122 at hS123 ⊢
 refine gv1 0 68 (.slice A0 p0.length c0) rfl hS123 (gv1 1 69 (i6 x108) rfl hS123 ?_)
 obtain ⟨x124, hx125, hL110⟩ := bind_in hL110
 refine gu1 2 70 (pI x108 A0) rfl hS123 (fun w hSw => riy 31 .i64 hx125 hn106 (((hS123.row 0 rfl).1))) (gu1 3 71 (u6 x124) rfl hS123 (fun w hSw => rlx (hSw.row 0 rfl).1 hx125) (gv1 4 72 (.slice A0 p0.length c0) rfl hS123 (gv1 5 73 (i6 x108) rfl hS123 (gv1 6 74 (i6 (iw (x108 - 1))) rfl hS123 ?_))))
 obtain ⟨x126, hx127, hL110⟩ := bind_in hL110
 refine gu1 7 75 (pI (iw (x108 - 1)) A0) rfl hS123 (fun w hSw => riy 31 .i64 hx127 hn106 (((hS123.row 0 rfl).1))) (gu1 8 76 (u6 x126) rfl hS123 (fun w hSw => rlx (hSw.row 0 rfl).1 hx127) ?_)
 have hP128 : St _ _ w122 ([] ++ [rowE .u16 31 A0 c0 l107]) := hS123
 obtain ⟨b130, hc129, hL110⟩ := bind_in hL110
 try dsimp only at hL110
 refine gdC 9 ⟨some 77, _, _, _, _, _⟩ _ rfl (by kernel_rfl) (zLess_ok N x124 x126 _ hc129 w122 ) ?_
 rintro _ w131 ⟨rfl, hT133⟩
 have hS132 : St _ _ w131 [rowE .u16 31 A0 c0 l107] := hS123.take _ hT133
 refine ⟨hS132, ?_⟩
 rcases b130 with _ | _
 try dsimp only at hL110
 refine gv1 10 78 (.bool true) rfl hS132 (gd_done (by kernel_rfl) (gx_thenN (hK121 _ _ (gx_yes (by kernel_rfl) (gx_exit (gx_thenE (gx_blkO (by decide) ?_)))))))
 refine gx_thenE (gx_thenE (gx_blkE (gx_thenN ?_)))
 exact ⟨l107, selfA_i (by kernel_rfl), (sj hL110), hS132, hn106⟩
 try dsimp only at hL110
 refine gv1 10 78 (.bool false) rfl hS132 (gd_done (by kernel_rfl) (gx_thenN (hK121 _ _ (gx_no (by kernel_rfl) (gx_pass (gx_thenN (hK119 _ _ ?_)))))))
 refine gdst (fun w => St (foots [rowE .u16 31 A0 c0 p0]) w0 w []) 18 ?_
 have hS136 := hS132.drew
 generalize w131.drew = w135 at hS136 ⊢
 obtain ⟨xz17_133o8_1, hxz17_133o8_2, hL110⟩ := bind_in hL110
 obtain ⟨xz17_133o12_1, hxz17_133o12_2, hL110⟩ := bind_in hL110
 obtain ⟨xz17_133o14_1, hxz17_133o14_2, hL110⟩ := bind_in hL110
 obtain ⟨lz17_133o15_3, hxz17_133o15_4, hL110⟩ := bind_in hL110
 obtain ⟨xz17_133o16_1, hxz17_133o16_2, hL110⟩ := bind_in hL110
 obtain ⟨lz17_133o17_3, hxz17_133o17_4, hL110⟩ := bind_in hL110
 refine gd_share (X := Unit) (fun _ => ⟨((.slice A0 p0.length c0) :: (i6 p1) :: (i6 p2) :: un 3 ((u17 6) :: (i6 x41) :: (i6 x21) :: (i6 x108) :: (u17 10) :: (i6 p1) :: (i6 (iw (p1 + 1))) :: (i6 x21) :: (.bool true) :: dd u17 15 2 (dd u40 17 18 ((i6 x41) :: (i6 p2) :: (.bool false) :: (i6 p2) :: (i6 p1) :: (i6 (iw (p2 - p1))) :: (.bool false) :: (u105 42) :: (i6 x41) :: (u105 44) :: (i6 x41) :: (i6 (iw (x41 - 1))) :: (u105 47) :: (i6 x41) :: (i6 (iw (x41 - 1))) :: (pI (iw (x41 - 1)) A0) :: (u6 xz11_84o8_1) :: (u105 52) :: (i6 x41) :: (pI x41 A0) :: (u6 xz11_84o12_1) :: (pI x41 A0) :: (pI (iw (x41 - 1)) A0) :: (i6 x41) :: (i6 p1) :: (i6 (iw (x41 - p1))) :: (.bool true) :: (i6 x41) :: (i6 (iw (x41 - 1))) :: (i6 x108) :: (.bool true) :: dd u105 66 2 ((.slice A0 p0.length c0) :: (i6 x108) :: (pI x108 A0) :: (u6 x124) :: (.slice A0 p0.length c0) :: (i6 x108) :: (i6 (iw (x108 - 1))) :: (pI (iw (x108 - 1)) A0) :: (u6 x126) :: (.bool true) :: (.bool false) :: (.slice A0 p0.length c0) :: (i6 x108) :: (.slice A0 p0.length c0) :: (i6 x108) :: (i6 (iw (x108 - 1))) :: (.slice A0 p0.length c0) :: (i6 x108) :: (i6 (iw (x108 - 1))) :: (pI (iw (x108 - 1)) A0) :: (u6 xz17_133o8_1) :: (.slice A0 p0.length c0) :: (i6 x108) :: (pI x108 A0) :: (u6 xz17_133o12_1) :: (pI x108 A0) :: (pI (iw (x108 - 1)) A0) :: dd u17 95 38 ([])))))).toArray, []⟩) (fun _ w => St (foots [rowE .u16 31 A0 c0 p0]) w0 w [rowE .u16 31 A0 c0 lz17_133o17_3]) ?_ ?_
 rintro _ w137 hS138
 have hS138 : St _ _ w137 [rowE .u16 31 A0 c0 lz17_133o17_3] := hS138
 show WQ _ _ ⟨((.slice A0 p0.length c0) :: (i6 p1) :: (i6 p2) :: un 3 ((u17 6) :: (i6 x41) :: (i6 x21) :: (i6 x108) :: (u17 10) :: (i6 p1) :: (i6 (iw (p1 + 1))) :: (i6 x21) :: (.bool true) :: dd u17 15 2 (dd u40 17 18 ((i6 x41) :: (i6 p2) :: (.bool false) :: (i6 p2) :: (i6 p1) :: (i6 (iw (p2 - p1))) :: (.bool false) :: (u105 42) :: (i6 x41) :: (u105 44) :: (i6 x41) :: (i6 (iw (x41 - 1))) :: (u105 47) :: (i6 x41) :: (i6 (iw (x41 - 1))) :: (pI (iw (x41 - 1)) A0) :: (u6 xz11_84o8_1) :: (u105 52) :: (i6 x41) :: (pI x41 A0) :: (u6 xz11_84o12_1) :: (pI x41 A0) :: (pI (iw (x41 - 1)) A0) :: (i6 x41) :: (i6 p1) :: (i6 (iw (x41 - p1))) :: (.bool true) :: (i6 x41) :: (i6 (iw (x41 - 1))) :: (i6 x108) :: (.bool true) :: dd u105 66 2 ((.slice A0 p0.length c0) :: (i6 x108) :: (pI x108 A0) :: (u6 x124) :: (.slice A0 p0.length c0) :: (i6 x108) :: (i6 (iw (x108 - 1))) :: (pI (iw (x108 - 1)) A0) :: (u6 x126) :: (.bool true) :: (.bool false) :: (.slice A0 p0.length c0) :: (i6 x108) :: (.slice A0 p0.length c0) :: (i6 x108) :: (i6 (iw (x108 - 1))) :: (.slice A0 p0.length c0) :: (i6 x108) :: (i6 (iw (x108 - 1))) :: (pI (iw (x108 - 1)) A0) :: (u6 xz17_133o8_1) :: (.slice A0 p0.length c0) :: (i6 x108) :: (pI x108 A0) :: (u6 xz17_133o12_1) :: (pI x108 A0) :: (pI (iw (x108 - 1)) A0) :: dd u17 95 38 ([])))))).toArray, []⟩ _
 refine gx_blkN (gx_thenN (hK117 _ _ (gx_region (gx_k (i6 x108) w137 (gx_k (i6 (iw (x108 - 1))) w137 (gx_k (i6 (iw (x108 - 1))) w137 (gx_nil (gx_thenN ?_))))))))
 exact ⟨k109, Nat.lt_succ_self k109, lz17_133o17_3, (iw (x108 - 1)), selfA_i (by kernel_rfl), hL110, hS138, ((hn106.trans (setx_len hxz17_133o15_4).symm).trans (setx_len hxz17_133o17_4).symm)⟩
 intro K139
 refine gv1 0 79 (.slice A0 p0.length c0) rfl (hS136.pick [] rfl rfl) (gv1 1 80 (i6 x108) rfl (hS136.pick [] rfl rfl) (gv1 2 81 (.slice A0 p0.length c0) rfl (hS136.pick [] rfl rfl) (gv1 3 82 (i6 x108) rfl (hS136.pick [] rfl rfl) (gv1 4 83 (i6 (iw (x108 - 1))) rfl (hS136.pick [] rfl rfl) (gv1 5 84 (.slice A0 p0.length c0) rfl (hS136.pick [] rfl rfl) (gv1 6 85 (i6 x108) rfl (hS136.pick [] rfl rfl) (gv1 7 86 (i6 (iw (x108 - 1))) rfl (hS136.pick [] rfl rfl) ?_)))))))
 refine gu1 8 87 (pI (iw (x108 - 1)) A0) rfl (hS136.pick [] rfl rfl) (fun w hSw => riy 31 .i64 hxz17_133o8_2 hn106 (((hS136.row 0 rfl).1))) (gv1 10 89 (.slice A0 p0.length c0) rfl (hS136.pick [] rfl rfl) (gv1 11 90 (i6 x108) rfl (hS136.pick [] rfl rfl) (gu1 12 91 (pI x108 A0) rfl (hS136.pick [] rfl rfl) (fun w hSw => riy 31 .i64 hxz17_133o12_2 hn106 (((hS136.row 0 rfl).1))) (gd_fork2 9 13 ⟨some 88, _, _, _, _, _⟩ ⟨some 92, _, _, _, _, _⟩ rfl rfl ?_ ?_))))
 refine gfR 9 ⟨some 88, _, _, _, _, _⟩ (R := fun v w => v = u6 xz17_133o8_1 ∧ w135 = w) rfl ⟨_, _, rlx (hS136.row 0 rfl).1 hxz17_133o8_2, rfl, rfl⟩ ?_
 rintro _ _ ⟨rfl, rfl⟩
 refine ⟨(hS136.pick [] rfl rfl), gdR 13 ⟨some 92, _, _, _, _, _⟩ (R := fun v w => v = u6 xz17_133o12_1 ∧ w135 = w) rfl ⟨_, _, rlx (hS136.row 0 rfl).1 hxz17_133o12_2, rfl, rfl⟩ ?_⟩
 rintro _ _ ⟨rfl, rfl⟩
 refine ⟨(hS136.pick [] rfl rfl), gu1 14 93 (pI x108 A0) rfl (hS136.pick [] rfl rfl) (fun w hSw => riy 31 .i64 hxz17_133o14_2 hn106 (((hS136.row 0 rfl).1))) (gdS 15 ⟨none, _, _, _, _, _⟩ rfl (st_storeix rfl (by kernel_rfl) (by kernel_rfl) (fun _ => by kernel_rfl) hS136 0 rfl hxz17_133o15_4) ?_)⟩
 rintro wz17_133o15_1 hSz17_133o15_2
 have hSz17_133o15_2 : St _ _ wz17_133o15_1 [rowE .u16 31 A0 c0 lz17_133o15_3] := hSz17_133o15_2
 refine ⟨(hSz17_133o15_2.pick [] rfl rfl), gu1 16 94 (pI (iw (x108 - 1)) A0) rfl (hSz17_133o15_2.pick [] rfl rfl) (fun w hSw => riy 31 .i64 hxz17_133o16_2 (hn106.trans (setx_len hxz17_133o15_4).symm) (((hSz17_133o15_2.row 0 rfl).1))) (gdSz 17 ⟨none, _, _, _, _, _⟩ rfl (st_storeix rfl (by kernel_rfl) (by kernel_rfl) (fun _ => by kernel_rfl) hSz17_133o15_2 0 rfl hxz17_133o17_4) ?_)⟩
 rintro wz17_133o17_1 hSz17_133o17_2
 have hSz17_133o17_2 : St _ _ wz17_133o17_1 [rowE .u16 31 A0 c0 lz17_133o17_3] := hSz17_133o17_2
 exact gd_meet (by kernel_rfl) (by kernel_rfl) (K139 () _ hSz17_133o17_2)
 refine gfR 13 ⟨some 92, _, _, _, _, _⟩ (R := fun v w => v = u6 xz17_133o12_1 ∧ w135 = w) rfl ⟨_, _, rlx (hS136.row 0 rfl).1 hxz17_133o12_2, rfl, rfl⟩ ?_
 rintro _ _ ⟨rfl, rfl⟩
 refine ⟨(hS136.pick [] rfl rfl), gdR 9 ⟨some 88, _, _, _, _, _⟩ (R := fun v w => v = u6 xz17_133o8_1 ∧ w135 = w) rfl ⟨_, _, rlx (hS136.row 0 rfl).1 hxz17_133o8_2, rfl, rfl⟩ ?_⟩
 rintro _ _ ⟨rfl, rfl⟩
 refine ⟨(hS136.pick [] rfl rfl), gu1 14 93 (pI x108 A0) rfl (hS136.pick [] rfl rfl) (fun w hSw => riy 31 .i64 hxz17_133o14_2 hn106 (((hS136.row 0 rfl).1))) (gdS 15 ⟨none, _, _, _, _, _⟩ rfl (st_storeix rfl (by kernel_rfl) (by kernel_rfl) (fun _ => by kernel_rfl) hS136 0 rfl hxz17_133o15_4) ?_)⟩
 rintro wz17_133o15_1 hSz17_133o15_2
 have hSz17_133o15_2 : St _ _ wz17_133o15_1 [rowE .u16 31 A0 c0 lz17_133o15_3] := hSz17_133o15_2
 refine ⟨(hSz17_133o15_2.pick [] rfl rfl), gu1 16 94 (pI (iw (x108 - 1)) A0) rfl (hSz17_133o15_2.pick [] rfl rfl) (fun w hSw => riy 31 .i64 hxz17_133o16_2 (hn106.trans (setx_len hxz17_133o15_4).symm) (((hSz17_133o15_2.row 0 rfl).1))) (gdSz 17 ⟨none, _, _, _, _, _⟩ rfl (st_storeix rfl (by kernel_rfl) (by kernel_rfl) (fun _ => by kernel_rfl) hSz17_133o15_2 0 rfl hxz17_133o17_4) ?_)⟩
 rintro wz17_133o17_1 hSz17_133o17_2
 have hSz17_133o17_2 : St _ _ wz17_133o17_1 [rowE .u16 31 A0 c0 lz17_133o17_3] := hSz17_133o17_2
 exact gd_meet (by kernel_rfl) (by kernel_rfl) (K139 () _ hSz17_133o17_2)
 refine gx_v (.bool false) w103 (rbE (decide_eq_false h115)) (gx_nil (gx_thenN (hK114 _ _ (gx_no (by kernel_rfl) (gx_exit (gx_thenE (gx_thenE ?_)))))))
 refine gx_blkE (gx_thenN ?_)
 exact ⟨l107, selfA_i (by kernel_rfl), (sj hL110), hS104, hn106⟩
 refine gx_v (.bool false) w88 (rbE (decide_eq_false h100)) (gx_nil (gx_thenN (hK99 _ _ (gx_no (by kernel_rfl) (gx_pass (gx_thenN ?_))))))
 exact ⟨lz11_84o17_3, selfA_i (by kernel_rfl), (sj hE96), hS89, ((hn18.trans (setx_len hxz11_84o15_4).symm).trans (setx_len hxz11_84o17_4).symm)⟩
 rintro _ w90 ⟨l94, hq184, rfl, hS91, hn93⟩
 obtain ⟨u92, rfl⟩ := selfA_u hq184
 try dsimp only at hO97
 refine gx_seq (fun K141 hK142 => gx_region (gx_k (i6 p2) w90 (gx_k (i6 x41) w90 (gx_k (i6 (iw (p2 - x41))) w90 ?_))))
 rcases if_in hO97 with ⟨h143, hO97⟩ | ⟨h143, hO97⟩
 refine gx_v (.bool true) w90 (rbE (decide_eq_true h143)) (gx_nil (gx_thenN (hK142 _ _ (gx_yes (by kernel_rfl) (gx_seq (fun K144 hK145 => gx_region (gx_k (i6 x41) w90 (gx_k (i6 (iw (x41 + 1))) w90 (gx_k (i6 (iw (x41 + 1))) w90 ?_)))))))))
 refine gx_nil (gx_thenN (hK145 _ _ (gx_block (gx_loop (fun k a w => ∃ (l150 : List Int) (x151 : Int), selfA (fun u148 => ⟨((.slice A0 p0.length c0) :: (i6 p1) :: (i6 p2) :: un 3 ((u17 6) :: (i6 x41) :: (i6 x21) :: (u92 9) :: (i6 x151) :: (i6 p1) :: (i6 (iw (p1 + 1))) :: (i6 x21) :: (.bool true) :: dd u17 15 2 (dd u40 17 18 ((i6 x41) :: (i6 p2) :: (.bool false) :: (i6 p2) :: (i6 p1) :: (i6 (iw (p2 - p1))) :: (.bool false) :: (u92 42) :: (i6 x41) :: (u92 44) :: (i6 x41) :: (i6 (iw (x41 - 1))) :: (u92 47) :: (i6 x41) :: (i6 (iw (x41 - 1))) :: (pI (iw (x41 - 1)) A0) :: (u6 xz11_84o8_1) :: (u92 52) :: (i6 x41) :: (pI x41 A0) :: (u6 xz11_84o12_1) :: (pI x41 A0) :: (pI (iw (x41 - 1)) A0) :: dd u92 58 37 ((i6 p2) :: (i6 x41) :: (i6 (iw (p2 - x41))) :: (.bool true) :: (i6 x41) :: (i6 (iw (x41 + 1))) :: dd u148 101 32 ([])))))).toArray, []⟩) a ∧ zPart_L4 N p2 x41 k l150 x151 = some c35 ∧ St (foots [rowE .u16 31 A0 c0 p0]) w0 w [rowE .u16 31 A0 c0 l150] ∧ p0.length = l150.length) N ?_ ?_))))
 exact ⟨l94, (iw (x41 + 1)), selfA_i (by kernel_rfl), hO97, hS91, hn93⟩
 rintro k152 _ w146 ⟨l150, x151, hq183, hL153, hS147, hn149⟩
 obtain ⟨u148, rfl⟩ := selfA_u hq183
 rcases k152 with _ | k152
 cases hL153
 first | rw [zPart_L4] at hL153 | unfold zPart_L4 at hL153
 refine gx_seq (fun K154 hK155 => gx_seq (fun K156 hK157 => gx_region (gx_k (i6 x151) w146 (gx_k (i6 p2) w146 ?_))))
 rcases if_in hL153 with ⟨h158, hL153⟩ | ⟨h158, hL153⟩
 refine gx_v (.bool true) w146 (rbE (decide_eq_true h158)) (gx_nil (gx_thenN (hK157 _ _ (gx_yes (by kernel_rfl) (gx_pass (gx_thenN (hK155 _ _ ?_)))))))
 refine gx_seq (fun K159 hK160 => gx_block (gx_seq (fun K161 hK162 => gx_seq (fun K163 hK164 => gdst (fun w => St (foots [rowE .u16 31 A0 c0 p0]) w0 w [rowE .u16 31 A0 c0 l150]) 11 ?_))))
 have hS166 := hS147.drew
 generalize w146.drew = w165 at hS166 ⊢
 refine gv1 0 106 (.slice A0 p0.length c0) rfl hS166 (gv1 1 107 (i6 x151) rfl hS166 ?_)
 obtain ⟨x167, hx168, hL153⟩ := bind_in hL153
 refine gu1 2 108 (pI x151 A0) rfl hS166 (fun w hSw => riy 31 .i64 hx168 hn149 (((hS166.row 0 rfl).1))) (gu1 3 109 (u6 x167) rfl hS166 (fun w hSw => rlx (hSw.row 0 rfl).1 hx168) (gv1 4 110 (.slice A0 p0.length c0) rfl hS166 (gv1 5 111 (i6 x151) rfl hS166 (gv1 6 112 (i6 (iw (x151 - 1))) rfl hS166 ?_))))
 obtain ⟨x169, hx170, hL153⟩ := bind_in hL153
 refine gu1 7 113 (pI (iw (x151 - 1)) A0) rfl hS166 (fun w hSw => riy 31 .i64 hx170 hn149 (((hS166.row 0 rfl).1))) (gu1 8 114 (u6 x169) rfl hS166 (fun w hSw => rlx (hSw.row 0 rfl).1 hx170) ?_)
 have hP171 : St _ _ w165 ([] ++ [rowE .u16 31 A0 c0 l150]) := hS166
 obtain ⟨b173, hc172, hL153⟩ := bind_in hL153
 try dsimp only at hL153
 refine gdC 9 ⟨some 115, _, _, _, _, _⟩ _ rfl (by kernel_rfl) (zLess_ok N x167 x169 _ hc172 w165 ) ?_
 rintro _ w174 ⟨rfl, hT176⟩
 have hS175 : St _ _ w174 [rowE .u16 31 A0 c0 l150] := hS166.take _ hT176
 refine ⟨hS175, ?_⟩
 rcases b173 with _ | _
 try dsimp only at hL153
 refine gv1 10 116 (.bool true) rfl hS175 (gd_done (by kernel_rfl) (gx_thenN (hK164 _ _ (gx_yes (by kernel_rfl) (gx_exit (gx_thenE (gx_blkO (by decide) ?_)))))))
 refine gx_thenE (gx_thenE (gx_blkE (gx_blkN (gx_thenN ?_))))
 exact ⟨l150, x41, selfA_i (by kernel_rfl), (sj hL153), hS175, hn149⟩
 try dsimp only at hL153
 refine gv1 10 116 (.bool false) rfl hS175 (gd_done (by kernel_rfl) (gx_thenN (hK164 _ _ (gx_no (by kernel_rfl) (gx_pass (gx_thenN (hK162 _ _ ?_)))))))
 refine gdst (fun w => St (foots [rowE .u16 31 A0 c0 p0]) w0 w []) 18 ?_
 have hS179 := hS175.drew
 generalize w174.drew = w178 at hS179 ⊢
 obtain ⟨xz23_176o8_1, hxz23_176o8_2, hL153⟩ := bind_in hL153
 obtain ⟨xz23_176o12_1, hxz23_176o12_2, hL153⟩ := bind_in hL153
 obtain ⟨xz23_176o14_1, hxz23_176o14_2, hL153⟩ := bind_in hL153
 obtain ⟨lz23_176o15_3, hxz23_176o15_4, hL153⟩ := bind_in hL153
 obtain ⟨xz23_176o16_1, hxz23_176o16_2, hL153⟩ := bind_in hL153
 obtain ⟨lz23_176o17_3, hxz23_176o17_4, hL153⟩ := bind_in hL153
 refine gd_share (X := Unit) (fun _ => ⟨((.slice A0 p0.length c0) :: (i6 p1) :: (i6 p2) :: un 3 ((u17 6) :: (i6 x41) :: (i6 x21) :: (u92 9) :: (i6 x151) :: (i6 p1) :: (i6 (iw (p1 + 1))) :: (i6 x21) :: (.bool true) :: dd u17 15 2 (dd u40 17 18 ((i6 x41) :: (i6 p2) :: (.bool false) :: (i6 p2) :: (i6 p1) :: (i6 (iw (p2 - p1))) :: (.bool false) :: (u92 42) :: (i6 x41) :: (u92 44) :: (i6 x41) :: (i6 (iw (x41 - 1))) :: (u92 47) :: (i6 x41) :: (i6 (iw (x41 - 1))) :: (pI (iw (x41 - 1)) A0) :: (u6 xz11_84o8_1) :: (u92 52) :: (i6 x41) :: (pI x41 A0) :: (u6 xz11_84o12_1) :: (pI x41 A0) :: (pI (iw (x41 - 1)) A0) :: dd u92 58 37 ((i6 p2) :: (i6 x41) :: (i6 (iw (p2 - x41))) :: (.bool true) :: (i6 x41) :: (i6 (iw (x41 + 1))) :: (i6 x151) :: (i6 p2) :: (.bool true) :: dd u148 104 2 ((.slice A0 p0.length c0) :: (i6 x151) :: (pI x151 A0) :: (u6 x167) :: (.slice A0 p0.length c0) :: (i6 x151) :: (i6 (iw (x151 - 1))) :: (pI (iw (x151 - 1)) A0) :: (u6 x169) :: (.bool true) :: (.bool false) :: (.slice A0 p0.length c0) :: (i6 x151) :: (.slice A0 p0.length c0) :: (i6 x151) :: (i6 (iw (x151 - 1))) :: (.slice A0 p0.length c0) :: (i6 x151) :: (i6 (iw (x151 - 1))) :: (pI (iw (x151 - 1)) A0) :: (u6 xz23_176o8_1) :: (.slice A0 p0.length c0) :: (i6 x151) :: (pI x151 A0) :: (u6 xz23_176o12_1) :: (pI x151 A0) :: (pI (iw (x151 - 1)) A0) :: [])))))).toArray, []⟩) (fun _ w => St (foots [rowE .u16 31 A0 c0 p0]) w0 w [rowE .u16 31 A0 c0 lz23_176o17_3]) ?_ ?_
 rintro _ w180 hS181
 have hS181 : St _ _ w180 [rowE .u16 31 A0 c0 lz23_176o17_3] := hS181
 show WQ _ _ ⟨((.slice A0 p0.length c0) :: (i6 p1) :: (i6 p2) :: un 3 ((u17 6) :: (i6 x41) :: (i6 x21) :: (u92 9) :: (i6 x151) :: (i6 p1) :: (i6 (iw (p1 + 1))) :: (i6 x21) :: (.bool true) :: dd u17 15 2 (dd u40 17 18 ((i6 x41) :: (i6 p2) :: (.bool false) :: (i6 p2) :: (i6 p1) :: (i6 (iw (p2 - p1))) :: (.bool false) :: (u92 42) :: (i6 x41) :: (u92 44) :: (i6 x41) :: (i6 (iw (x41 - 1))) :: (u92 47) :: (i6 x41) :: (i6 (iw (x41 - 1))) :: (pI (iw (x41 - 1)) A0) :: (u6 xz11_84o8_1) :: (u92 52) :: (i6 x41) :: (pI x41 A0) :: (u6 xz11_84o12_1) :: (pI x41 A0) :: (pI (iw (x41 - 1)) A0) :: dd u92 58 37 ((i6 p2) :: (i6 x41) :: (i6 (iw (p2 - x41))) :: (.bool true) :: (i6 x41) :: (i6 (iw (x41 + 1))) :: (i6 x151) :: (i6 p2) :: (.bool true) :: dd u148 104 2 ((.slice A0 p0.length c0) :: (i6 x151) :: (pI x151 A0) :: (u6 x167) :: (.slice A0 p0.length c0) :: (i6 x151) :: (i6 (iw (x151 - 1))) :: (pI (iw (x151 - 1)) A0) :: (u6 x169) :: (.bool true) :: (.bool false) :: (.slice A0 p0.length c0) :: (i6 x151) :: (.slice A0 p0.length c0) :: (i6 x151) :: (i6 (iw (x151 - 1))) :: (.slice A0 p0.length c0) :: (i6 x151) :: (i6 (iw (x151 - 1))) :: (pI (iw (x151 - 1)) A0) :: (u6 xz23_176o8_1) :: (.slice A0 p0.length c0) :: (i6 x151) :: (pI x151 A0) :: (u6 xz23_176o12_1) :: (pI x151 A0) :: (pI (iw (x151 - 1)) A0) :: [])))))).toArray, []⟩ _
 refine gx_blkN (gx_thenN (hK160 _ _ (gx_region (gx_k (i6 x151) w180 (gx_k (i6 (iw (x151 + 1))) w180 (gx_k (i6 (iw (x151 + 1))) w180 (gx_nil (gx_thenN ?_))))))))
 exact ⟨k152, Nat.lt_succ_self k152, lz23_176o17_3, (iw (x151 + 1)), selfA_i (by kernel_rfl), hL153, hS181, ((hn149.trans (setx_len hxz23_176o15_4).symm).trans (setx_len hxz23_176o17_4).symm)⟩
 intro K182
 refine gv1 0 117 (.slice A0 p0.length c0) rfl (hS179.pick [] rfl rfl) (gv1 1 118 (i6 x151) rfl (hS179.pick [] rfl rfl) (gv1 2 119 (.slice A0 p0.length c0) rfl (hS179.pick [] rfl rfl) (gv1 3 120 (i6 x151) rfl (hS179.pick [] rfl rfl) (gv1 4 121 (i6 (iw (x151 - 1))) rfl (hS179.pick [] rfl rfl) (gv1 5 122 (.slice A0 p0.length c0) rfl (hS179.pick [] rfl rfl) (gv1 6 123 (i6 x151) rfl (hS179.pick [] rfl rfl) (gv1 7 124 (i6 (iw (x151 - 1))) rfl (hS179.pick [] rfl rfl) ?_)))))))
 refine gu1 8 125 (pI (iw (x151 - 1)) A0) rfl (hS179.pick [] rfl rfl) (fun w hSw => riy 31 .i64 hxz23_176o8_2 hn149 (((hS179.row 0 rfl).1))) (gv1 10 127 (.slice A0 p0.length c0) rfl (hS179.pick [] rfl rfl) (gv1 11 128 (i6 x151) rfl (hS179.pick [] rfl rfl) (gu1 12 129 (pI x151 A0) rfl (hS179.pick [] rfl rfl) (fun w hSw => riy 31 .i64 hxz23_176o12_2 hn149 (((hS179.row 0 rfl).1))) (gd_fork2 9 13 ⟨some 126, _, _, _, _, _⟩ ⟨some 130, _, _, _, _, _⟩ rfl rfl ?_ ?_))))
 refine gfR 9 ⟨some 126, _, _, _, _, _⟩ (R := fun v w => v = u6 xz23_176o8_1 ∧ w178 = w) rfl ⟨_, _, rlx (hS179.row 0 rfl).1 hxz23_176o8_2, rfl, rfl⟩ ?_
 rintro _ _ ⟨rfl, rfl⟩
 refine ⟨(hS179.pick [] rfl rfl), gdR 13 ⟨some 130, _, _, _, _, _⟩ (R := fun v w => v = u6 xz23_176o12_1 ∧ w178 = w) rfl ⟨_, _, rlx (hS179.row 0 rfl).1 hxz23_176o12_2, rfl, rfl⟩ ?_⟩
 rintro _ _ ⟨rfl, rfl⟩
 refine ⟨(hS179.pick [] rfl rfl), gu1 14 131 (pI x151 A0) rfl (hS179.pick [] rfl rfl) (fun w hSw => riy 31 .i64 hxz23_176o14_2 hn149 (((hS179.row 0 rfl).1))) (gdS 15 ⟨none, _, _, _, _, _⟩ rfl (st_storeix rfl (by kernel_rfl) (by kernel_rfl) (fun _ => by kernel_rfl) hS179 0 rfl hxz23_176o15_4) ?_)⟩
 rintro wz23_176o15_1 hSz23_176o15_2
 have hSz23_176o15_2 : St _ _ wz23_176o15_1 [rowE .u16 31 A0 c0 lz23_176o15_3] := hSz23_176o15_2
 refine ⟨(hSz23_176o15_2.pick [] rfl rfl), gu1 16 132 (pI (iw (x151 - 1)) A0) rfl (hSz23_176o15_2.pick [] rfl rfl) (fun w hSw => riy 31 .i64 hxz23_176o16_2 (hn149.trans (setx_len hxz23_176o15_4).symm) (((hSz23_176o15_2.row 0 rfl).1))) (gdSz 17 ⟨none, _, _, _, _, _⟩ rfl (st_storeix rfl (by kernel_rfl) (by kernel_rfl) (fun _ => by kernel_rfl) hSz23_176o15_2 0 rfl hxz23_176o17_4) ?_)⟩
 rintro wz23_176o17_1 hSz23_176o17_2
 have hSz23_176o17_2 : St _ _ wz23_176o17_1 [rowE .u16 31 A0 c0 lz23_176o17_3] := hSz23_176o17_2
 exact gd_meet (by kernel_rfl) (by kernel_rfl) (K182 () _ hSz23_176o17_2)
 refine gfR 13 ⟨some 130, _, _, _, _, _⟩ (R := fun v w => v = u6 xz23_176o12_1 ∧ w178 = w) rfl ⟨_, _, rlx (hS179.row 0 rfl).1 hxz23_176o12_2, rfl, rfl⟩ ?_
 rintro _ _ ⟨rfl, rfl⟩
 refine ⟨(hS179.pick [] rfl rfl), gdR 9 ⟨some 126, _, _, _, _, _⟩ (R := fun v w => v = u6 xz23_176o8_1 ∧ w178 = w) rfl ⟨_, _, rlx (hS179.row 0 rfl).1 hxz23_176o8_2, rfl, rfl⟩ ?_⟩
 rintro _ _ ⟨rfl, rfl⟩
 refine ⟨(hS179.pick [] rfl rfl), gu1 14 131 (pI x151 A0) rfl (hS179.pick [] rfl rfl) (fun w hSw => riy 31 .i64 hxz23_176o14_2 hn149 (((hS179.row 0 rfl).1))) (gdS 15 ⟨none, _, _, _, _, _⟩ rfl (st_storeix rfl (by kernel_rfl) (by kernel_rfl) (fun _ => by kernel_rfl) hS179 0 rfl hxz23_176o15_4) ?_)⟩
 rintro wz23_176o15_1 hSz23_176o15_2
 have hSz23_176o15_2 : St _ _ wz23_176o15_1 [rowE .u16 31 A0 c0 lz23_176o15_3] := hSz23_176o15_2
 refine ⟨(hSz23_176o15_2.pick [] rfl rfl), gu1 16 132 (pI (iw (x151 - 1)) A0) rfl (hSz23_176o15_2.pick [] rfl rfl) (fun w hSw => riy 31 .i64 hxz23_176o16_2 (hn149.trans (setx_len hxz23_176o15_4).symm) (((hSz23_176o15_2.row 0 rfl).1))) (gdSz 17 ⟨none, _, _, _, _, _⟩ rfl (st_storeix rfl (by kernel_rfl) (by kernel_rfl) (fun _ => by kernel_rfl) hSz23_176o15_2 0 rfl hxz23_176o17_4) ?_)⟩
 rintro wz23_176o17_1 hSz23_176o17_2
 have hSz23_176o17_2 : St _ _ wz23_176o17_1 [rowE .u16 31 A0 c0 lz23_176o17_3] := hSz23_176o17_2
 exact gd_meet (by kernel_rfl) (by kernel_rfl) (K182 () _ hSz23_176o17_2)
 refine gx_v (.bool false) w146 (rbE (decide_eq_false h158)) (gx_nil (gx_thenN (hK157 _ _ (gx_no (by kernel_rfl) (gx_exit (gx_thenE (gx_thenE ?_)))))))
 refine gx_blkE (gx_blkN (gx_thenN ?_))
 exact ⟨l150, x41, selfA_i (by kernel_rfl), (sj hL153), hS147, hn149⟩
 refine gx_v (.bool false) w90 (rbE (decide_eq_false h143)) (gx_nil (gx_thenN (hK142 _ _ (gx_no (by kernel_rfl) (gx_pass (gx_blkN (gx_thenN ?_)))))))
 exact ⟨l94, x41, selfA_i (by kernel_rfl), (sj hO97), hS91, hn93⟩
 intro K185
 refine gv1 0 42 (.slice A0 p0.length c0) rfl (hS87.pick [] rfl rfl) (gv1 1 43 (i6 x41) rfl (hS87.pick [] rfl rfl) (gv1 2 44 (.slice A0 p0.length c0) rfl (hS87.pick [] rfl rfl) (gv1 3 45 (i6 x41) rfl (hS87.pick [] rfl rfl) (gv1 4 46 (i6 (iw (x41 - 1))) rfl (hS87.pick [] rfl rfl) (gv1 5 47 (.slice A0 p0.length c0) rfl (hS87.pick [] rfl rfl) (gv1 6 48 (i6 x41) rfl (hS87.pick [] rfl rfl) (gv1 7 49 (i6 (iw (x41 - 1))) rfl (hS87.pick [] rfl rfl) ?_)))))))
 refine gu1 8 50 (pI (iw (x41 - 1)) A0) rfl (hS87.pick [] rfl rfl) (fun w hSw => riy 31 .i64 hxz11_84o8_2 hn18 (((hS87.row 0 rfl).1))) (gv1 10 52 (.slice A0 p0.length c0) rfl (hS87.pick [] rfl rfl) (gv1 11 53 (i6 x41) rfl (hS87.pick [] rfl rfl) (gu1 12 54 (pI x41 A0) rfl (hS87.pick [] rfl rfl) (fun w hSw => riy 31 .i64 hxz11_84o12_2 hn18 (((hS87.row 0 rfl).1))) (gd_fork2 9 13 ⟨some 51, _, _, _, _, _⟩ ⟨some 55, _, _, _, _, _⟩ rfl rfl ?_ ?_))))
 refine gfR 9 ⟨some 51, _, _, _, _, _⟩ (R := fun v w => v = u6 xz11_84o8_1 ∧ w86 = w) rfl ⟨_, _, rlx (hS87.row 0 rfl).1 hxz11_84o8_2, rfl, rfl⟩ ?_
 rintro _ _ ⟨rfl, rfl⟩
 refine ⟨(hS87.pick [] rfl rfl), gdR 13 ⟨some 55, _, _, _, _, _⟩ (R := fun v w => v = u6 xz11_84o12_1 ∧ w86 = w) rfl ⟨_, _, rlx (hS87.row 0 rfl).1 hxz11_84o12_2, rfl, rfl⟩ ?_⟩
 rintro _ _ ⟨rfl, rfl⟩
 refine ⟨(hS87.pick [] rfl rfl), gu1 14 56 (pI x41 A0) rfl (hS87.pick [] rfl rfl) (fun w hSw => riy 31 .i64 hxz11_84o14_2 hn18 (((hS87.row 0 rfl).1))) (gdS 15 ⟨none, _, _, _, _, _⟩ rfl (st_storeix rfl (by kernel_rfl) (by kernel_rfl) (fun _ => by kernel_rfl) hS87 0 rfl hxz11_84o15_4) ?_)⟩
 rintro wz11_84o15_1 hSz11_84o15_2
 have hSz11_84o15_2 : St _ _ wz11_84o15_1 [rowE .u16 31 A0 c0 lz11_84o15_3] := hSz11_84o15_2
 refine ⟨(hSz11_84o15_2.pick [] rfl rfl), gu1 16 57 (pI (iw (x41 - 1)) A0) rfl (hSz11_84o15_2.pick [] rfl rfl) (fun w hSw => riy 31 .i64 hxz11_84o16_2 (hn18.trans (setx_len hxz11_84o15_4).symm) (((hSz11_84o15_2.row 0 rfl).1))) (gdSz 17 ⟨none, _, _, _, _, _⟩ rfl (st_storeix rfl (by kernel_rfl) (by kernel_rfl) (fun _ => by kernel_rfl) hSz11_84o15_2 0 rfl hxz11_84o17_4) ?_)⟩
 rintro wz11_84o17_1 hSz11_84o17_2
 have hSz11_84o17_2 : St _ _ wz11_84o17_1 [rowE .u16 31 A0 c0 lz11_84o17_3] := hSz11_84o17_2
 exact gd_meet (by kernel_rfl) (by kernel_rfl) (K185 () _ hSz11_84o17_2)
 refine gfR 13 ⟨some 55, _, _, _, _, _⟩ (R := fun v w => v = u6 xz11_84o12_1 ∧ w86 = w) rfl ⟨_, _, rlx (hS87.row 0 rfl).1 hxz11_84o12_2, rfl, rfl⟩ ?_
 rintro _ _ ⟨rfl, rfl⟩
 refine ⟨(hS87.pick [] rfl rfl), gdR 9 ⟨some 51, _, _, _, _, _⟩ (R := fun v w => v = u6 xz11_84o8_1 ∧ w86 = w) rfl ⟨_, _, rlx (hS87.row 0 rfl).1 hxz11_84o8_2, rfl, rfl⟩ ?_⟩
 rintro _ _ ⟨rfl, rfl⟩
 refine ⟨(hS87.pick [] rfl rfl), gu1 14 56 (pI x41 A0) rfl (hS87.pick [] rfl rfl) (fun w hSw => riy 31 .i64 hxz11_84o14_2 hn18 (((hS87.row 0 rfl).1))) (gdS 15 ⟨none, _, _, _, _, _⟩ rfl (st_storeix rfl (by kernel_rfl) (by kernel_rfl) (fun _ => by kernel_rfl) hS87 0 rfl hxz11_84o15_4) ?_)⟩
 rintro wz11_84o15_1 hSz11_84o15_2
 have hSz11_84o15_2 : St _ _ wz11_84o15_1 [rowE .u16 31 A0 c0 lz11_84o15_3] := hSz11_84o15_2
 refine ⟨(hSz11_84o15_2.pick [] rfl rfl), gu1 16 57 (pI (iw (x41 - 1)) A0) rfl (hSz11_84o15_2.pick [] rfl rfl) (fun w hSw => riy 31 .i64 hxz11_84o16_2 (hn18.trans (setx_len hxz11_84o15_4).symm) (((hSz11_84o15_2.row 0 rfl).1))) (gdSz 17 ⟨none, _, _, _, _, _⟩ rfl (st_storeix rfl (by kernel_rfl) (by kernel_rfl) (fun _ => by kernel_rfl) hSz11_84o15_2 0 rfl hxz11_84o17_4) ?_)⟩
 rintro wz11_84o17_1 hSz11_84o17_2
 have hSz11_84o17_2 : St _ _ wz11_84o17_1 [rowE .u16 31 A0 c0 lz11_84o17_3] := hSz11_84o17_2
 exact gd_meet (by kernel_rfl) (by kernel_rfl) (K185 () _ hSz11_84o17_2)
 rintro _ w29 ⟨l33, x34, hq187, rfl, hS30, hn32⟩
 obtain ⟨u31, rfl⟩ := selfA_u hq187
 try dsimp only at hO37
 refine gx_region (gx_k (i6 x21) w29 (gx_k (i6 (iw (x21 + 1))) w29 (gx_k (i6 (iw (x21 + 1))) w29 (gx_nil (gx_thenN ?_)))))
 exact ⟨k22, Nat.lt_succ_self k22, l33, x34, (iw (x21 + 1)), selfA_i (by kernel_rfl), hO37, hS30, hn32⟩
 refine gx_v (.bool false) w15 (rbE (decide_eq_false h28)) (gx_nil (gx_thenN (hK27 _ _ (gx_no (by kernel_rfl) (gx_exit (gx_thenE (gx_thenE ?_)))))))
 refine gx_blkE (gx_thenN ?_)
 exact ⟨l19, selfA_i (by kernel_rfl), (sj hL23), hS16, hn18⟩
 rintro _ w5 ⟨l9, hq191, rfl, hS6, hn8⟩
 obtain ⟨u7, rfl⟩ := selfA_u hq191
 try dsimp only at hO12
 refine gx_seq (fun K189 hK190 => gx_region (gx_k (.bool false) w5 (gx_nil (gx_thenN (hK190 _ _ (gx_ret ?_))))))
 obtain rfl := sj hO12
 exact gxF (.bool false) ⟨_, rfl, rfl, hS6, (hn8).symm⟩
end Go.Proofs.Ytgjlpiljacecpaa
