/-
  slices.Sort, walked.
-/
import Derived.Test.YtgjlpiljacecpaaZ2
namespace Go.Proofs.Ytgjlpiljacecpaa
open Go Go.RowKit
set_option linter.unusedVariables false
set_option maxRecDepth 100000
set_option maxHeartbeats 4000000
def zEq_L2 (N : Nat) (p1 : Int) (l25 : List Int) (x27 : Int) : Nat → Int → Option (Int)
 | 0, _ => none
 | k41+1, x40 => (if x40 ≤ x27 then ((ix l25 p1).bind fun x50 => ((ix l25 x40).bind fun x52 => ((zLess N x50 x52).bind fun b56 => (match b56 with | true => some (x40) | false => zEq_L2 N p1 l25 x27 k41 (IntKind.i64.wrap (x40 + 1)))))) else some (x40))
def zEq_L3 (N : Nat) (p1 : Int) (l25 : List Int) (x33 : Int) : Nat → Int → Option (Int)
 | 0, _ => none
 | k72+1, x71 => (if x33 ≤ x71 then ((ix l25 p1).bind fun x81 => ((ix l25 x71).bind fun x83 => ((zLess N x81 x83).bind fun b87 => (match b87 with | true => zEq_L3 N p1 l25 x33 k72 (IntKind.i64.wrap (x71 - 1)) | false => some (x71))))) else some (x71))
def zEq_L1 (N : Nat) (p1 : Int) : Nat → (List Int) → Int → Int → Option (List Int × Int)
 | 0, _, _, _ => none
 | k28+1, l25, x26, x27 => ((zEq_L2 N p1 l25 x27 N x26 : Option (Int)).bind fun x33 => ((zEq_L3 N p1 l25 x33 N x27 : Option (Int)).bind fun x64 => (if x33 > x64 then some ((l25, x33)) else ((ix l25 x64).bind fun xz8_98o6_1 => ((ix l25 x33).bind fun xz8_98o10_1 => ((ix l25 x33).bind fun _xz8_98o12_1 => ((setx l25 x33 xz8_98o6_1).bind fun lz8_98o13_3 => ((ix lz8_98o13_3 x64).bind fun _xz8_98o14_1 => ((setx lz8_98o13_3 x64 xz8_98o10_1).bind fun lz8_98o15_3 => zEq_L1 N p1 k28 lz8_98o15_3 (IntKind.i64.wrap (x33 + 1)) (IntKind.i64.wrap (x64 - 1)))))))))))
def zEq (N : Nat) (p0 : List Int) (p1 : Int) (p2 : Int) (p3 : Int) : Option (Int × List Int) :=
 ((ix p0 p3).bind fun xz1_4o6_1 => ((ix p0 p1).bind fun xz1_4o10_1 => ((ix p0 p1).bind fun _xz1_4o12_1 => ((setx p0 p1 xz1_4o6_1).bind fun lz1_4o13_3 => ((ix lz1_4o13_3 p3).bind fun _xz1_4o14_1 => ((setx lz1_4o13_3 p3 xz1_4o10_1).bind fun lz1_4o15_3 => ((zEq_L1 N p1 N lz1_4o15_3 (IntKind.i64.wrap (p1 + 1)) (IntKind.i64.wrap (p2 - 1)) : Option (List Int × Int)).bind fun (l16, x17) => some (x17, l16))))))))
def zEq_R (p0 : List Int) (p1 : Int) (p2 : Int) (p3 : Int) (A0 : Option Addr) (c0 : Nat) (r : Int × List Int) (w0 : World) (v : Value) (w : World) : Prop := v = .int .i64 r.1 ∧ St (foots [rowE .u16 31 A0 c0 p0]) w0 w [rowE .u16 31 A0 c0 r.2] ∧ r.2.length = p0.length
theorem zEq_ok (N : Nat) (p0 : List Int) (p1 : Int) (p2 : Int) (p3 : Int) (A0 : Option Addr) (c0 : Nat) (r : Int × List Int) (hF : zEq N p0 p1 p2 p3 = some r) (w0 : World) (hl : St (foots [rowE .u16 31 A0 c0 p0]) w0 w0 [rowE .u16 31 A0 c0 p0]) :
  Calls Try.prog 128 #[.slice A0 p0.length c0, .int .i64 p1, .int .i64 p2, .int .i64 p3] w0 fun e w => ∃ v, e = .returned v ∧ zEq_R p0 p1 p2 p3 A0 c0 r w0 v w := by
 have hS0 := hl
 unfold zEq at hF
 refine calls_of Try.func128 rfl ⟨((.slice A0 p0.length c0) :: (i6 p1) :: (i6 p2) :: (i6 p3) :: un 80 ([])).toArray, []⟩ (by kernel_rfl) (gx_seq (fun K1 hK2 => gx_region (gx_k (i6 0) w0 (gx_nil (gx_thenN (hK2 _ _ (gx_seq (fun K3 hK4 => ?_))))))))
 refine gdst (fun w => St (foots [rowE .u16 31 A0 c0 p0]) w0 w []) 16 ?_
 have hS7 := hS0.drew
 generalize w0.drew = w6 at hS7 ⊢
 obtain ⟨xz1_4o6_1, hxz1_4o6_2, hF⟩ := bind_in hF
 obtain ⟨xz1_4o10_1, hxz1_4o10_2, hF⟩ := bind_in hF
 obtain ⟨xz1_4o12_1, hxz1_4o12_2, hF⟩ := bind_in hF
 obtain ⟨lz1_4o13_3, hxz1_4o13_4, hF⟩ := bind_in hF
 obtain ⟨xz1_4o14_1, hxz1_4o14_2, hF⟩ := bind_in hF
 obtain ⟨lz1_4o15_3, hxz1_4o15_4, hF⟩ := bind_in hF
 refine gd_share (X := Unit) (fun _ => ⟨((.slice A0 p0.length c0) :: (i6 p1) :: (i6 p2) :: (i6 p3) :: un 4 ((i6 0) :: undef :: undef :: (.slice A0 p0.length c0) :: (i6 p1) :: (.slice A0 p0.length c0) :: (i6 p3) :: (.slice A0 p0.length c0) :: (i6 p3) :: (pI p3 A0) :: (u6 xz1_4o6_1) :: (.slice A0 p0.length c0) :: (i6 p1) :: (pI p1 A0) :: (u6 xz1_4o10_1) :: (pI p1 A0) :: (pI p3 A0) :: un 59 ([]))).toArray, []⟩) (fun _ w => St (foots [rowE .u16 31 A0 c0 p0]) w0 w [rowE .u16 31 A0 c0 lz1_4o15_3]) ?_ ?_
 rintro _ w8 hS9
 have hS9 : St _ _ w8 [rowE .u16 31 A0 c0 lz1_4o15_3] := hS9
 show WQ _ _ ⟨((.slice A0 p0.length c0) :: (i6 p1) :: (i6 p2) :: (i6 p3) :: un 4 ((i6 0) :: undef :: undef :: (.slice A0 p0.length c0) :: (i6 p1) :: (.slice A0 p0.length c0) :: (i6 p3) :: (.slice A0 p0.length c0) :: (i6 p3) :: (pI p3 A0) :: (u6 xz1_4o6_1) :: (.slice A0 p0.length c0) :: (i6 p1) :: (pI p1 A0) :: (u6 xz1_4o10_1) :: (pI p1 A0) :: (pI p3 A0) :: un 59 ([]))).toArray, []⟩ _
 refine gx_thenN (hK4 _ _ (gx_seq (fun K10 hK11 => gx_region (gx_k (i6 p1) w8 (gx_k (i6 (iw (p1 + 1))) w8 (gx_k (i6 p2) w8 (gx_k (i6 (iw (p2 - 1))) w8 (gx_k (i6 (iw (p1 + 1))) w8 (gx_k (i6 (iw (p2 - 1))) w8 (gx_nil (gx_thenN (hK11 _ _ ?_))))))))))))
 obtain ⟨c18, hE19, hO20⟩ := bind_in hF
 refine gx_cut (fun a w => ∃ (l16 : List Int) (x17 : Int), selfA (fun u14 => ⟨((.slice A0 p0.length c0) :: (i6 p1) :: (i6 p2) :: (i6 p3) :: un 4 ((i6 0) :: (i6 x17) :: dd u14 10 2 ((i6 p1) :: (u14 13) :: (i6 p3) :: (u14 15) :: (i6 p3) :: (pI p3 A0) :: (u6 xz1_4o6_1) :: (u14 19) :: (i6 p1) :: (pI p1 A0) :: (u6 xz1_4o10_1) :: (pI p1 A0) :: (pI p3 A0) :: (i6 p1) :: (i6 (iw (p1 + 1))) :: (i6 p2) :: (i6 (iw (p2 - 1))) :: dd u14 29 54 (undef :: [])))).toArray, []⟩) a ∧ (l16, x17) = c18 ∧ St (foots [rowE .u16 31 A0 c0 p0]) w0 w [rowE .u16 31 A0 c0 l16] ∧ p0.length = l16.length) ?_ ?_
 refine gx_block (gx_loop (fun k a w => ∃ (l25 : List Int) (x26 : Int) (x27 : Int), selfA (fun u23 => ⟨((.slice A0 p0.length c0) :: (i6 p1) :: (i6 p2) :: (i6 p3) :: un 4 ((i6 0) :: (i6 x26) :: (i6 x27) :: (u23 11) :: (i6 p1) :: (u23 13) :: (i6 p3) :: (u23 15) :: (i6 p3) :: (pI p3 A0) :: (u6 xz1_4o6_1) :: (u23 19) :: (i6 p1) :: (pI p1 A0) :: (u6 xz1_4o10_1) :: (pI p1 A0) :: (pI p3 A0) :: (i6 p1) :: (i6 (iw (p1 + 1))) :: (i6 p2) :: (i6 (iw (p2 - 1))) :: dd u23 29 54 (undef :: []))).toArray, []⟩) a ∧ zEq_L1 N p1 k l25 x26 x27 = some c18 ∧ St (foots [rowE .u16 31 A0 c0 p0]) w0 w [rowE .u16 31 A0 c0 l25] ∧ p0.length = l25.length) N ?_ ?_)
 exact ⟨lz1_4o15_3, (iw (p1 + 1)), (iw (p2 - 1)), selfA_i (by kernel_rfl), hE19, hS9, ((setx_len hxz1_4o13_4).symm.trans (setx_len hxz1_4o15_4).symm)⟩
 rintro k28 _ w21 ⟨l25, x26, x27, hq109, hL29, hS22, hn24⟩
 obtain ⟨u23, rfl⟩ := selfA_u hq109
 rcases k28 with _ | k28
 cases hL29
 first | rw [zEq_L1] at hL29 | unfold zEq_L1 at hL29
 refine gx_block ?_
 obtain ⟨c34, hE35, hO36⟩ := bind_in hL29
 refine gx_cut (fun a w => ∃ (x33 : Int), selfA (fun u32 => ⟨((.slice A0 p0.length c0) :: (i6 p1) :: (i6 p2) :: (i6 p3) :: un 4 ((i6 0) :: (i6 x33) :: (i6 x27) :: (u23 11) :: (i6 p1) :: (u23 13) :: (i6 p3) :: (u23 15) :: (i6 p3) :: (pI p3 A0) :: (u6 xz1_4o6_1) :: (u23 19) :: (i6 p1) :: (pI p1 A0) :: (u6 xz1_4o10_1) :: (pI p1 A0) :: (pI p3 A0) :: (i6 p1) :: (i6 (iw (p1 + 1))) :: (i6 p2) :: (i6 (iw (p2 - 1))) :: dd u32 29 17 (dd u23 46 37 (undef :: [])))).toArray, []⟩) a ∧ x33 = c34 ∧ St (foots [rowE .u16 31 A0 c0 p0]) w0 w [rowE .u16 31 A0 c0 l25]) ?_ ?_
 refine gx_block (gx_loop (fun k a w => ∃ (x40 : Int), selfA (fun u39 => ⟨((.slice A0 p0.length c0) :: (i6 p1) :: (i6 p2) :: (i6 p3) :: un 4 ((i6 0) :: (i6 x40) :: (i6 x27) :: (u23 11) :: (i6 p1) :: (u23 13) :: (i6 p3) :: (u23 15) :: (i6 p3) :: (pI p3 A0) :: (u6 xz1_4o6_1) :: (u23 19) :: (i6 p1) :: (pI p1 A0) :: (u6 xz1_4o10_1) :: (pI p1 A0) :: (pI p3 A0) :: (i6 p1) :: (i6 (iw (p1 + 1))) :: (i6 p2) :: (i6 (iw (p2 - 1))) :: dd u39 29 17 (dd u23 46 37 (undef :: [])))).toArray, []⟩) a ∧ zEq_L2 N p1 l25 x27 k x40 = some c34 ∧ St (foots [rowE .u16 31 A0 c0 p0]) w0 w [rowE .u16 31 A0 c0 l25]) N ?_ ?_)
 exact ⟨x26, selfA_i (by kernel_rfl), hE35, hS22⟩
 rintro k41 _ w37 ⟨x40, hq60, hL42, hS38⟩
 obtain ⟨u39, rfl⟩ := selfA_u hq60
 rcases k41 with _ | k41
 cases hL42
 first | rw [zEq_L2] at hL42 | unfold zEq_L2 at hL42
 refine gx_seq (fun K43 hK44 => gx_seq (fun K45 hK46 => gdst (fun w => St (foots [rowE .u16 31 A0 c0 p0]) w0 w [rowE .u16 31 A0 c0 l25]) 15 ?_))
 have hS48 := hS38.drew
 generalize w37.drew = w47 at hS48 ⊢
 refine gv1 0 29 (i6 x40) rfl hS48 (gv1 1 30 (i6 x27) rfl hS48 ?_)
 rcases if_in hL42 with ⟨h49, hL42⟩ | ⟨h49, hL42⟩
 refine gu1 2 31 (.bool true) rfl hS48 (rbT h49) (gv1 3 32 (.bool true) rfl hS48 (gv1 4 33 (.slice A0 p0.length c0) rfl hS48 (gv1 5 34 (i6 p1) rfl hS48 ?_)))
 obtain ⟨x50, hx51, hL42⟩ := bind_in hL42
 refine gu1 6 35 (pI p1 A0) rfl hS48 (fun w hSw => riy 31 .i64 hx51 hn24 (((hS48.row 0 rfl).1))) (gu1 7 36 (u6 x50) rfl hS48 (fun w hSw => rlx (hSw.row 0 rfl).1 hx51) (gv1 8 37 (.slice A0 p0.length c0) rfl hS48 (gv1 9 38 (i6 x40) rfl hS48 ?_)))
 obtain ⟨x52, hx53, hL42⟩ := bind_in hL42
 refine gu1 10 39 (pI x40 A0) rfl hS48 (fun w hSw => riy 31 .i64 hx53 hn24 (((hS48.row 0 rfl).1))) (gu1 11 40 (u6 x52) rfl hS48 (fun w hSw => rlx (hSw.row 0 rfl).1 hx53) ?_)
 have hP54 : St _ _ w47 ([] ++ [rowE .u16 31 A0 c0 l25]) := hS48
 obtain ⟨b56, hc55, hL42⟩ := bind_in hL42
 try dsimp only at hL42
 refine gdC 12 ⟨some 41, _, _, _, _, _⟩ _ rfl (by kernel_rfl) (zLess_ok N x50 x52 _ hc55 w47 ) ?_
 rintro _ w57 ⟨rfl, hT59⟩
 have hS58 : St _ _ w57 [rowE .u16 31 A0 c0 l25] := hS48.take _ hT59
 refine ⟨hS58, ?_⟩
 rcases b56 with _ | _
 try dsimp only at hL42
 refine gv1 13 42 (.bool true) rfl hS58 (gv1 14 43 (.bool true) rfl hS58 (gd_done (by kernel_rfl) (gx_thenN (hK46 _ _ (gx_yes (by kernel_rfl) (gx_pass (gx_thenN ?_)))))))
 refine hK44 _ _ (gx_block (gx_region (gx_k (i6 x40) w57 (gx_k (i6 (iw (x40 + 1))) w57 (gx_k (i6 (iw (x40 + 1))) w57 (gx_nil (gx_blkN (gx_thenN ?_))))))))
 exact ⟨k41, Nat.lt_succ_self k41, (iw (x40 + 1)), selfA_i (by kernel_rfl), hL42, hS58⟩
 try dsimp only at hL42
 refine gv1 13 42 (.bool false) rfl hS58 (gv1 14 43 (.bool false) rfl hS58 (gd_done (by kernel_rfl) (gx_thenN (hK46 _ _ (gx_no (by kernel_rfl) (gx_exit (gx_thenE ?_)))))))
 refine gx_thenE (gx_blkE (gx_thenN ?_))
 exact ⟨x40, selfA_i (by kernel_rfl), (sj hL42), hS58⟩
 refine gu1 2 31 (.bool false) rfl hS48 (rbF h49) (gv1 3 32 (.bool false) rfl hS48 (gz1 4 33 rfl hS48 (gz1 5 34 rfl hS48 (gz1 6 35 rfl hS48 (gz1 7 36 rfl hS48 (gz1 8 37 rfl hS48 (gz1 9 38 rfl hS48 ?_)))))))
 refine gz1 10 39 rfl hS48 (gz1 11 40 rfl hS48 (gz1 12 41 rfl hS48 (gz1 13 42 rfl hS48 (gv1 14 43 (.bool false) rfl hS48 (gd_done (by kernel_rfl) (gx_thenN (hK46 _ _ ?_)))))))
 refine gx_no (by kernel_rfl) (gx_exit (gx_thenE (gx_thenE (gx_blkE (gx_thenN ?_)))))
 exact ⟨x40, selfA_i (by kernel_rfl), (sj hL42), hS48⟩
 rintro _ w30 ⟨x33, hq108, rfl, hS31⟩
 obtain ⟨u32, rfl⟩ := selfA_u hq108
 try dsimp only at hO36
 obtain ⟨c65, hE66, hO67⟩ := bind_in hO36
 refine gx_cut (fun a w => ∃ (x64 : Int), selfA (fun u63 => ⟨((.slice A0 p0.length c0) :: (i6 p1) :: (i6 p2) :: (i6 p3) :: un 4 ((i6 0) :: (i6 x33) :: (i6 x64) :: (u23 11) :: (i6 p1) :: (u23 13) :: (i6 p3) :: (u23 15) :: (i6 p3) :: (pI p3 A0) :: (u6 xz1_4o6_1) :: (u23 19) :: (i6 p1) :: (pI p1 A0) :: (u6 xz1_4o10_1) :: (pI p1 A0) :: (pI p3 A0) :: (i6 p1) :: (i6 (iw (p1 + 1))) :: (i6 p2) :: (i6 (iw (p2 - 1))) :: dd u32 29 17 (dd u63 46 16 (dd u23 62 21 (undef :: []))))).toArray, []⟩) a ∧ x64 = c65 ∧ St (foots [rowE .u16 31 A0 c0 p0]) w0 w [rowE .u16 31 A0 c0 l25]) ?_ ?_
 refine gx_block (gx_loop (fun k a w => ∃ (x71 : Int), selfA (fun u70 => ⟨((.slice A0 p0.length c0) :: (i6 p1) :: (i6 p2) :: (i6 p3) :: un 4 ((i6 0) :: (i6 x33) :: (i6 x71) :: (u23 11) :: (i6 p1) :: (u23 13) :: (i6 p3) :: (u23 15) :: (i6 p3) :: (pI p3 A0) :: (u6 xz1_4o6_1) :: (u23 19) :: (i6 p1) :: (pI p1 A0) :: (u6 xz1_4o10_1) :: (pI p1 A0) :: (pI p3 A0) :: (i6 p1) :: (i6 (iw (p1 + 1))) :: (i6 p2) :: (i6 (iw (p2 - 1))) :: dd u32 29 17 (dd u70 46 16 (dd u23 62 21 (undef :: []))))).toArray, []⟩) a ∧ zEq_L3 N p1 l25 x33 k x71 = some c65 ∧ St (foots [rowE .u16 31 A0 c0 p0]) w0 w [rowE .u16 31 A0 c0 l25]) N ?_ ?_)
 exact ⟨x27, selfA_i (by kernel_rfl), hE66, hS31⟩
 rintro k72 _ w68 ⟨x71, hq91, hL73, hS69⟩
 obtain ⟨u70, rfl⟩ := selfA_u hq91
 rcases k72 with _ | k72
 cases hL73
 first | rw [zEq_L3] at hL73 | unfold zEq_L3 at hL73
 refine gx_seq (fun K74 hK75 => gx_seq (fun K76 hK77 => gdst (fun w => St (foots [rowE .u16 31 A0 c0 p0]) w0 w [rowE .u16 31 A0 c0 l25]) 14 ?_))
 have hS79 := hS69.drew
 generalize w68.drew = w78 at hS79 ⊢
 refine gv1 0 46 (i6 x33) rfl hS79 (gv1 1 47 (i6 x71) rfl hS79 ?_)
 rcases if_in hL73 with ⟨h80, hL73⟩ | ⟨h80, hL73⟩
 refine gu1 2 48 (.bool true) rfl hS79 (rbT h80) (gv1 3 49 (.bool true) rfl hS79 (gv1 4 50 (.slice A0 p0.length c0) rfl hS79 (gv1 5 51 (i6 p1) rfl hS79 ?_)))
 obtain ⟨x81, hx82, hL73⟩ := bind_in hL73
 refine gu1 6 52 (pI p1 A0) rfl hS79 (fun w hSw => riy 31 .i64 hx82 hn24 (((hS79.row 0 rfl).1))) (gu1 7 53 (u6 x81) rfl hS79 (fun w hSw => rlx (hSw.row 0 rfl).1 hx82) (gv1 8 54 (.slice A0 p0.length c0) rfl hS79 (gv1 9 55 (i6 x71) rfl hS79 ?_)))
 obtain ⟨x83, hx84, hL73⟩ := bind_in hL73
 refine gu1 10 56 (pI x71 A0) rfl hS79 (fun w hSw => riy 31 .i64 hx84 hn24 (((hS79.row 0 rfl).1))) (gu1 11 57 (u6 x83) rfl hS79 (fun w hSw => rlx (hSw.row 0 rfl).1 hx84) ?_)
 have hP85 : St _ _ w78 ([] ++ [rowE .u16 31 A0 c0 l25]) := hS79
 obtain ⟨b87, hc86, hL73⟩ := bind_in hL73
 try dsimp only at hL73
 refine gdC 12 ⟨some 58, _, _, _, _, _⟩ _ rfl (by kernel_rfl) (zLess_ok N x81 x83 _ hc86 w78 ) ?_
 rintro _ w88 ⟨rfl, hT90⟩
 have hS89 : St _ _ w88 [rowE .u16 31 A0 c0 l25] := hS79.take _ hT90
 refine ⟨hS89, gv1 13 59 (.bool b87) rfl hS89 (gd_done (by kernel_rfl) (gx_thenN (hK77 _ _ ?_)))⟩
 rcases b87 with _ | _
 try dsimp only at hL73
 refine gx_no (by kernel_rfl) (gx_exit (gx_thenE (gx_thenE (gx_blkE (gx_thenN ?_)))))
 exact ⟨x71, selfA_i (by kernel_rfl), (sj hL73), hS89⟩
 try dsimp only at hL73
 refine gx_yes (by kernel_rfl) (gx_pass (gx_thenN (hK75 _ _ (gx_block (gx_region (gx_k (i6 x71) w88 (gx_k (i6 (iw (x71 - 1))) w88 (gx_k (i6 (iw (x71 - 1))) w88 (gx_nil ?_)))))))))
 refine gx_blkN (gx_thenN ?_)
 exact ⟨k72, Nat.lt_succ_self k72, (iw (x71 - 1)), selfA_i (by kernel_rfl), hL73, hS89⟩
 refine gu1 2 48 (.bool false) rfl hS79 (rbF h80) (gv1 3 49 (.bool false) rfl hS79 (gz1 4 50 rfl hS79 (gz1 5 51 rfl hS79 (gz1 6 52 rfl hS79 (gz1 7 53 rfl hS79 (gz1 8 54 rfl hS79 (gz1 9 55 rfl hS79 ?_)))))))
 refine gz1 10 56 rfl hS79 (gz1 11 57 rfl hS79 (gz1 12 58 rfl hS79 (gv1 13 59 (.bool false) rfl hS79 (gd_done (by kernel_rfl) (gx_thenN (hK77 _ _ (gx_no (by kernel_rfl) ?_)))))))
 refine gx_exit (gx_thenE (gx_thenE (gx_blkE (gx_thenN ?_))))
 exact ⟨x71, selfA_i (by kernel_rfl), (sj hL73), hS79⟩
 rintro _ w61 ⟨x64, hq107, rfl, hS62⟩
 obtain ⟨u63, rfl⟩ := selfA_u hq107
 try dsimp only at hO67
 refine gx_seq (fun K92 hK93 => gx_seq (fun K94 hK95 => gx_region (gx_k (i6 x33) w61 (gx_k (i6 x64) w61 ?_))))
 rcases if_in hO67 with ⟨h96, hO67⟩ | ⟨h96, hO67⟩
 refine gx_v (.bool true) w61 (rbE (decide_eq_true h96)) (gx_nil (gx_thenN (hK95 _ _ (gx_yes (by kernel_rfl) (gx_exit (gx_thenE (gx_blkO (by decide) ?_)))))))
 refine gx_thenE (gx_blkE (gx_thenN ?_))
 exact ⟨l25, x33, selfA_i (by kernel_rfl), (sj hO67), hS62, hn24⟩
 refine gx_v (.bool false) w61 (rbE (decide_eq_false h96)) (gx_nil (gx_thenN (hK95 _ _ (gx_no (by kernel_rfl) (gx_pass (gx_thenN (hK93 _ _ ?_)))))))
 refine gx_seq (fun K97 hK98 => gdst (fun w => St (foots [rowE .u16 31 A0 c0 p0]) w0 w []) 16 ?_)
 have hS101 := hS62.drew
 generalize w61.drew = w100 at hS101 ⊢
 obtain ⟨xz8_98o6_1, hxz8_98o6_2, hO67⟩ := bind_in hO67
 obtain ⟨xz8_98o10_1, hxz8_98o10_2, hO67⟩ := bind_in hO67
 obtain ⟨xz8_98o12_1, hxz8_98o12_2, hO67⟩ := bind_in hO67
 obtain ⟨lz8_98o13_3, hxz8_98o13_4, hO67⟩ := bind_in hO67
 obtain ⟨xz8_98o14_1, hxz8_98o14_2, hO67⟩ := bind_in hO67
 obtain ⟨lz8_98o15_3, hxz8_98o15_4, hO67⟩ := bind_in hO67
 refine gd_share (X := Unit) (fun _ => ⟨((.slice A0 p0.length c0) :: (i6 p1) :: (i6 p2) :: (i6 p3) :: un 4 ((i6 0) :: (i6 x33) :: (i6 x64) :: (u23 11) :: (i6 p1) :: (u23 13) :: (i6 p3) :: (u23 15) :: (i6 p3) :: (pI p3 A0) :: (u6 xz1_4o6_1) :: (u23 19) :: (i6 p1) :: (pI p1 A0) :: (u6 xz1_4o10_1) :: (pI p1 A0) :: (pI p3 A0) :: (i6 p1) :: (i6 (iw (p1 + 1))) :: (i6 p2) :: (i6 (iw (p2 - 1))) :: dd u32 29 17 (dd u63 46 16 ((i6 x33) :: (i6 x64) :: (.bool false) :: (.slice A0 p0.length c0) :: (i6 x33) :: (.slice A0 p0.length c0) :: (i6 x64) :: (.slice A0 p0.length c0) :: (i6 x64) :: (pI x64 A0) :: (u6 xz8_98o6_1) :: (.slice A0 p0.length c0) :: (i6 x33) :: (pI x33 A0) :: (u6 xz8_98o10_1) :: (pI x33 A0) :: (pI x64 A0) :: dd u23 79 4 (undef :: []))))).toArray, []⟩) (fun _ w => St (foots [rowE .u16 31 A0 c0 p0]) w0 w [rowE .u16 31 A0 c0 lz8_98o15_3]) ?_ ?_
 rintro _ w102 hS103
 have hS103 : St _ _ w102 [rowE .u16 31 A0 c0 lz8_98o15_3] := hS103
 show WQ _ _ ⟨((.slice A0 p0.length c0) :: (i6 p1) :: (i6 p2) :: (i6 p3) :: un 4 ((i6 0) :: (i6 x33) :: (i6 x64) :: (u23 11) :: (i6 p1) :: (u23 13) :: (i6 p3) :: (u23 15) :: (i6 p3) :: (pI p3 A0) :: (u6 xz1_4o6_1) :: (u23 19) :: (i6 p1) :: (pI p1 A0) :: (u6 xz1_4o10_1) :: (pI p1 A0) :: (pI p3 A0) :: (i6 p1) :: (i6 (iw (p1 + 1))) :: (i6 p2) :: (i6 (iw (p2 - 1))) :: dd u32 29 17 (dd u63 46 16 ((i6 x33) :: (i6 x64) :: (.bool false) :: (.slice A0 p0.length c0) :: (i6 x33) :: (.slice A0 p0.length c0) :: (i6 x64) :: (.slice A0 p0.length c0) :: (i6 x64) :: (pI x64 A0) :: (u6 xz8_98o6_1) :: (.slice A0 p0.length c0) :: (i6 x33) :: (pI x33 A0) :: (u6 xz8_98o10_1) :: (pI x33 A0) :: (pI x64 A0) :: dd u23 79 4 (undef :: []))))).toArray, []⟩ _
 refine gx_thenN (hK98 _ _ (gx_seq (fun K104 hK105 => gx_region (gx_k (i6 x33) w102 (gx_k (i6 (iw (x33 + 1))) w102 (gx_k (i6 (iw (x33 + 1))) w102 (gx_nil (gx_thenN (hK105 _ _ ?_)))))))))
 refine gx_region (gx_k (i6 x64) w102 (gx_k (i6 (iw (x64 - 1))) w102 (gx_k (i6 (iw (x64 - 1))) w102 (gx_nil (gx_blkN (gx_thenN ?_))))))
 exact ⟨k28, Nat.lt_succ_self k28, lz8_98o15_3, (iw (x33 + 1)), (iw (x64 - 1)), selfA_i (by kernel_rfl), hO67, hS103, ((hn24.trans (setx_len hxz8_98o13_4).symm).trans (setx_len hxz8_98o15_4).symm)⟩
 intro K106
 refine gv1 0 65 (.slice A0 p0.length c0) rfl (hS101.pick [] rfl rfl) (gv1 1 66 (i6 x33) rfl (hS101.pick [] rfl rfl) (gv1 2 67 (.slice A0 p0.length c0) rfl (hS101.pick [] rfl rfl) (gv1 3 68 (i6 x64) rfl (hS101.pick [] rfl rfl) (gv1 4 69 (.slice A0 p0.length c0) rfl (hS101.pick [] rfl rfl) (gv1 5 70 (i6 x64) rfl (hS101.pick [] rfl rfl) (gu1 6 71 (pI x64 A0) rfl (hS101.pick [] rfl rfl) (fun w hSw => riy 31 .i64 hxz8_98o6_2 hn24 (((hS101.row 0 rfl).1))) (gv1 8 73 (.slice A0 p0.length c0) rfl (hS101.pick [] rfl rfl) ?_)))))))
 refine gv1 9 74 (i6 x33) rfl (hS101.pick [] rfl rfl) (gu1 10 75 (pI x33 A0) rfl (hS101.pick [] rfl rfl) (fun w hSw => riy 31 .i64 hxz8_98o10_2 hn24 (((hS101.row 0 rfl).1))) (gd_fork2 7 11 ⟨some 72, _, _, _, _, _⟩ ⟨some 76, _, _, _, _, _⟩ rfl rfl ?_ ?_))
 refine gfR 7 ⟨some 72, _, _, _, _, _⟩ (R := fun v w => v = u6 xz8_98o6_1 ∧ w100 = w) rfl ⟨_, _, rlx (hS101.row 0 rfl).1 hxz8_98o6_2, rfl, rfl⟩ ?_
 rintro _ _ ⟨rfl, rfl⟩
 refine ⟨(hS101.pick [] rfl rfl), gdR 11 ⟨some 76, _, _, _, _, _⟩ (R := fun v w => v = u6 xz8_98o10_1 ∧ w100 = w) rfl ⟨_, _, rlx (hS101.row 0 rfl).1 hxz8_98o10_2, rfl, rfl⟩ ?_⟩
 rintro _ _ ⟨rfl, rfl⟩
 refine ⟨(hS101.pick [] rfl rfl), gu1 12 77 (pI x33 A0) rfl (hS101.pick [] rfl rfl) (fun w hSw => riy 31 .i64 hxz8_98o12_2 hn24 (((hS101.row 0 rfl).1))) (gdS 13 ⟨none, _, _, _, _, _⟩ rfl (st_storeix rfl (by kernel_rfl) (by kernel_rfl) (fun _ => by kernel_rfl) hS101 0 rfl hxz8_98o13_4) ?_)⟩
 rintro wz8_98o13_1 hSz8_98o13_2
 have hSz8_98o13_2 : St _ _ wz8_98o13_1 [rowE .u16 31 A0 c0 lz8_98o13_3] := hSz8_98o13_2
 refine ⟨(hSz8_98o13_2.pick [] rfl rfl), gu1 14 78 (pI x64 A0) rfl (hSz8_98o13_2.pick [] rfl rfl) (fun w hSw => riy 31 .i64 hxz8_98o14_2 (hn24.trans (setx_len hxz8_98o13_4).symm) (((hSz8_98o13_2.row 0 rfl).1))) (gdSz 15 ⟨none, _, _, _, _, _⟩ rfl (st_storeix rfl (by kernel_rfl) (by kernel_rfl) (fun _ => by kernel_rfl) hSz8_98o13_2 0 rfl hxz8_98o15_4) ?_)⟩
 rintro wz8_98o15_1 hSz8_98o15_2
 have hSz8_98o15_2 : St _ _ wz8_98o15_1 [rowE .u16 31 A0 c0 lz8_98o15_3] := hSz8_98o15_2
 exact gd_meet (by kernel_rfl) (by kernel_rfl) (K106 () _ hSz8_98o15_2)
 refine gfR 11 ⟨some 76, _, _, _, _, _⟩ (R := fun v w => v = u6 xz8_98o10_1 ∧ w100 = w) rfl ⟨_, _, rlx (hS101.row 0 rfl).1 hxz8_98o10_2, rfl, rfl⟩ ?_
 rintro _ _ ⟨rfl, rfl⟩
 refine ⟨(hS101.pick [] rfl rfl), gdR 7 ⟨some 72, _, _, _, _, _⟩ (R := fun v w => v = u6 xz8_98o6_1 ∧ w100 = w) rfl ⟨_, _, rlx (hS101.row 0 rfl).1 hxz8_98o6_2, rfl, rfl⟩ ?_⟩
 rintro _ _ ⟨rfl, rfl⟩
 refine ⟨(hS101.pick [] rfl rfl), gu1 12 77 (pI x33 A0) rfl (hS101.pick [] rfl rfl) (fun w hSw => riy 31 .i64 hxz8_98o12_2 hn24 (((hS101.row 0 rfl).1))) (gdS 13 ⟨none, _, _, _, _, _⟩ rfl (st_storeix rfl (by kernel_rfl) (by kernel_rfl) (fun _ => by kernel_rfl) hS101 0 rfl hxz8_98o13_4) ?_)⟩
 rintro wz8_98o13_1 hSz8_98o13_2
 have hSz8_98o13_2 : St _ _ wz8_98o13_1 [rowE .u16 31 A0 c0 lz8_98o13_3] := hSz8_98o13_2
 refine ⟨(hSz8_98o13_2.pick [] rfl rfl), gu1 14 78 (pI x64 A0) rfl (hSz8_98o13_2.pick [] rfl rfl) (fun w hSw => riy 31 .i64 hxz8_98o14_2 (hn24.trans (setx_len hxz8_98o13_4).symm) (((hSz8_98o13_2.row 0 rfl).1))) (gdSz 15 ⟨none, _, _, _, _, _⟩ rfl (st_storeix rfl (by kernel_rfl) (by kernel_rfl) (fun _ => by kernel_rfl) hSz8_98o13_2 0 rfl hxz8_98o15_4) ?_)⟩
 rintro wz8_98o15_1 hSz8_98o15_2
 have hSz8_98o15_2 : St _ _ wz8_98o15_1 [rowE .u16 31 A0 c0 lz8_98o15_3] := hSz8_98o15_2
 exact gd_meet (by kernel_rfl) (by kernel_rfl) (K106 () _ hSz8_98o15_2)
 rintro _ w12 ⟨l16, x17, hq112, rfl, hS13, hn15⟩
 obtain ⟨u14, rfl⟩ := selfA_u hq112
 try dsimp only at hO20
 refine gx_seq (fun K110 hK111 => gx_region (gx_k (i6 x17) w12 (gx_k (i6 x17) w12 (gx_nil (gx_thenN (hK111 _ _ (gx_ret ?_)))))))
 obtain rfl := sj hO20
 exact gxF (i6 x17) ⟨_, rfl, rfl, hS13, (hn15).symm⟩
 intro K113
 refine gv1 0 11 (.slice A0 p0.length c0) rfl (hS7.pick [] rfl rfl) (gv1 1 12 (i6 p1) rfl (hS7.pick [] rfl rfl) (gv1 2 13 (.slice A0 p0.length c0) rfl (hS7.pick [] rfl rfl) (gv1 3 14 (i6 p3) rfl (hS7.pick [] rfl rfl) (gv1 4 15 (.slice A0 p0.length c0) rfl (hS7.pick [] rfl rfl) (gv1 5 16 (i6 p3) rfl (hS7.pick [] rfl rfl) (gu1 6 17 (pI p3 A0) rfl (hS7.pick [] rfl rfl) (fun w hSw => rix 31 .i64 hxz1_4o6_2 ((hS7.row 0 rfl).1)) (gv1 8 19 (.slice A0 p0.length c0) rfl (hS7.pick [] rfl rfl) ?_)))))))
 refine gv1 9 20 (i6 p1) rfl (hS7.pick [] rfl rfl) (gu1 10 21 (pI p1 A0) rfl (hS7.pick [] rfl rfl) (fun w hSw => rix 31 .i64 hxz1_4o10_2 ((hS7.row 0 rfl).1)) (gd_fork2 7 11 ⟨some 18, _, _, _, _, _⟩ ⟨some 22, _, _, _, _, _⟩ rfl rfl ?_ ?_))
 refine gfR 7 ⟨some 18, _, _, _, _, _⟩ (R := fun v w => v = u6 xz1_4o6_1 ∧ w6 = w) rfl ⟨_, _, rlx (hS7.row 0 rfl).1 hxz1_4o6_2, rfl, rfl⟩ ?_
 rintro _ _ ⟨rfl, rfl⟩
 refine ⟨(hS7.pick [] rfl rfl), gdR 11 ⟨some 22, _, _, _, _, _⟩ (R := fun v w => v = u6 xz1_4o10_1 ∧ w6 = w) rfl ⟨_, _, rlx (hS7.row 0 rfl).1 hxz1_4o10_2, rfl, rfl⟩ ?_⟩
 rintro _ _ ⟨rfl, rfl⟩
 refine ⟨(hS7.pick [] rfl rfl), gu1 12 23 (pI p1 A0) rfl (hS7.pick [] rfl rfl) (fun w hSw => rix 31 .i64 hxz1_4o12_2 ((hS7.row 0 rfl).1)) (gdS 13 ⟨none, _, _, _, _, _⟩ rfl (st_storeix rfl (by kernel_rfl) (by kernel_rfl) (fun _ => by kernel_rfl) hS7 0 rfl hxz1_4o13_4) ?_)⟩
 rintro wz1_4o13_1 hSz1_4o13_2
 have hSz1_4o13_2 : St _ _ wz1_4o13_1 [rowE .u16 31 A0 c0 lz1_4o13_3] := hSz1_4o13_2
 refine ⟨(hSz1_4o13_2.pick [] rfl rfl), gu1 14 24 (pI p3 A0) rfl (hSz1_4o13_2.pick [] rfl rfl) (fun w hSw => run_ixaddr (E := 31) (s := 1) (k := .i64) (c := c0) rfl (by kernel_rfl) (by kernel_rfl) (by kernel_rfl) (fun _ => by kernel_rfl) (ix_in hxz1_4o14_2).1 (lt_len (setx_len hxz1_4o13_4).symm (ix_in hxz1_4o14_2).2.1) (nil_len (setx_len hxz1_4o13_4).symm (num_nil (hSz1_4o13_2.row 0 rfl).1))) (gdSz 15 ⟨none, _, _, _, _, _⟩ rfl (st_storeix rfl (by kernel_rfl) (by kernel_rfl) (fun _ => by kernel_rfl) hSz1_4o13_2 0 rfl hxz1_4o15_4) ?_)⟩
 rintro wz1_4o15_1 hSz1_4o15_2
 have hSz1_4o15_2 : St _ _ wz1_4o15_1 [rowE .u16 31 A0 c0 lz1_4o15_3] := hSz1_4o15_2
 exact gd_meet (by kernel_rfl) (by kernel_rfl) (K113 () _ hSz1_4o15_2)
 refine gfR 11 ⟨some 22, _, _, _, _, _⟩ (R := fun v w => v = u6 xz1_4o10_1 ∧ w6 = w) rfl ⟨_, _, rlx (hS7.row 0 rfl).1 hxz1_4o10_2, rfl, rfl⟩ ?_
 rintro _ _ ⟨rfl, rfl⟩
 refine ⟨(hS7.pick [] rfl rfl), gdR 7 ⟨some 18, _, _, _, _, _⟩ (R := fun v w => v = u6 xz1_4o6_1 ∧ w6 = w) rfl ⟨_, _, rlx (hS7.row 0 rfl).1 hxz1_4o6_2, rfl, rfl⟩ ?_⟩
 rintro _ _ ⟨rfl, rfl⟩
 refine ⟨(hS7.pick [] rfl rfl), gu1 12 23 (pI p1 A0) rfl (hS7.pick [] rfl rfl) (fun w hSw => rix 31 .i64 hxz1_4o12_2 ((hS7.row 0 rfl).1)) (gdS 13 ⟨none, _, _, _, _, _⟩ rfl (st_storeix rfl (by kernel_rfl) (by kernel_rfl) (fun _ => by kernel_rfl) hS7 0 rfl hxz1_4o13_4) ?_)⟩
 rintro wz1_4o13_1 hSz1_4o13_2
 have hSz1_4o13_2 : St _ _ wz1_4o13_1 [rowE .u16 31 A0 c0 lz1_4o13_3] := hSz1_4o13_2
 refine ⟨(hSz1_4o13_2.pick [] rfl rfl), gu1 14 24 (pI p3 A0) rfl (hSz1_4o13_2.pick [] rfl rfl) (fun w hSw => run_ixaddr (E := 31) (s := 1) (k := .i64) (c := c0) rfl (by kernel_rfl) (by kernel_rfl) (by kernel_rfl) (fun _ => by kernel_rfl) (ix_in hxz1_4o14_2).1 (lt_len (setx_len hxz1_4o13_4).symm (ix_in hxz1_4o14_2).2.1) (nil_len (setx_len hxz1_4o13_4).symm (num_nil (hSz1_4o13_2.row 0 rfl).1))) (gdSz 15 ⟨none, _, _, _, _, _⟩ rfl (st_storeix rfl (by kernel_rfl) (by kernel_rfl) (fun _ => by kernel_rfl) hSz1_4o13_2 0 rfl hxz1_4o15_4) ?_)⟩
 rintro wz1_4o15_1 hSz1_4o15_2
 have hSz1_4o15_2 : St _ _ wz1_4o15_1 [rowE .u16 31 A0 c0 lz1_4o15_3] := hSz1_4o15_2
 exact gd_meet (by kernel_rfl) (by kernel_rfl) (K113 () _ hSz1_4o15_2)
def zCut_L1 (N : Nat) (p1 : Int) (p2 : Int) (lz1_4o15_3 : List Int) : Nat → Int → Option (Int)
 | 0, _ => none
 | k23+1, x22 => (if x22 ≤ (IntKind.i64.wrap (p2 - 1)) then ((ix lz1_4o15_3 x22).bind fun x32 => ((ix lz1_4o15_3 p1).bind fun x34 => ((zLess N x32 x34).bind fun b38 => (match b38 with | true => zCut_L1 N p1 p2 lz1_4o15_3 k23 (IntKind.i64.wrap (x22 + 1)) | false => some (x22))))) else some (x22))
def zCut_L2 (N : Nat) (p1 : Int) (lz1_4o15_3 : List Int) (x15 : Int) : Nat → Int → Option (Int)
 | 0, _ => none
 | k54+1, x53 => (if x15 ≤ x53 then ((ix lz1_4o15_3 x53).bind fun x63 => ((ix lz1_4o15_3 p1).bind fun x65 => ((zLess N x63 x65).bind fun b69 => (match b69 with | true => some (x53) | false => zCut_L2 N p1 lz1_4o15_3 x15 k54 (IntKind.i64.wrap (x53 - 1)))))) else some (x53))
def zCut_L4 (N : Nat) (p1 : Int) (l113 : List Int) (x115 : Int) : Nat → Int → Option (Int)
 | 0, _ => none
 | k129+1, x128 => (if x128 ≤ x115 then ((ix l113 x128).bind fun x138 => ((ix l113 p1).bind fun x140 => ((zLess N x138 x140).bind fun b144 => (match b144 with | true => zCut_L4 N p1 l113 x115 k129 (IntKind.i64.wrap (x128 + 1)) | false => some (x128))))) else some (x128))
def zCut_L5 (N : Nat) (p1 : Int) (l113 : List Int) (x121 : Int) : Nat → Int → Option (Int)
 | 0, _ => none
 | k160+1, x159 => (if x121 ≤ x159 then ((ix l113 x159).bind fun x169 => ((ix l113 p1).bind fun x171 => ((zLess N x169 x171).bind fun b175 => (match b175 with | true => some (x159) | false => zCut_L5 N p1 l113 x121 k160 (IntKind.i64.wrap (x159 - 1)))))) else some (x159))
def zCut_L3 (N : Nat) (p1 : Int) : Nat → (List Int) → Int → Int → Option (List Int × Int)
 | 0, _, _, _ => none
 | k116+1, l113, x114, x115 => ((zCut_L4 N p1 l113 x115 N x114 : Option (Int)).bind fun x121 => ((zCut_L5 N p1 l113 x121 N x115 : Option (Int)).bind fun x152 => (if x121 > x152 then some ((l113, x152)) else ((ix l113 x152).bind fun xz18_186o6_1 => ((ix l113 x121).bind fun xz18_186o10_1 => ((ix l113 x121).bind fun _xz18_186o12_1 => ((setx l113 x121 xz18_186o6_1).bind fun lz18_186o13_3 => ((ix lz18_186o13_3 x152).bind fun _xz18_186o14_1 => ((setx lz18_186o13_3 x152 xz18_186o10_1).bind fun lz18_186o15_3 => zCut_L3 N p1 k116 lz18_186o15_3 (IntKind.i64.wrap (x121 + 1)) (IntKind.i64.wrap (x152 - 1)))))))))))
def zCut (N : Nat) (p0 : List Int) (p1 : Int) (p2 : Int) (p3 : Int) : Option (Int × Bool × List Int) :=
 ((ix p0 p3).bind fun xz1_4o6_1 => ((ix p0 p1).bind fun xz1_4o10_1 => ((ix p0 p1).bind fun _xz1_4o12_1 => ((setx p0 p1 xz1_4o6_1).bind fun lz1_4o13_3 => ((ix lz1_4o13_3 p3).bind fun _xz1_4o14_1 => ((setx lz1_4o13_3 p3 xz1_4o10_1).bind fun lz1_4o15_3 => ((zCut_L1 N p1 p2 lz1_4o15_3 N (IntKind.i64.wrap (p1 + 1)) : Option (Int)).bind fun x15 => ((zCut_L2 N p1 lz1_4o15_3 x15 N (IntKind.i64.wrap (p2 - 1)) : Option (Int)).bind fun x46 => (if x15 > x46 then ((ix lz1_4o15_3 p1).bind fun xz8_80o6_1 => ((ix lz1_4o15_3 x46).bind fun xz8_80o10_1 => ((ix lz1_4o15_3 x46).bind fun _xz8_80o12_1 => ((setx lz1_4o15_3 x46 xz8_80o6_1).bind fun lz8_80o13_3 => ((ix lz8_80o13_3 p1).bind fun _xz8_80o14_1 => ((setx lz8_80o13_3 p1 xz8_80o10_1).bind fun lz8_80o15_3 => some (x46, true, lz8_80o15_3))))))) else ((ix lz1_4o15_3 x46).bind fun xz10_90o6_1 => ((ix lz1_4o15_3 x15).bind fun xz10_90o10_1 => ((ix lz1_4o15_3 x15).bind fun _xz10_90o12_1 => ((setx lz1_4o15_3 x15 xz10_90o6_1).bind fun lz10_90o13_3 => ((ix lz10_90o13_3 x46).bind fun _xz10_90o14_1 => ((setx lz10_90o13_3 x46 xz10_90o10_1).bind fun lz10_90o15_3 => ((zCut_L3 N p1 N lz10_90o15_3 (IntKind.i64.wrap (x15 + 1)) (IntKind.i64.wrap (x46 - 1)) : Option (List Int × Int)).bind fun (l104, x105) => ((ix l104 p1).bind fun xz21_199o6_1 => ((ix l104 x105).bind fun xz21_199o10_1 => ((ix l104 x105).bind fun _xz21_199o12_1 => ((setx l104 x105 xz21_199o6_1).bind fun lz21_199o13_3 => ((ix lz21_199o13_3 p1).bind fun _xz21_199o14_1 => ((setx lz21_199o13_3 p1 xz21_199o10_1).bind fun lz21_199o15_3 => some (x105, false, lz21_199o15_3)))))))))))))))))))))))
def zCut_R (p0 : List Int) (p1 : Int) (p2 : Int) (p3 : Int) (A0 : Option Addr) (c0 : Nat) (r : Int × Bool × List Int) (w0 : World) (v : Value) (w : World) : Prop := v = .tuple #[.int .i64 r.1, .bool r.2.1] ∧ St (foots [rowE .u16 31 A0 c0 p0]) w0 w [rowE .u16 31 A0 c0 r.2.2] ∧ r.2.2.length = p0.length
theorem zCut_ok (N : Nat) (p0 : List Int) (p1 : Int) (p2 : Int) (p3 : Int) (A0 : Option Addr) (c0 : Nat) (r : Int × Bool × List Int) (hF : zCut N p0 p1 p2 p3 = some r) (w0 : World) (hl : St (foots [rowE .u16 31 A0 c0 p0]) w0 w0 [rowE .u16 31 A0 c0 p0]) :
  Calls Try.prog 129 #[.slice A0 p0.length c0, .int .i64 p1, .int .i64 p2, .int .i64 p3] w0 fun e w => ∃ v, e = .returned v ∧ zCut_R p0 p1 p2 p3 A0 c0 r w0 v w := by
 have hS0 := hl
 unfold zCut at hF
 refine calls_of Try.func129 rfl ⟨((.slice A0 p0.length c0) :: (i6 p1) :: (i6 p2) :: (i6 p3) :: un 164 ([])).toArray, []⟩ (by kernel_rfl) (gx_seq (fun K1 hK2 => gx_region (gx_k (i6 0) w0 (gx_k (.bool false) w0 (gx_nil (gx_thenN (hK2 _ _ (gx_seq (fun K3 hK4 => ?_)))))))))
 refine gdst (fun w => St (foots [rowE .u16 31 A0 c0 p0]) w0 w []) 16 ?_
 have hS7 := hS0.drew
 generalize w0.drew = w6 at hS7 ⊢
 obtain ⟨xz1_4o6_1, hxz1_4o6_2, hF⟩ := bind_in hF
 obtain ⟨xz1_4o10_1, hxz1_4o10_2, hF⟩ := bind_in hF
 obtain ⟨xz1_4o12_1, hxz1_4o12_2, hF⟩ := bind_in hF
 obtain ⟨lz1_4o13_3, hxz1_4o13_4, hF⟩ := bind_in hF
 obtain ⟨xz1_4o14_1, hxz1_4o14_2, hF⟩ := bind_in hF
 obtain ⟨lz1_4o15_3, hxz1_4o15_4, hF⟩ := bind_in hF
 refine gd_share (X := Unit) (fun _ => ⟨((.slice A0 p0.length c0) :: (i6 p1) :: (i6 p2) :: (i6 p3) :: un 4 ((i6 0) :: (.bool false) :: undef :: undef :: (.slice A0 p0.length c0) :: (i6 p1) :: (.slice A0 p0.length c0) :: (i6 p3) :: (.slice A0 p0.length c0) :: (i6 p3) :: (pI p3 A0) :: (u6 xz1_4o6_1) :: (.slice A0 p0.length c0) :: (i6 p1) :: (pI p1 A0) :: (u6 xz1_4o10_1) :: (pI p1 A0) :: (pI p3 A0) :: un 142 ([]))).toArray, []⟩) (fun _ w => St (foots [rowE .u16 31 A0 c0 p0]) w0 w [rowE .u16 31 A0 c0 lz1_4o15_3]) ?_ ?_
 rintro _ w8 hS9
 have hS9 : St _ _ w8 [rowE .u16 31 A0 c0 lz1_4o15_3] := hS9
 show WQ _ _ ⟨((.slice A0 p0.length c0) :: (i6 p1) :: (i6 p2) :: (i6 p3) :: un 4 ((i6 0) :: (.bool false) :: undef :: undef :: (.slice A0 p0.length c0) :: (i6 p1) :: (.slice A0 p0.length c0) :: (i6 p3) :: (.slice A0 p0.length c0) :: (i6 p3) :: (pI p3 A0) :: (u6 xz1_4o6_1) :: (.slice A0 p0.length c0) :: (i6 p1) :: (pI p1 A0) :: (u6 xz1_4o10_1) :: (pI p1 A0) :: (pI p3 A0) :: un 142 ([]))).toArray, []⟩ _
 refine gx_thenN (hK4 _ _ (gx_seq (fun K10 hK11 => gx_region (gx_k (i6 p1) w8 (gx_k (i6 (iw (p1 + 1))) w8 (gx_k (i6 p2) w8 (gx_k (i6 (iw (p2 - 1))) w8 (gx_k (i6 (iw (p1 + 1))) w8 (gx_k (i6 (iw (p2 - 1))) w8 (gx_nil (gx_thenN (hK11 _ _ ?_))))))))))))
 obtain ⟨c16, hE17, hO18⟩ := bind_in hF
 refine gx_cut (fun a w => ∃ (x15 : Int), selfA (fun u14 => ⟨((.slice A0 p0.length c0) :: (i6 p1) :: (i6 p2) :: (i6 p3) :: un 4 ((i6 0) :: (.bool false) :: (i6 x15) :: (i6 (iw (p2 - 1))) :: (u14 12) :: (i6 p1) :: (u14 14) :: (i6 p3) :: (u14 16) :: (i6 p3) :: (pI p3 A0) :: (u6 xz1_4o6_1) :: (u14 20) :: (i6 p1) :: (pI p1 A0) :: (u6 xz1_4o10_1) :: (pI p1 A0) :: (pI p3 A0) :: (i6 p1) :: (i6 (iw (p1 + 1))) :: (i6 p2) :: (i6 (iw (p2 - 1))) :: dd u14 30 16 (un 122 ([])))).toArray, []⟩) a ∧ x15 = c16 ∧ St (foots [rowE .u16 31 A0 c0 p0]) w0 w [rowE .u16 31 A0 c0 lz1_4o15_3]) ?_ ?_
 refine gx_block (gx_loop (fun k a w => ∃ (x22 : Int), selfA (fun u21 => ⟨((.slice A0 p0.length c0) :: (i6 p1) :: (i6 p2) :: (i6 p3) :: un 4 ((i6 0) :: (.bool false) :: (i6 x22) :: (i6 (iw (p2 - 1))) :: (u21 12) :: (i6 p1) :: (u21 14) :: (i6 p3) :: (u21 16) :: (i6 p3) :: (pI p3 A0) :: (u6 xz1_4o6_1) :: (u21 20) :: (i6 p1) :: (pI p1 A0) :: (u6 xz1_4o10_1) :: (pI p1 A0) :: (pI p3 A0) :: (i6 p1) :: (i6 (iw (p1 + 1))) :: (i6 p2) :: (i6 (iw (p2 - 1))) :: dd u21 30 16 (un 122 ([])))).toArray, []⟩) a ∧ zCut_L1 N p1 p2 lz1_4o15_3 k x22 = some c16 ∧ St (foots [rowE .u16 31 A0 c0 p0]) w0 w [rowE .u16 31 A0 c0 lz1_4o15_3]) N ?_ ?_)
 exact ⟨(iw (p1 + 1)), selfA_i (by kernel_rfl), hE17, hS9⟩
 rintro k23 _ w19 ⟨x22, hq42, hL24, hS20⟩
 obtain ⟨u21, rfl⟩ := selfA_u hq42
 rcases k23 with _ | k23
 cases hL24
 first | rw [zCut_L1] at hL24 | unfold zCut_L1 at hL24
 refine gx_seq (fun K25 hK26 => gx_seq (fun K27 hK28 => gdst (fun w => St (foots [rowE .u16 31 A0 c0 p0]) w0 w [rowE .u16 31 A0 c0 lz1_4o15_3]) 14 ?_))
 have hS30 := hS20.drew
 generalize w19.drew = w29 at hS30 ⊢
 refine gv1 0 30 (i6 x22) rfl hS30 (gv1 1 31 (i6 (iw (p2 - 1))) rfl hS30 ?_)
 rcases if_in hL24 with ⟨h31, hL24⟩ | ⟨h31, hL24⟩
 refine gu1 2 32 (.bool true) rfl hS30 (rbT h31) (gv1 3 33 (.bool true) rfl hS30 (gv1 4 34 (.slice A0 p0.length c0) rfl hS30 (gv1 5 35 (i6 x22) rfl hS30 ?_)))
 obtain ⟨x32, hx33, hL24⟩ := bind_in hL24
 refine gu1 6 36 (pI x22 A0) rfl hS30 (fun w hSw => riy 31 .i64 hx33 ((setx_len hxz1_4o13_4).symm.trans (setx_len hxz1_4o15_4).symm) (((hS30.row 0 rfl).1))) (gu1 7 37 (u6 x32) rfl hS30 (fun w hSw => rlx (hSw.row 0 rfl).1 hx33) (gv1 8 38 (.slice A0 p0.length c0) rfl hS30 (gv1 9 39 (i6 p1) rfl hS30 ?_)))
 obtain ⟨x34, hx35, hL24⟩ := bind_in hL24
 refine gu1 10 40 (pI p1 A0) rfl hS30 (fun w hSw => riy 31 .i64 hx35 ((setx_len hxz1_4o13_4).symm.trans (setx_len hxz1_4o15_4).symm) (((hS30.row 0 rfl).1))) (gu1 11 41 (u6 x34) rfl hS30 (fun w hSw => rlx (hSw.row 0 rfl).1 hx35) ?_)
 have hP36 : St _ _ w29 ([] ++ [rowE .u16 31 A0 c0 lz1_4o15_3]) := hS30
 obtain ⟨b38, hc37, hL24⟩ := bind_in hL24
 try dsimp only at hL24
 refine gdC 12 ⟨some 42, _, _, _, _, _⟩ _ rfl (by kernel_rfl) (zLess_ok N x32 x34 _ hc37 w29 ) ?_
 rintro _ w39 ⟨rfl, hT41⟩
 have hS40 : St _ _ w39 [rowE .u16 31 A0 c0 lz1_4o15_3] := hS30.take _ hT41
 refine ⟨hS40, gv1 13 43 (.bool b38) rfl hS40 (gd_done (by kernel_rfl) (gx_thenN (hK28 _ _ ?_)))⟩
 rcases b38 with _ | _
 try dsimp only at hL24
 refine gx_no (by kernel_rfl) (gx_exit (gx_thenE (gx_thenE (gx_blkE (gx_thenN ?_)))))
 exact ⟨x22, selfA_i (by kernel_rfl), (sj hL24), hS40⟩
 try dsimp only at hL24
 refine gx_yes (by kernel_rfl) (gx_pass (gx_thenN (hK26 _ _ (gx_block (gx_region (gx_k (i6 x22) w39 (gx_k (i6 (iw (x22 + 1))) w39 (gx_k (i6 (iw (x22 + 1))) w39 (gx_nil ?_)))))))))
 refine gx_blkN (gx_thenN ?_)
 exact ⟨k23, Nat.lt_succ_self k23, (iw (x22 + 1)), selfA_i (by kernel_rfl), hL24, hS40⟩
 refine gu1 2 32 (.bool false) rfl hS30 (rbF h31) (gv1 3 33 (.bool false) rfl hS30 (gz1 4 34 rfl hS30 (gz1 5 35 rfl hS30 (gz1 6 36 rfl hS30 (gz1 7 37 rfl hS30 (gz1 8 38 rfl hS30 (gz1 9 39 rfl hS30 ?_)))))))
 refine gz1 10 40 rfl hS30 (gz1 11 41 rfl hS30 (gz1 12 42 rfl hS30 (gv1 13 43 (.bool false) rfl hS30 (gd_done (by kernel_rfl) (gx_thenN (hK28 _ _ (gx_no (by kernel_rfl) ?_)))))))
 refine gx_exit (gx_thenE (gx_thenE (gx_blkE (gx_thenN ?_))))
 exact ⟨x22, selfA_i (by kernel_rfl), (sj hL24), hS30⟩
 rintro _ w12 ⟨x15, hq211, rfl, hS13⟩
 obtain ⟨u14, rfl⟩ := selfA_u hq211
 try dsimp only at hO18
 obtain ⟨c47, hE48, hO49⟩ := bind_in hO18
 refine gx_cut (fun a w => ∃ (x46 : Int), selfA (fun u45 => ⟨((.slice A0 p0.length c0) :: (i6 p1) :: (i6 p2) :: (i6 p3) :: un 4 ((i6 0) :: (.bool false) :: (i6 x15) :: (i6 x46) :: (u14 12) :: (i6 p1) :: (u14 14) :: (i6 p3) :: (u14 16) :: (i6 p3) :: (pI p3 A0) :: (u6 xz1_4o6_1) :: (u14 20) :: (i6 p1) :: (pI p1 A0) :: (u6 xz1_4o10_1) :: (pI p1 A0) :: (pI p3 A0) :: (i6 p1) :: (i6 (iw (p1 + 1))) :: (i6 p2) :: (i6 (iw (p2 - 1))) :: dd u14 30 16 (dd u45 46 17 (un 105 ([]))))).toArray, []⟩) a ∧ x46 = c47 ∧ St (foots [rowE .u16 31 A0 c0 p0]) w0 w [rowE .u16 31 A0 c0 lz1_4o15_3]) ?_ ?_
 refine gx_block (gx_loop (fun k a w => ∃ (x53 : Int), selfA (fun u52 => ⟨((.slice A0 p0.length c0) :: (i6 p1) :: (i6 p2) :: (i6 p3) :: un 4 ((i6 0) :: (.bool false) :: (i6 x15) :: (i6 x53) :: (u14 12) :: (i6 p1) :: (u14 14) :: (i6 p3) :: (u14 16) :: (i6 p3) :: (pI p3 A0) :: (u6 xz1_4o6_1) :: (u14 20) :: (i6 p1) :: (pI p1 A0) :: (u6 xz1_4o10_1) :: (pI p1 A0) :: (pI p3 A0) :: (i6 p1) :: (i6 (iw (p1 + 1))) :: (i6 p2) :: (i6 (iw (p2 - 1))) :: dd u14 30 16 (dd u52 46 17 (un 105 ([]))))).toArray, []⟩) a ∧ zCut_L2 N p1 lz1_4o15_3 x15 k x53 = some c47 ∧ St (foots [rowE .u16 31 A0 c0 p0]) w0 w [rowE .u16 31 A0 c0 lz1_4o15_3]) N ?_ ?_)
 exact ⟨(iw (p2 - 1)), selfA_i (by kernel_rfl), hE48, hS13⟩
 rintro k54 _ w50 ⟨x53, hq73, hL55, hS51⟩
 obtain ⟨u52, rfl⟩ := selfA_u hq73
 rcases k54 with _ | k54
 cases hL55
 first | rw [zCut_L2] at hL55 | unfold zCut_L2 at hL55
 refine gx_seq (fun K56 hK57 => gx_seq (fun K58 hK59 => gdst (fun w => St (foots [rowE .u16 31 A0 c0 p0]) w0 w [rowE .u16 31 A0 c0 lz1_4o15_3]) 15 ?_))
 have hS61 := hS51.drew
 generalize w50.drew = w60 at hS61 ⊢
 refine gv1 0 46 (i6 x15) rfl hS61 (gv1 1 47 (i6 x53) rfl hS61 ?_)
 rcases if_in hL55 with ⟨h62, hL55⟩ | ⟨h62, hL55⟩
 refine gu1 2 48 (.bool true) rfl hS61 (rbT h62) (gv1 3 49 (.bool true) rfl hS61 (gv1 4 50 (.slice A0 p0.length c0) rfl hS61 (gv1 5 51 (i6 x53) rfl hS61 ?_)))
 obtain ⟨x63, hx64, hL55⟩ := bind_in hL55
 refine gu1 6 52 (pI x53 A0) rfl hS61 (fun w hSw => riy 31 .i64 hx64 ((setx_len hxz1_4o13_4).symm.trans (setx_len hxz1_4o15_4).symm) (((hS61.row 0 rfl).1))) (gu1 7 53 (u6 x63) rfl hS61 (fun w hSw => rlx (hSw.row 0 rfl).1 hx64) (gv1 8 54 (.slice A0 p0.length c0) rfl hS61 (gv1 9 55 (i6 p1) rfl hS61 ?_)))
 obtain ⟨x65, hx66, hL55⟩ := bind_in hL55
 refine gu1 10 56 (pI p1 A0) rfl hS61 (fun w hSw => riy 31 .i64 hx66 ((setx_len hxz1_4o13_4).symm.trans (setx_len hxz1_4o15_4).symm) (((hS61.row 0 rfl).1))) (gu1 11 57 (u6 x65) rfl hS61 (fun w hSw => rlx (hSw.row 0 rfl).1 hx66) ?_)
 have hP67 : St _ _ w60 ([] ++ [rowE .u16 31 A0 c0 lz1_4o15_3]) := hS61
 obtain ⟨b69, hc68, hL55⟩ := bind_in hL55
 try dsimp only at hL55
 refine gdC 12 ⟨some 58, _, _, _, _, _⟩ _ rfl (by kernel_rfl) (zLess_ok N x63 x65 _ hc68 w60 ) ?_
 rintro _ w70 ⟨rfl, hT72⟩
 have hS71 : St _ _ w70 [rowE .u16 31 A0 c0 lz1_4o15_3] := hS61.take _ hT72
 refine ⟨hS71, ?_⟩
 rcases b69 with _ | _
 try dsimp only at hL55
 refine gv1 13 59 (.bool true) rfl hS71 (gv1 14 60 (.bool true) rfl hS71 (gd_done (by kernel_rfl) (gx_thenN (hK59 _ _ (gx_yes (by kernel_rfl) (gx_pass (gx_thenN ?_)))))))
 refine hK57 _ _ (gx_block (gx_region (gx_k (i6 x53) w70 (gx_k (i6 (iw (x53 - 1))) w70 (gx_k (i6 (iw (x53 - 1))) w70 (gx_nil (gx_blkN (gx_thenN ?_))))))))
 exact ⟨k54, Nat.lt_succ_self k54, (iw (x53 - 1)), selfA_i (by kernel_rfl), hL55, hS71⟩
 try dsimp only at hL55
 refine gv1 13 59 (.bool false) rfl hS71 (gv1 14 60 (.bool false) rfl hS71 (gd_done (by kernel_rfl) (gx_thenN (hK59 _ _ (gx_no (by kernel_rfl) (gx_exit (gx_thenE ?_)))))))
 refine gx_thenE (gx_blkE (gx_thenN ?_))
 exact ⟨x53, selfA_i (by kernel_rfl), (sj hL55), hS71⟩
 refine gu1 2 48 (.bool false) rfl hS61 (rbF h62) (gv1 3 49 (.bool false) rfl hS61 (gz1 4 50 rfl hS61 (gz1 5 51 rfl hS61 (gz1 6 52 rfl hS61 (gz1 7 53 rfl hS61 (gz1 8 54 rfl hS61 (gz1 9 55 rfl hS61 ?_)))))))
 refine gz1 10 56 rfl hS61 (gz1 11 57 rfl hS61 (gz1 12 58 rfl hS61 (gz1 13 59 rfl hS61 (gv1 14 60 (.bool false) rfl hS61 (gd_done (by kernel_rfl) (gx_thenN (hK59 _ _ ?_)))))))
 refine gx_no (by kernel_rfl) (gx_exit (gx_thenE (gx_thenE (gx_blkE (gx_thenN ?_)))))
 exact ⟨x53, selfA_i (by kernel_rfl), (sj hL55), hS61⟩
 rintro _ w43 ⟨x46, hq210, rfl, hS44⟩
 obtain ⟨u45, rfl⟩ := selfA_u hq210
 try dsimp only at hO49
 refine gx_seq (fun K74 hK75 => gx_seq (fun K76 hK77 => gx_region (gx_k (i6 x15) w43 (gx_k (i6 x46) w43 ?_))))
 rcases if_in hO49 with ⟨h78, hO49⟩ | ⟨h78, hO49⟩
 refine gx_v (.bool true) w43 (rbE (decide_eq_true h78)) (gx_nil (gx_thenN (hK77 _ _ (gx_yes (by kernel_rfl) (gx_seq (fun K79 hK80 => gdst (fun w => St (foots [rowE .u16 31 A0 c0 p0]) w0 w []) 16 ?_))))))
 have hS83 := hS44.drew
 generalize w43.drew = w82 at hS83 ⊢
 obtain ⟨xz8_80o6_1, hxz8_80o6_2, hO49⟩ := bind_in hO49
 obtain ⟨xz8_80o10_1, hxz8_80o10_2, hO49⟩ := bind_in hO49
 obtain ⟨xz8_80o12_1, hxz8_80o12_2, hO49⟩ := bind_in hO49
 obtain ⟨lz8_80o13_3, hxz8_80o13_4, hO49⟩ := bind_in hO49
 obtain ⟨xz8_80o14_1, hxz8_80o14_2, hO49⟩ := bind_in hO49
 obtain ⟨lz8_80o15_3, hxz8_80o15_4, hO49⟩ := bind_in hO49
 refine gd_share (X := Unit) (fun _ => ⟨((.slice A0 p0.length c0) :: (i6 p1) :: (i6 p2) :: (i6 p3) :: un 4 ((i6 0) :: (.bool false) :: (i6 x15) :: (i6 x46) :: (u14 12) :: (i6 p1) :: (u14 14) :: (i6 p3) :: (u14 16) :: (i6 p3) :: (pI p3 A0) :: (u6 xz1_4o6_1) :: (u14 20) :: (i6 p1) :: (pI p1 A0) :: (u6 xz1_4o10_1) :: (pI p1 A0) :: (pI p3 A0) :: (i6 p1) :: (i6 (iw (p1 + 1))) :: (i6 p2) :: (i6 (iw (p2 - 1))) :: dd u14 30 16 (dd u45 46 17 ((i6 x15) :: (i6 x46) :: (.bool true) :: (.slice A0 p0.length c0) :: (i6 x46) :: (.slice A0 p0.length c0) :: (i6 p1) :: (.slice A0 p0.length c0) :: (i6 p1) :: (pI p1 A0) :: (u6 xz8_80o6_1) :: (.slice A0 p0.length c0) :: (i6 x46) :: (pI x46 A0) :: (u6 xz8_80o10_1) :: (pI x46 A0) :: (pI p1 A0) :: un 88 ([]))))).toArray, []⟩) (fun _ w => St (foots [rowE .u16 31 A0 c0 p0]) w0 w [rowE .u16 31 A0 c0 lz8_80o15_3]) ?_ ?_
 rintro _ w84 hS85
 have hS85 : St _ _ w84 [rowE .u16 31 A0 c0 lz8_80o15_3] := hS85
 show WQ _ _ ⟨((.slice A0 p0.length c0) :: (i6 p1) :: (i6 p2) :: (i6 p3) :: un 4 ((i6 0) :: (.bool false) :: (i6 x15) :: (i6 x46) :: (u14 12) :: (i6 p1) :: (u14 14) :: (i6 p3) :: (u14 16) :: (i6 p3) :: (pI p3 A0) :: (u6 xz1_4o6_1) :: (u14 20) :: (i6 p1) :: (pI p1 A0) :: (u6 xz1_4o10_1) :: (pI p1 A0) :: (pI p3 A0) :: (i6 p1) :: (i6 (iw (p1 + 1))) :: (i6 p2) :: (i6 (iw (p2 - 1))) :: dd u14 30 16 (dd u45 46 17 ((i6 x15) :: (i6 x46) :: (.bool true) :: (.slice A0 p0.length c0) :: (i6 x46) :: (.slice A0 p0.length c0) :: (i6 p1) :: (.slice A0 p0.length c0) :: (i6 p1) :: (pI p1 A0) :: (u6 xz8_80o6_1) :: (.slice A0 p0.length c0) :: (i6 x46) :: (pI x46 A0) :: (u6 xz8_80o10_1) :: (pI x46 A0) :: (pI p1 A0) :: un 88 ([]))))).toArray, []⟩ _
 refine gx_thenN (hK80 _ _ (gx_seq (fun K86 hK87 => gx_region (gx_k (i6 x46) w84 (gx_k (i6 x46) w84 (gx_k (.bool true) w84 (gx_nil (gx_thenN (hK87 _ _ ?_)))))))))
 refine gx_ret (gx_thenR ?_)
 obtain rfl := sj hO49
 exact gxF (.tuple #[i6 x46, .bool true]) ⟨_, rfl, rfl, hS85, (((((setx_len hxz1_4o13_4).symm.trans (setx_len hxz1_4o15_4).symm).trans (setx_len hxz8_80o13_4).symm).trans (setx_len hxz8_80o15_4).symm)).symm⟩
 intro K88
 refine gv1 0 66 (.slice A0 p0.length c0) rfl (hS83.pick [] rfl rfl) (gv1 1 67 (i6 x46) rfl (hS83.pick [] rfl rfl) (gv1 2 68 (.slice A0 p0.length c0) rfl (hS83.pick [] rfl rfl) (gv1 3 69 (i6 p1) rfl (hS83.pick [] rfl rfl) (gv1 4 70 (.slice A0 p0.length c0) rfl (hS83.pick [] rfl rfl) (gv1 5 71 (i6 p1) rfl (hS83.pick [] rfl rfl) (gu1 6 72 (pI p1 A0) rfl (hS83.pick [] rfl rfl) (fun w hSw => riy 31 .i64 hxz8_80o6_2 ((setx_len hxz1_4o13_4).symm.trans (setx_len hxz1_4o15_4).symm) (((hS83.row 0 rfl).1))) (gv1 8 74 (.slice A0 p0.length c0) rfl (hS83.pick [] rfl rfl) ?_)))))))
 refine gv1 9 75 (i6 x46) rfl (hS83.pick [] rfl rfl) (gu1 10 76 (pI x46 A0) rfl (hS83.pick [] rfl rfl) (fun w hSw => riy 31 .i64 hxz8_80o10_2 ((setx_len hxz1_4o13_4).symm.trans (setx_len hxz1_4o15_4).symm) (((hS83.row 0 rfl).1))) (gd_fork2 7 11 ⟨some 73, _, _, _, _, _⟩ ⟨some 77, _, _, _, _, _⟩ rfl rfl ?_ ?_))
 refine gfR 7 ⟨some 73, _, _, _, _, _⟩ (R := fun v w => v = u6 xz8_80o6_1 ∧ w82 = w) rfl ⟨_, _, rlx (hS83.row 0 rfl).1 hxz8_80o6_2, rfl, rfl⟩ ?_
 rintro _ _ ⟨rfl, rfl⟩
 refine ⟨(hS83.pick [] rfl rfl), gdR 11 ⟨some 77, _, _, _, _, _⟩ (R := fun v w => v = u6 xz8_80o10_1 ∧ w82 = w) rfl ⟨_, _, rlx (hS83.row 0 rfl).1 hxz8_80o10_2, rfl, rfl⟩ ?_⟩
 rintro _ _ ⟨rfl, rfl⟩
 refine ⟨(hS83.pick [] rfl rfl), gu1 12 78 (pI x46 A0) rfl (hS83.pick [] rfl rfl) (fun w hSw => riy 31 .i64 hxz8_80o12_2 ((setx_len hxz1_4o13_4).symm.trans (setx_len hxz1_4o15_4).symm) (((hS83.row 0 rfl).1))) (gdS 13 ⟨none, _, _, _, _, _⟩ rfl (st_storeix rfl (by kernel_rfl) (by kernel_rfl) (fun _ => by kernel_rfl) hS83 0 rfl hxz8_80o13_4) ?_)⟩
 rintro wz8_80o13_1 hSz8_80o13_2
 have hSz8_80o13_2 : St _ _ wz8_80o13_1 [rowE .u16 31 A0 c0 lz8_80o13_3] := hSz8_80o13_2
 refine ⟨(hSz8_80o13_2.pick [] rfl rfl), gu1 14 79 (pI p1 A0) rfl (hSz8_80o13_2.pick [] rfl rfl) (fun w hSw => run_ixaddr (E := 31) (s := 1) (k := .i64) (c := c0) rfl (by kernel_rfl) (by kernel_rfl) (by kernel_rfl) (fun _ => by kernel_rfl) (ix_in hxz8_80o14_2).1 (lt_len (((setx_len hxz1_4o13_4).symm.trans (setx_len hxz1_4o15_4).symm).trans (setx_len hxz8_80o13_4).symm) (ix_in hxz8_80o14_2).2.1) (nil_len (((setx_len hxz1_4o13_4).symm.trans (setx_len hxz1_4o15_4).symm).trans (setx_len hxz8_80o13_4).symm) (num_nil (hSz8_80o13_2.row 0 rfl).1))) (gdSz 15 ⟨none, _, _, _, _, _⟩ rfl (st_storeix rfl (by kernel_rfl) (by kernel_rfl) (fun _ => by kernel_rfl) hSz8_80o13_2 0 rfl hxz8_80o15_4) ?_)⟩
 rintro wz8_80o15_1 hSz8_80o15_2
 have hSz8_80o15_2 : St _ _ wz8_80o15_1 [rowE .u16 31 A0 c0 lz8_80o15_3] := hSz8_80o15_2
 exact gd_meet (by kernel_rfl) (by kernel_rfl) (K88 () _ hSz8_80o15_2)
 refine gfR 11 ⟨some 77, _, _, _, _, _⟩ (R := fun v w => v = u6 xz8_80o10_1 ∧ w82 = w) rfl ⟨_, _, rlx (hS83.row 0 rfl).1 hxz8_80o10_2, rfl, rfl⟩ ?_
 rintro _ _ ⟨rfl, rfl⟩
 refine ⟨(hS83.pick [] rfl rfl), gdR 7 ⟨some 73, _, _, _, _, _⟩ (R := fun v w => v = u6 xz8_80o6_1 ∧ w82 = w) rfl ⟨_, _, rlx (hS83.row 0 rfl).1 hxz8_80o6_2, rfl, rfl⟩ ?_⟩
 rintro _ _ ⟨rfl, rfl⟩
 refine ⟨(hS83.pick [] rfl rfl), gu1 12 78 (pI x46 A0) rfl (hS83.pick [] rfl rfl) (fun w hSw => riy 31 .i64 hxz8_80o12_2 ((setx_len hxz1_4o13_4).symm.trans (setx_len hxz1_4o15_4).symm) (((hS83.row 0 rfl).1))) (gdS 13 ⟨none, _, _, _, _, _⟩ rfl (st_storeix rfl (by kernel_rfl) (by kernel_rfl) (fun _ => by kernel_rfl) hS83 0 rfl hxz8_80o13_4) ?_)⟩
 rintro wz8_80o13_1 hSz8_80o13_2
 have hSz8_80o13_2 : St _ _ wz8_80o13_1 [rowE .u16 31 A0 c0 lz8_80o13_3] := hSz8_80o13_2
 refine ⟨(hSz8_80o13_2.pick [] rfl rfl), gu1 14 79 (pI p1 A0) rfl (hSz8_80o13_2.pick [] rfl rfl) (fun w hSw => run_ixaddr (E := 31) (s := 1) (k := .i64) (c := c0) rfl (by kernel_rfl) (by kernel_rfl) (by kernel_rfl) (fun _ => by kernel_rfl) (ix_in hxz8_80o14_2).1 (lt_len (((setx_len hxz1_4o13_4).symm.trans (setx_len hxz1_4o15_4).symm).trans (setx_len hxz8_80o13_4).symm) (ix_in hxz8_80o14_2).2.1) (nil_len (((setx_len hxz1_4o13_4).symm.trans (setx_len hxz1_4o15_4).symm).trans (setx_len hxz8_80o13_4).symm) (num_nil (hSz8_80o13_2.row 0 rfl).1))) (gdSz 15 ⟨none, _, _, _, _, _⟩ rfl (st_storeix rfl (by kernel_rfl) (by kernel_rfl) (fun _ => by kernel_rfl) hSz8_80o13_2 0 rfl hxz8_80o15_4) ?_)⟩
 rintro wz8_80o15_1 hSz8_80o15_2
 have hSz8_80o15_2 : St _ _ wz8_80o15_1 [rowE .u16 31 A0 c0 lz8_80o15_3] := hSz8_80o15_2
 exact gd_meet (by kernel_rfl) (by kernel_rfl) (K88 () _ hSz8_80o15_2)
 refine gx_v (.bool false) w43 (rbE (decide_eq_false h78)) (gx_nil (gx_thenN (hK77 _ _ (gx_no (by kernel_rfl) (gx_pass (gx_thenN (hK75 _ _ ?_)))))))
 refine gx_seq (fun K89 hK90 => gdst (fun w => St (foots [rowE .u16 31 A0 c0 p0]) w0 w []) 16 ?_)
 have hS93 := hS44.drew
 generalize w43.drew = w92 at hS93 ⊢
 obtain ⟨xz10_90o6_1, hxz10_90o6_2, hO49⟩ := bind_in hO49
 obtain ⟨xz10_90o10_1, hxz10_90o10_2, hO49⟩ := bind_in hO49
 obtain ⟨xz10_90o12_1, hxz10_90o12_2, hO49⟩ := bind_in hO49
 obtain ⟨lz10_90o13_3, hxz10_90o13_4, hO49⟩ := bind_in hO49
 obtain ⟨xz10_90o14_1, hxz10_90o14_2, hO49⟩ := bind_in hO49
 obtain ⟨lz10_90o15_3, hxz10_90o15_4, hO49⟩ := bind_in hO49
 refine gd_share (X := Unit) (fun _ => ⟨((.slice A0 p0.length c0) :: (i6 p1) :: (i6 p2) :: (i6 p3) :: un 4 ((i6 0) :: (.bool false) :: (i6 x15) :: (i6 x46) :: (u14 12) :: (i6 p1) :: (u14 14) :: (i6 p3) :: (u14 16) :: (i6 p3) :: (pI p3 A0) :: (u6 xz1_4o6_1) :: (u14 20) :: (i6 p1) :: (pI p1 A0) :: (u6 xz1_4o10_1) :: (pI p1 A0) :: (pI p3 A0) :: (i6 p1) :: (i6 (iw (p1 + 1))) :: (i6 p2) :: (i6 (iw (p2 - 1))) :: dd u14 30 16 (dd u45 46 17 ((i6 x15) :: (i6 x46) :: (.bool false) :: un 15 ((.slice A0 p0.length c0) :: (i6 x15) :: (.slice A0 p0.length c0) :: (i6 x46) :: (.slice A0 p0.length c0) :: (i6 x46) :: (pI x46 A0) :: (u6 xz10_90o6_1) :: (.slice A0 p0.length c0) :: (i6 x15) :: (pI x15 A0) :: (u6 xz10_90o10_1) :: (pI x15 A0) :: (pI x46 A0) :: un 73 ([])))))).toArray, []⟩) (fun _ w => St (foots [rowE .u16 31 A0 c0 p0]) w0 w [rowE .u16 31 A0 c0 lz10_90o15_3]) ?_ ?_
 rintro _ w94 hS95
 have hS95 : St _ _ w94 [rowE .u16 31 A0 c0 lz10_90o15_3] := hS95
 show WQ _ _ ⟨((.slice A0 p0.length c0) :: (i6 p1) :: (i6 p2) :: (i6 p3) :: un 4 ((i6 0) :: (.bool false) :: (i6 x15) :: (i6 x46) :: (u14 12) :: (i6 p1) :: (u14 14) :: (i6 p3) :: (u14 16) :: (i6 p3) :: (pI p3 A0) :: (u6 xz1_4o6_1) :: (u14 20) :: (i6 p1) :: (pI p1 A0) :: (u6 xz1_4o10_1) :: (pI p1 A0) :: (pI p3 A0) :: (i6 p1) :: (i6 (iw (p1 + 1))) :: (i6 p2) :: (i6 (iw (p2 - 1))) :: dd u14 30 16 (dd u45 46 17 ((i6 x15) :: (i6 x46) :: (.bool false) :: un 15 ((.slice A0 p0.length c0) :: (i6 x15) :: (.slice A0 p0.length c0) :: (i6 x46) :: (.slice A0 p0.length c0) :: (i6 x46) :: (pI x46 A0) :: (u6 xz10_90o6_1) :: (.slice A0 p0.length c0) :: (i6 x15) :: (pI x15 A0) :: (u6 xz10_90o10_1) :: (pI x15 A0) :: (pI x46 A0) :: un 73 ([])))))).toArray, []⟩ _
 refine gx_thenN (hK90 _ _ (gx_seq (fun K96 hK97 => gx_region (gx_k (i6 x15) w94 (gx_k (i6 (iw (x15 + 1))) w94 (gx_k (i6 (iw (x15 + 1))) w94 (gx_nil (gx_thenN (hK97 _ _ ?_)))))))))
 refine gx_seq (fun K98 hK99 => gx_region (gx_k (i6 x46) w94 (gx_k (i6 (iw (x46 - 1))) w94 (gx_k (i6 (iw (x46 - 1))) w94 (gx_nil (gx_thenN (hK99 _ _ ?_)))))))
 obtain ⟨c106, hE107, hO108⟩ := bind_in hO49
 refine gx_cut (fun a w => ∃ (l104 : List Int) (x105 : Int), selfA (fun u102 => ⟨((.slice A0 p0.length c0) :: (i6 p1) :: (i6 p2) :: (i6 p3) :: un 4 ((i6 0) :: (.bool false) :: (u102 10) :: (i6 x105) :: (u14 12) :: (i6 p1) :: (u14 14) :: (i6 p3) :: (u14 16) :: (i6 p3) :: (pI p3 A0) :: (u6 xz1_4o6_1) :: (u14 20) :: (i6 p1) :: (pI p1 A0) :: (u6 xz1_4o10_1) :: (pI p1 A0) :: (pI p3 A0) :: (i6 p1) :: (i6 (iw (p1 + 1))) :: (i6 p2) :: (i6 (iw (p2 - 1))) :: dd u14 30 16 (dd u45 46 17 ((i6 x15) :: (i6 x46) :: (.bool false) :: un 15 ((u102 81) :: (i6 x15) :: (u102 83) :: (i6 x46) :: (u102 85) :: (i6 x46) :: (pI x46 A0) :: (u6 xz10_90o6_1) :: (u102 89) :: (i6 x15) :: (pI x15 A0) :: (u6 xz10_90o10_1) :: (pI x15 A0) :: (pI x46 A0) :: (i6 x15) :: (i6 (iw (x15 + 1))) :: (i6 x46) :: (i6 (iw (x46 - 1))) :: dd u102 99 54 (un 15 ([]))))))).toArray, []⟩) a ∧ (l104, x105) = c106 ∧ St (foots [rowE .u16 31 A0 c0 p0]) w0 w [rowE .u16 31 A0 c0 l104] ∧ p0.length = l104.length) ?_ ?_
 refine gx_block (gx_loop (fun k a w => ∃ (l113 : List Int) (x114 : Int) (x115 : Int), selfA (fun u111 => ⟨((.slice A0 p0.length c0) :: (i6 p1) :: (i6 p2) :: (i6 p3) :: un 4 ((i6 0) :: (.bool false) :: (i6 x114) :: (i6 x115) :: (u14 12) :: (i6 p1) :: (u14 14) :: (i6 p3) :: (u14 16) :: (i6 p3) :: (pI p3 A0) :: (u6 xz1_4o6_1) :: (u14 20) :: (i6 p1) :: (pI p1 A0) :: (u6 xz1_4o10_1) :: (pI p1 A0) :: (pI p3 A0) :: (i6 p1) :: (i6 (iw (p1 + 1))) :: (i6 p2) :: (i6 (iw (p2 - 1))) :: dd u14 30 16 (dd u45 46 17 ((i6 x15) :: (i6 x46) :: (.bool false) :: un 15 ((u111 81) :: (i6 x15) :: (u111 83) :: (i6 x46) :: (u111 85) :: (i6 x46) :: (pI x46 A0) :: (u6 xz10_90o6_1) :: (u111 89) :: (i6 x15) :: (pI x15 A0) :: (u6 xz10_90o10_1) :: (pI x15 A0) :: (pI x46 A0) :: (i6 x15) :: (i6 (iw (x15 + 1))) :: (i6 x46) :: (i6 (iw (x46 - 1))) :: dd u111 99 54 (un 15 ([]))))))).toArray, []⟩) a ∧ zCut_L3 N p1 k l113 x114 x115 = some c106 ∧ St (foots [rowE .u16 31 A0 c0 p0]) w0 w [rowE .u16 31 A0 c0 l113] ∧ p0.length = l113.length) N ?_ ?_)
 exact ⟨lz10_90o15_3, (iw (x15 + 1)), (iw (x46 - 1)), selfA_i (by kernel_rfl), hE107, hS95, ((((setx_len hxz1_4o13_4).symm.trans (setx_len hxz1_4o15_4).symm).trans (setx_len hxz10_90o13_4).symm).trans (setx_len hxz10_90o15_4).symm)⟩
 rintro k116 _ w109 ⟨l113, x114, x115, hq197, hL117, hS110, hn112⟩
 obtain ⟨u111, rfl⟩ := selfA_u hq197
 rcases k116 with _ | k116
 cases hL117
 first | rw [zCut_L3] at hL117 | unfold zCut_L3 at hL117
 refine gx_block ?_
 obtain ⟨c122, hE123, hO124⟩ := bind_in hL117
 refine gx_cut (fun a w => ∃ (x121 : Int), selfA (fun u120 => ⟨((.slice A0 p0.length c0) :: (i6 p1) :: (i6 p2) :: (i6 p3) :: un 4 ((i6 0) :: (.bool false) :: (i6 x121) :: (i6 x115) :: (u14 12) :: (i6 p1) :: (u14 14) :: (i6 p3) :: (u14 16) :: (i6 p3) :: (pI p3 A0) :: (u6 xz1_4o6_1) :: (u14 20) :: (i6 p1) :: (pI p1 A0) :: (u6 xz1_4o10_1) :: (pI p1 A0) :: (pI p3 A0) :: (i6 p1) :: (i6 (iw (p1 + 1))) :: (i6 p2) :: (i6 (iw (p2 - 1))) :: dd u14 30 16 (dd u45 46 17 ((i6 x15) :: (i6 x46) :: (.bool false) :: un 15 ((u111 81) :: (i6 x15) :: (u111 83) :: (i6 x46) :: (u111 85) :: (i6 x46) :: (pI x46 A0) :: (u6 xz10_90o6_1) :: (u111 89) :: (i6 x15) :: (pI x15 A0) :: (u6 xz10_90o10_1) :: (pI x15 A0) :: (pI x46 A0) :: (i6 x15) :: (i6 (iw (x15 + 1))) :: (i6 x46) :: (i6 (iw (x46 - 1))) :: dd u120 99 16 (dd u111 115 38 (un 15 ([])))))))).toArray, []⟩) a ∧ x121 = c122 ∧ St (foots [rowE .u16 31 A0 c0 p0]) w0 w [rowE .u16 31 A0 c0 l113]) ?_ ?_
 refine gx_block (gx_loop (fun k a w => ∃ (x128 : Int), selfA (fun u127 => ⟨((.slice A0 p0.length c0) :: (i6 p1) :: (i6 p2) :: (i6 p3) :: un 4 ((i6 0) :: (.bool false) :: (i6 x128) :: (i6 x115) :: (u14 12) :: (i6 p1) :: (u14 14) :: (i6 p3) :: (u14 16) :: (i6 p3) :: (pI p3 A0) :: (u6 xz1_4o6_1) :: (u14 20) :: (i6 p1) :: (pI p1 A0) :: (u6 xz1_4o10_1) :: (pI p1 A0) :: (pI p3 A0) :: (i6 p1) :: (i6 (iw (p1 + 1))) :: (i6 p2) :: (i6 (iw (p2 - 1))) :: dd u14 30 16 (dd u45 46 17 ((i6 x15) :: (i6 x46) :: (.bool false) :: un 15 ((u111 81) :: (i6 x15) :: (u111 83) :: (i6 x46) :: (u111 85) :: (i6 x46) :: (pI x46 A0) :: (u6 xz10_90o6_1) :: (u111 89) :: (i6 x15) :: (pI x15 A0) :: (u6 xz10_90o10_1) :: (pI x15 A0) :: (pI x46 A0) :: (i6 x15) :: (i6 (iw (x15 + 1))) :: (i6 x46) :: (i6 (iw (x46 - 1))) :: dd u127 99 16 (dd u111 115 38 (un 15 ([])))))))).toArray, []⟩) a ∧ zCut_L4 N p1 l113 x115 k x128 = some c122 ∧ St (foots [rowE .u16 31 A0 c0 p0]) w0 w [rowE .u16 31 A0 c0 l113]) N ?_ ?_)
 exact ⟨x114, selfA_i (by kernel_rfl), hE123, hS110⟩
 rintro k129 _ w125 ⟨x128, hq148, hL130, hS126⟩
 obtain ⟨u127, rfl⟩ := selfA_u hq148
 rcases k129 with _ | k129
 cases hL130
 first | rw [zCut_L4] at hL130 | unfold zCut_L4 at hL130
 refine gx_seq (fun K131 hK132 => gx_seq (fun K133 hK134 => gdst (fun w => St (foots [rowE .u16 31 A0 c0 p0]) w0 w [rowE .u16 31 A0 c0 l113]) 14 ?_))
 have hS136 := hS126.drew
 generalize w125.drew = w135 at hS136 ⊢
 refine gv1 0 99 (i6 x128) rfl hS136 (gv1 1 100 (i6 x115) rfl hS136 ?_)
 rcases if_in hL130 with ⟨h137, hL130⟩ | ⟨h137, hL130⟩
 refine gu1 2 101 (.bool true) rfl hS136 (rbT h137) (gv1 3 102 (.bool true) rfl hS136 (gv1 4 103 (.slice A0 p0.length c0) rfl hS136 (gv1 5 104 (i6 x128) rfl hS136 ?_)))
 obtain ⟨x138, hx139, hL130⟩ := bind_in hL130
 refine gu1 6 105 (pI x128 A0) rfl hS136 (fun w hSw => riy 31 .i64 hx139 hn112 (((hS136.row 0 rfl).1))) (gu1 7 106 (u6 x138) rfl hS136 (fun w hSw => rlx (hSw.row 0 rfl).1 hx139) (gv1 8 107 (.slice A0 p0.length c0) rfl hS136 (gv1 9 108 (i6 p1) rfl hS136 ?_)))
 obtain ⟨x140, hx141, hL130⟩ := bind_in hL130
 refine gu1 10 109 (pI p1 A0) rfl hS136 (fun w hSw => riy 31 .i64 hx141 hn112 (((hS136.row 0 rfl).1))) (gu1 11 110 (u6 x140) rfl hS136 (fun w hSw => rlx (hSw.row 0 rfl).1 hx141) ?_)
 have hP142 : St _ _ w135 ([] ++ [rowE .u16 31 A0 c0 l113]) := hS136
 obtain ⟨b144, hc143, hL130⟩ := bind_in hL130
 try dsimp only at hL130
 refine gdC 12 ⟨some 111, _, _, _, _, _⟩ _ rfl (by kernel_rfl) (zLess_ok N x138 x140 _ hc143 w135 ) ?_
 rintro _ w145 ⟨rfl, hT147⟩
 have hS146 : St _ _ w145 [rowE .u16 31 A0 c0 l113] := hS136.take _ hT147
 refine ⟨hS146, gv1 13 112 (.bool b144) rfl hS146 (gd_done (by kernel_rfl) (gx_thenN (hK134 _ _ ?_)))⟩
 rcases b144 with _ | _
 try dsimp only at hL130
 refine gx_no (by kernel_rfl) (gx_exit (gx_thenE (gx_thenE (gx_blkE (gx_thenN ?_)))))
 exact ⟨x128, selfA_i (by kernel_rfl), (sj hL130), hS146⟩
 try dsimp only at hL130
 refine gx_yes (by kernel_rfl) (gx_pass (gx_thenN (hK132 _ _ (gx_block (gx_region (gx_k (i6 x128) w145 (gx_k (i6 (iw (x128 + 1))) w145 (gx_k (i6 (iw (x128 + 1))) w145 (gx_nil ?_)))))))))
 refine gx_blkN (gx_thenN ?_)
 exact ⟨k129, Nat.lt_succ_self k129, (iw (x128 + 1)), selfA_i (by kernel_rfl), hL130, hS146⟩
 refine gu1 2 101 (.bool false) rfl hS136 (rbF h137) (gv1 3 102 (.bool false) rfl hS136 (gz1 4 103 rfl hS136 (gz1 5 104 rfl hS136 (gz1 6 105 rfl hS136 (gz1 7 106 rfl hS136 (gz1 8 107 rfl hS136 (gz1 9 108 rfl hS136 ?_)))))))
 refine gz1 10 109 rfl hS136 (gz1 11 110 rfl hS136 (gz1 12 111 rfl hS136 (gv1 13 112 (.bool false) rfl hS136 (gd_done (by kernel_rfl) (gx_thenN (hK134 _ _ (gx_no (by kernel_rfl) ?_)))))))
 refine gx_exit (gx_thenE (gx_thenE (gx_blkE (gx_thenN ?_))))
 exact ⟨x128, selfA_i (by kernel_rfl), (sj hL130), hS136⟩
 rintro _ w118 ⟨x121, hq196, rfl, hS119⟩
 obtain ⟨u120, rfl⟩ := selfA_u hq196
 try dsimp only at hO124
 obtain ⟨c153, hE154, hO155⟩ := bind_in hO124
 refine gx_cut (fun a w => ∃ (x152 : Int), selfA (fun u151 => ⟨((.slice A0 p0.length c0) :: (i6 p1) :: (i6 p2) :: (i6 p3) :: un 4 ((i6 0) :: (.bool false) :: (i6 x121) :: (i6 x152) :: (u14 12) :: (i6 p1) :: (u14 14) :: (i6 p3) :: (u14 16) :: (i6 p3) :: (pI p3 A0) :: (u6 xz1_4o6_1) :: (u14 20) :: (i6 p1) :: (pI p1 A0) :: (u6 xz1_4o10_1) :: (pI p1 A0) :: (pI p3 A0) :: (i6 p1) :: (i6 (iw (p1 + 1))) :: (i6 p2) :: (i6 (iw (p2 - 1))) :: dd u14 30 16 (dd u45 46 17 ((i6 x15) :: (i6 x46) :: (.bool false) :: un 15 ((u111 81) :: (i6 x15) :: (u111 83) :: (i6 x46) :: (u111 85) :: (i6 x46) :: (pI x46 A0) :: (u6 xz10_90o6_1) :: (u111 89) :: (i6 x15) :: (pI x15 A0) :: (u6 xz10_90o10_1) :: (pI x15 A0) :: (pI x46 A0) :: (i6 x15) :: (i6 (iw (x15 + 1))) :: (i6 x46) :: (i6 (iw (x46 - 1))) :: dd u120 99 16 (dd u151 115 17 (dd u111 132 21 (un 15 ([]))))))))).toArray, []⟩) a ∧ x152 = c153 ∧ St (foots [rowE .u16 31 A0 c0 p0]) w0 w [rowE .u16 31 A0 c0 l113]) ?_ ?_
 refine gx_block (gx_loop (fun k a w => ∃ (x159 : Int), selfA (fun u158 => ⟨((.slice A0 p0.length c0) :: (i6 p1) :: (i6 p2) :: (i6 p3) :: un 4 ((i6 0) :: (.bool false) :: (i6 x121) :: (i6 x159) :: (u14 12) :: (i6 p1) :: (u14 14) :: (i6 p3) :: (u14 16) :: (i6 p3) :: (pI p3 A0) :: (u6 xz1_4o6_1) :: (u14 20) :: (i6 p1) :: (pI p1 A0) :: (u6 xz1_4o10_1) :: (pI p1 A0) :: (pI p3 A0) :: (i6 p1) :: (i6 (iw (p1 + 1))) :: (i6 p2) :: (i6 (iw (p2 - 1))) :: dd u14 30 16 (dd u45 46 17 ((i6 x15) :: (i6 x46) :: (.bool false) :: un 15 ((u111 81) :: (i6 x15) :: (u111 83) :: (i6 x46) :: (u111 85) :: (i6 x46) :: (pI x46 A0) :: (u6 xz10_90o6_1) :: (u111 89) :: (i6 x15) :: (pI x15 A0) :: (u6 xz10_90o10_1) :: (pI x15 A0) :: (pI x46 A0) :: (i6 x15) :: (i6 (iw (x15 + 1))) :: (i6 x46) :: (i6 (iw (x46 - 1))) :: dd u120 99 16 (dd u158 115 17 (dd u111 132 21 (un 15 ([]))))))))).toArray, []⟩) a ∧ zCut_L5 N p1 l113 x121 k x159 = some c153 ∧ St (foots [rowE .u16 31 A0 c0 p0]) w0 w [rowE .u16 31 A0 c0 l113]) N ?_ ?_)
 exact ⟨x115, selfA_i (by kernel_rfl), hE154, hS119⟩
 rintro k160 _ w156 ⟨x159, hq179, hL161, hS157⟩
 obtain ⟨u158, rfl⟩ := selfA_u hq179
 rcases k160 with _ | k160
 cases hL161
 first | rw [zCut_L5] at hL161 | unfold zCut_L5 at hL161
 refine gx_seq (fun K162 hK163 => gx_seq (fun K164 hK165 => gdst (fun w => St (foots [rowE .u16 31 A0 c0 p0]) w0 w [rowE .u16 31 A0 c0 l113]) 15 ?_))
 have hS167 := hS157.drew
 generalize w156.drew = w166 at hS167 ⊢
 refine gv1 0 115 (i6 x121) rfl hS167 (gv1 1 116 (i6 x159) rfl hS167 ?_)
 rcases if_in hL161 with ⟨h168, hL161⟩ | ⟨h168, hL161⟩
 refine gu1 2 117 (.bool true) rfl hS167 (rbT h168) (gv1 3 118 (.bool true) rfl hS167 (gv1 4 119 (.slice A0 p0.length c0) rfl hS167 (gv1 5 120 (i6 x159) rfl hS167 ?_)))
 obtain ⟨x169, hx170, hL161⟩ := bind_in hL161
 refine gu1 6 121 (pI x159 A0) rfl hS167 (fun w hSw => riy 31 .i64 hx170 hn112 (((hS167.row 0 rfl).1))) (gu1 7 122 (u6 x169) rfl hS167 (fun w hSw => rlx (hSw.row 0 rfl).1 hx170) (gv1 8 123 (.slice A0 p0.length c0) rfl hS167 (gv1 9 124 (i6 p1) rfl hS167 ?_)))
 obtain ⟨x171, hx172, hL161⟩ := bind_in hL161
 refine gu1 10 125 (pI p1 A0) rfl hS167 (fun w hSw => riy 31 .i64 hx172 hn112 (((hS167.row 0 rfl).1))) (gu1 11 126 (u6 x171) rfl hS167 (fun w hSw => rlx (hSw.row 0 rfl).1 hx172) ?_)
 have hP173 : St _ _ w166 ([] ++ [rowE .u16 31 A0 c0 l113]) := hS167
 obtain ⟨b175, hc174, hL161⟩ := bind_in hL161
 try dsimp only at hL161
 refine gdC 12 ⟨some 127, _, _, _, _, _⟩ _ rfl (by kernel_rfl) (zLess_ok N x169 x171 _ hc174 w166 ) ?_
 rintro _ w176 ⟨rfl, hT178⟩
 have hS177 : St _ _ w176 [rowE .u16 31 A0 c0 l113] := hS167.take _ hT178
 refine ⟨hS177, ?_⟩
 rcases b175 with _ | _
 try dsimp only at hL161
 refine gv1 13 128 (.bool true) rfl hS177 (gv1 14 129 (.bool true) rfl hS177 (gd_done (by kernel_rfl) (gx_thenN (hK165 _ _ (gx_yes (by kernel_rfl) (gx_pass (gx_thenN ?_)))))))
 refine hK163 _ _ (gx_block (gx_region (gx_k (i6 x159) w176 (gx_k (i6 (iw (x159 - 1))) w176 (gx_k (i6 (iw (x159 - 1))) w176 (gx_nil (gx_blkN (gx_thenN ?_))))))))
 exact ⟨k160, Nat.lt_succ_self k160, (iw (x159 - 1)), selfA_i (by kernel_rfl), hL161, hS177⟩
 try dsimp only at hL161
 refine gv1 13 128 (.bool false) rfl hS177 (gv1 14 129 (.bool false) rfl hS177 (gd_done (by kernel_rfl) (gx_thenN (hK165 _ _ (gx_no (by kernel_rfl) (gx_exit (gx_thenE ?_)))))))
 refine gx_thenE (gx_blkE (gx_thenN ?_))
 exact ⟨x159, selfA_i (by kernel_rfl), (sj hL161), hS177⟩
 refine gu1 2 117 (.bool false) rfl hS167 (rbF h168) (gv1 3 118 (.bool false) rfl hS167 (gz1 4 119 rfl hS167 (gz1 5 120 rfl hS167 (gz1 6 121 rfl hS167 (gz1 7 122 rfl hS167 (gz1 8 123 rfl hS167 (gz1 9 124 rfl hS167 ?_)))))))
 refine gz1 10 125 rfl hS167 (gz1 11 126 rfl hS167 (gz1 12 127 rfl hS167 (gz1 13 128 rfl hS167 (gv1 14 129 (.bool false) rfl hS167 (gd_done (by kernel_rfl) (gx_thenN (hK165 _ _ ?_)))))))
 refine gx_no (by kernel_rfl) (gx_exit (gx_thenE (gx_thenE (gx_blkE (gx_thenN ?_)))))
 exact ⟨x159, selfA_i (by kernel_rfl), (sj hL161), hS167⟩
 rintro _ w149 ⟨x152, hq195, rfl, hS150⟩
 obtain ⟨u151, rfl⟩ := selfA_u hq195
 try dsimp only at hO155
 refine gx_seq (fun K180 hK181 => gx_seq (fun K182 hK183 => gx_region (gx_k (i6 x121) w149 (gx_k (i6 x152) w149 ?_))))
 rcases if_in hO155 with ⟨h184, hO155⟩ | ⟨h184, hO155⟩
 refine gx_v (.bool true) w149 (rbE (decide_eq_true h184)) (gx_nil (gx_thenN (hK183 _ _ (gx_yes (by kernel_rfl) (gx_exit (gx_thenE (gx_blkO (by decide) ?_)))))))
 refine gx_thenE (gx_blkE (gx_thenN ?_))
 exact ⟨l113, x152, selfA_i (by kernel_rfl), (sj hO155), hS150, hn112⟩
 refine gx_v (.bool false) w149 (rbE (decide_eq_false h184)) (gx_nil (gx_thenN (hK183 _ _ (gx_no (by kernel_rfl) (gx_pass (gx_thenN (hK181 _ _ ?_)))))))
 refine gx_seq (fun K185 hK186 => gdst (fun w => St (foots [rowE .u16 31 A0 c0 p0]) w0 w []) 16 ?_)
 have hS189 := hS150.drew
 generalize w149.drew = w188 at hS189 ⊢
 obtain ⟨xz18_186o6_1, hxz18_186o6_2, hO155⟩ := bind_in hO155
 obtain ⟨xz18_186o10_1, hxz18_186o10_2, hO155⟩ := bind_in hO155
 obtain ⟨xz18_186o12_1, hxz18_186o12_2, hO155⟩ := bind_in hO155
 obtain ⟨lz18_186o13_3, hxz18_186o13_4, hO155⟩ := bind_in hO155
 obtain ⟨xz18_186o14_1, hxz18_186o14_2, hO155⟩ := bind_in hO155
 obtain ⟨lz18_186o15_3, hxz18_186o15_4, hO155⟩ := bind_in hO155
 refine gd_share (X := Unit) (fun _ => ⟨((.slice A0 p0.length c0) :: (i6 p1) :: (i6 p2) :: (i6 p3) :: un 4 ((i6 0) :: (.bool false) :: (i6 x121) :: (i6 x152) :: (u14 12) :: (i6 p1) :: (u14 14) :: (i6 p3) :: (u14 16) :: (i6 p3) :: (pI p3 A0) :: (u6 xz1_4o6_1) :: (u14 20) :: (i6 p1) :: (pI p1 A0) :: (u6 xz1_4o10_1) :: (pI p1 A0) :: (pI p3 A0) :: (i6 p1) :: (i6 (iw (p1 + 1))) :: (i6 p2) :: (i6 (iw (p2 - 1))) :: dd u14 30 16 (dd u45 46 17 ((i6 x15) :: (i6 x46) :: (.bool false) :: un 15 ((u111 81) :: (i6 x15) :: (u111 83) :: (i6 x46) :: (u111 85) :: (i6 x46) :: (pI x46 A0) :: (u6 xz10_90o6_1) :: (u111 89) :: (i6 x15) :: (pI x15 A0) :: (u6 xz10_90o10_1) :: (pI x15 A0) :: (pI x46 A0) :: (i6 x15) :: (i6 (iw (x15 + 1))) :: (i6 x46) :: (i6 (iw (x46 - 1))) :: dd u120 99 16 (dd u151 115 17 ((i6 x121) :: (i6 x152) :: (.bool false) :: (.slice A0 p0.length c0) :: (i6 x121) :: (.slice A0 p0.length c0) :: (i6 x152) :: (.slice A0 p0.length c0) :: (i6 x152) :: (pI x152 A0) :: (u6 xz18_186o6_1) :: (.slice A0 p0.length c0) :: (i6 x121) :: (pI x121 A0) :: (u6 xz18_186o10_1) :: (pI x121 A0) :: (pI x152 A0) :: dd u111 149 4 (un 15 ([]))))))))).toArray, []⟩) (fun _ w => St (foots [rowE .u16 31 A0 c0 p0]) w0 w [rowE .u16 31 A0 c0 lz18_186o15_3]) ?_ ?_
 rintro _ w190 hS191
 have hS191 : St _ _ w190 [rowE .u16 31 A0 c0 lz18_186o15_3] := hS191
 show WQ _ _ ⟨((.slice A0 p0.length c0) :: (i6 p1) :: (i6 p2) :: (i6 p3) :: un 4 ((i6 0) :: (.bool false) :: (i6 x121) :: (i6 x152) :: (u14 12) :: (i6 p1) :: (u14 14) :: (i6 p3) :: (u14 16) :: (i6 p3) :: (pI p3 A0) :: (u6 xz1_4o6_1) :: (u14 20) :: (i6 p1) :: (pI p1 A0) :: (u6 xz1_4o10_1) :: (pI p1 A0) :: (pI p3 A0) :: (i6 p1) :: (i6 (iw (p1 + 1))) :: (i6 p2) :: (i6 (iw (p2 - 1))) :: dd u14 30 16 (dd u45 46 17 ((i6 x15) :: (i6 x46) :: (.bool false) :: un 15 ((u111 81) :: (i6 x15) :: (u111 83) :: (i6 x46) :: (u111 85) :: (i6 x46) :: (pI x46 A0) :: (u6 xz10_90o6_1) :: (u111 89) :: (i6 x15) :: (pI x15 A0) :: (u6 xz10_90o10_1) :: (pI x15 A0) :: (pI x46 A0) :: (i6 x15) :: (i6 (iw (x15 + 1))) :: (i6 x46) :: (i6 (iw (x46 - 1))) :: dd u120 99 16 (dd u151 115 17 ((i6 x121) :: (i6 x152) :: (.bool false) :: (.slice A0 p0.length c0) :: (i6 x121) :: (.slice A0 p0.length c0) :: (i6 x152) :: (.slice A0 p0.length c0) :: (i6 x152) :: (pI x152 A0) :: (u6 xz18_186o6_1) :: (.slice A0 p0.length c0) :: (i6 x121) :: (pI x121 A0) :: (u6 xz18_186o10_1) :: (pI x121 A0) :: (pI x152 A0) :: dd u111 149 4 (un 15 ([]))))))))).toArray, []⟩ _
 refine gx_thenN (hK186 _ _ (gx_seq (fun K192 hK193 => gx_region (gx_k (i6 x121) w190 (gx_k (i6 (iw (x121 + 1))) w190 (gx_k (i6 (iw (x121 + 1))) w190 (gx_nil (gx_thenN (hK193 _ _ ?_)))))))))
 refine gx_region (gx_k (i6 x152) w190 (gx_k (i6 (iw (x152 - 1))) w190 (gx_k (i6 (iw (x152 - 1))) w190 (gx_nil (gx_blkN (gx_thenN ?_))))))
 exact ⟨k116, Nat.lt_succ_self k116, lz18_186o15_3, (iw (x121 + 1)), (iw (x152 - 1)), selfA_i (by kernel_rfl), hO155, hS191, ((hn112.trans (setx_len hxz18_186o13_4).symm).trans (setx_len hxz18_186o15_4).symm)⟩
 intro K194
 refine gv1 0 135 (.slice A0 p0.length c0) rfl (hS189.pick [] rfl rfl) (gv1 1 136 (i6 x121) rfl (hS189.pick [] rfl rfl) (gv1 2 137 (.slice A0 p0.length c0) rfl (hS189.pick [] rfl rfl) (gv1 3 138 (i6 x152) rfl (hS189.pick [] rfl rfl) (gv1 4 139 (.slice A0 p0.length c0) rfl (hS189.pick [] rfl rfl) (gv1 5 140 (i6 x152) rfl (hS189.pick [] rfl rfl) (gu1 6 141 (pI x152 A0) rfl (hS189.pick [] rfl rfl) (fun w hSw => riy 31 .i64 hxz18_186o6_2 hn112 (((hS189.row 0 rfl).1))) (gv1 8 143 (.slice A0 p0.length c0) rfl (hS189.pick [] rfl rfl) ?_)))))))
 refine gv1 9 144 (i6 x121) rfl (hS189.pick [] rfl rfl) (gu1 10 145 (pI x121 A0) rfl (hS189.pick [] rfl rfl) (fun w hSw => riy 31 .i64 hxz18_186o10_2 hn112 (((hS189.row 0 rfl).1))) (gd_fork2 7 11 ⟨some 142, _, _, _, _, _⟩ ⟨some 146, _, _, _, _, _⟩ rfl rfl ?_ ?_))
 refine gfR 7 ⟨some 142, _, _, _, _, _⟩ (R := fun v w => v = u6 xz18_186o6_1 ∧ w188 = w) rfl ⟨_, _, rlx (hS189.row 0 rfl).1 hxz18_186o6_2, rfl, rfl⟩ ?_
 rintro _ _ ⟨rfl, rfl⟩
 refine ⟨(hS189.pick [] rfl rfl), gdR 11 ⟨some 146, _, _, _, _, _⟩ (R := fun v w => v = u6 xz18_186o10_1 ∧ w188 = w) rfl ⟨_, _, rlx (hS189.row 0 rfl).1 hxz18_186o10_2, rfl, rfl⟩ ?_⟩
 rintro _ _ ⟨rfl, rfl⟩
 refine ⟨(hS189.pick [] rfl rfl), gu1 12 147 (pI x121 A0) rfl (hS189.pick [] rfl rfl) (fun w hSw => riy 31 .i64 hxz18_186o12_2 hn112 (((hS189.row 0 rfl).1))) (gdS 13 ⟨none, _, _, _, _, _⟩ rfl (st_storeix rfl (by kernel_rfl) (by kernel_rfl) (fun _ => by kernel_rfl) hS189 0 rfl hxz18_186o13_4) ?_)⟩
 rintro wz18_186o13_1 hSz18_186o13_2
 have hSz18_186o13_2 : St _ _ wz18_186o13_1 [rowE .u16 31 A0 c0 lz18_186o13_3] := hSz18_186o13_2
 refine ⟨(hSz18_186o13_2.pick [] rfl rfl), gu1 14 148 (pI x152 A0) rfl (hSz18_186o13_2.pick [] rfl rfl) (fun w hSw => riy 31 .i64 hxz18_186o14_2 (hn112.trans (setx_len hxz18_186o13_4).symm) (((hSz18_186o13_2.row 0 rfl).1))) (gdSz 15 ⟨none, _, _, _, _, _⟩ rfl (st_storeix rfl (by kernel_rfl) (by kernel_rfl) (fun _ => by kernel_rfl) hSz18_186o13_2 0 rfl hxz18_186o15_4) ?_)⟩
 rintro wz18_186o15_1 hSz18_186o15_2
 have hSz18_186o15_2 : St _ _ wz18_186o15_1 [rowE .u16 31 A0 c0 lz18_186o15_3] := hSz18_186o15_2
 exact gd_meet (by kernel_rfl) (by kernel_rfl) (K194 () _ hSz18_186o15_2)
 refine gfR 11 ⟨some 146, _, _, _, _, _⟩ (R := fun v w => v = u6 xz18_186o10_1 ∧ w188 = w) rfl ⟨_, _, rlx (hS189.row 0 rfl).1 hxz18_186o10_2, rfl, rfl⟩ ?_
 rintro _ _ ⟨rfl, rfl⟩
 refine ⟨(hS189.pick [] rfl rfl), gdR 7 ⟨some 142, _, _, _, _, _⟩ (R := fun v w => v = u6 xz18_186o6_1 ∧ w188 = w) rfl ⟨_, _, rlx (hS189.row 0 rfl).1 hxz18_186o6_2, rfl, rfl⟩ ?_⟩
 rintro _ _ ⟨rfl, rfl⟩
 refine ⟨(hS189.pick [] rfl rfl), gu1 12 147 (pI x121 A0) rfl (hS189.pick [] rfl rfl) (fun w hSw => riy 31 .i64 hxz18_186o12_2 hn112 (((hS189.row 0 rfl).1))) (gdS 13 ⟨none, _, _, _, _, _⟩ rfl (st_storeix rfl (by kernel_rfl) (by kernel_rfl) (fun _ => by kernel_rfl) hS189 0 rfl hxz18_186o13_4) ?_)⟩
 rintro wz18_186o13_1 hSz18_186o13_2
 have hSz18_186o13_2 : St _ _ wz18_186o13_1 [rowE .u16 31 A0 c0 lz18_186o13_3] := hSz18_186o13_2
 refine ⟨(hSz18_186o13_2.pick [] rfl rfl), gu1 14 148 (pI x152 A0) rfl (hSz18_186o13_2.pick [] rfl rfl) (fun w hSw => riy 31 .i64 hxz18_186o14_2 (hn112.trans (setx_len hxz18_186o13_4).symm) (((hSz18_186o13_2.row 0 rfl).1))) (gdSz 15 ⟨none, _, _, _, _, _⟩ rfl (st_storeix rfl (by kernel_rfl) (by kernel_rfl) (fun _ => by kernel_rfl) hSz18_186o13_2 0 rfl hxz18_186o15_4) ?_)⟩
 rintro wz18_186o15_1 hSz18_186o15_2
 have hSz18_186o15_2 : St _ _ wz18_186o15_1 [rowE .u16 31 A0 c0 lz18_186o15_3] := hSz18_186o15_2
 exact gd_meet (by kernel_rfl) (by kernel_rfl) (K194 () _ hSz18_186o15_2)
 rintro _ w100 ⟨l104, x105, hq208, rfl, hS101, hn103⟩
 obtain ⟨u102, rfl⟩ := selfA_u hq208
 try dsimp only at hO108
 refine gx_seq (fun K198 hK199 => gdst (fun w => St (foots [rowE .u16 31 A0 c0 p0]) w0 w []) 16 ?_)
 have hS202 := hS101.drew
 generalize w100.drew = w201 at hS202 ⊢
 obtain ⟨xz21_199o6_1, hxz21_199o6_2, hO108⟩ := bind_in hO108
 obtain ⟨xz21_199o10_1, hxz21_199o10_2, hO108⟩ := bind_in hO108
 obtain ⟨xz21_199o12_1, hxz21_199o12_2, hO108⟩ := bind_in hO108
 obtain ⟨lz21_199o13_3, hxz21_199o13_4, hO108⟩ := bind_in hO108
 obtain ⟨xz21_199o14_1, hxz21_199o14_2, hO108⟩ := bind_in hO108
 obtain ⟨lz21_199o15_3, hxz21_199o15_4, hO108⟩ := bind_in hO108
 refine gd_share (X := Unit) (fun _ => ⟨((.slice A0 p0.length c0) :: (i6 p1) :: (i6 p2) :: (i6 p3) :: un 4 ((i6 0) :: (.bool false) :: (u102 10) :: (i6 x105) :: (u14 12) :: (i6 p1) :: (u14 14) :: (i6 p3) :: (u14 16) :: (i6 p3) :: (pI p3 A0) :: (u6 xz1_4o6_1) :: (u14 20) :: (i6 p1) :: (pI p1 A0) :: (u6 xz1_4o10_1) :: (pI p1 A0) :: (pI p3 A0) :: (i6 p1) :: (i6 (iw (p1 + 1))) :: (i6 p2) :: (i6 (iw (p2 - 1))) :: dd u14 30 16 (dd u45 46 17 ((i6 x15) :: (i6 x46) :: (.bool false) :: un 15 ((u102 81) :: (i6 x15) :: (u102 83) :: (i6 x46) :: (u102 85) :: (i6 x46) :: (pI x46 A0) :: (u6 xz10_90o6_1) :: (u102 89) :: (i6 x15) :: (pI x15 A0) :: (u6 xz10_90o10_1) :: (pI x15 A0) :: (pI x46 A0) :: (i6 x15) :: (i6 (iw (x15 + 1))) :: (i6 x46) :: (i6 (iw (x46 - 1))) :: dd u102 99 54 ((.slice A0 p0.length c0) :: (i6 x105) :: (.slice A0 p0.length c0) :: (i6 p1) :: (.slice A0 p0.length c0) :: (i6 p1) :: (pI p1 A0) :: (u6 xz21_199o6_1) :: (.slice A0 p0.length c0) :: (i6 x105) :: (pI x105 A0) :: (u6 xz21_199o10_1) :: (pI x105 A0) :: (pI p1 A0) :: undef :: [])))))).toArray, []⟩) (fun _ w => St (foots [rowE .u16 31 A0 c0 p0]) w0 w [rowE .u16 31 A0 c0 lz21_199o15_3]) ?_ ?_
 rintro _ w203 hS204
 have hS204 : St _ _ w203 [rowE .u16 31 A0 c0 lz21_199o15_3] := hS204
 show WQ _ _ ⟨((.slice A0 p0.length c0) :: (i6 p1) :: (i6 p2) :: (i6 p3) :: un 4 ((i6 0) :: (.bool false) :: (u102 10) :: (i6 x105) :: (u14 12) :: (i6 p1) :: (u14 14) :: (i6 p3) :: (u14 16) :: (i6 p3) :: (pI p3 A0) :: (u6 xz1_4o6_1) :: (u14 20) :: (i6 p1) :: (pI p1 A0) :: (u6 xz1_4o10_1) :: (pI p1 A0) :: (pI p3 A0) :: (i6 p1) :: (i6 (iw (p1 + 1))) :: (i6 p2) :: (i6 (iw (p2 - 1))) :: dd u14 30 16 (dd u45 46 17 ((i6 x15) :: (i6 x46) :: (.bool false) :: un 15 ((u102 81) :: (i6 x15) :: (u102 83) :: (i6 x46) :: (u102 85) :: (i6 x46) :: (pI x46 A0) :: (u6 xz10_90o6_1) :: (u102 89) :: (i6 x15) :: (pI x15 A0) :: (u6 xz10_90o10_1) :: (pI x15 A0) :: (pI x46 A0) :: (i6 x15) :: (i6 (iw (x15 + 1))) :: (i6 x46) :: (i6 (iw (x46 - 1))) :: dd u102 99 54 ((.slice A0 p0.length c0) :: (i6 x105) :: (.slice A0 p0.length c0) :: (i6 p1) :: (.slice A0 p0.length c0) :: (i6 p1) :: (pI p1 A0) :: (u6 xz21_199o6_1) :: (.slice A0 p0.length c0) :: (i6 x105) :: (pI x105 A0) :: (u6 xz21_199o10_1) :: (pI x105 A0) :: (pI p1 A0) :: undef :: [])))))).toArray, []⟩ _
 refine gx_thenN (hK199 _ _ (gx_seq (fun K205 hK206 => gx_region (gx_k (i6 x105) w203 (gx_k (i6 x105) w203 (gx_k (.bool false) w203 (gx_nil (gx_thenN (hK206 _ _ ?_)))))))))
 refine gx_ret ?_
 obtain rfl := sj hO108
 exact gxF (.tuple #[i6 x105, .bool false]) ⟨_, rfl, rfl, hS204, (((hn103.trans (setx_len hxz21_199o13_4).symm).trans (setx_len hxz21_199o15_4).symm)).symm⟩
 intro K207
 refine gv1 0 153 (.slice A0 p0.length c0) rfl (hS202.pick [] rfl rfl) (gv1 1 154 (i6 x105) rfl (hS202.pick [] rfl rfl) (gv1 2 155 (.slice A0 p0.length c0) rfl (hS202.pick [] rfl rfl) (gv1 3 156 (i6 p1) rfl (hS202.pick [] rfl rfl) (gv1 4 157 (.slice A0 p0.length c0) rfl (hS202.pick [] rfl rfl) (gv1 5 158 (i6 p1) rfl (hS202.pick [] rfl rfl) (gu1 6 159 (pI p1 A0) rfl (hS202.pick [] rfl rfl) (fun w hSw => riy 31 .i64 hxz21_199o6_2 hn103 (((hS202.row 0 rfl).1))) (gv1 8 161 (.slice A0 p0.length c0) rfl (hS202.pick [] rfl rfl) ?_)))))))
 refine gv1 9 162 (i6 x105) rfl (hS202.pick [] rfl rfl) (gu1 10 163 (pI x105 A0) rfl (hS202.pick [] rfl rfl) (fun w hSw => riy 31 .i64 hxz21_199o10_2 hn103 (((hS202.row 0 rfl).1))) (gd_fork2 7 11 ⟨some 160, _, _, _, _, _⟩ ⟨some 164, _, _, _, _, _⟩ rfl rfl ?_ ?_))
 refine gfR 7 ⟨some 160, _, _, _, _, _⟩ (R := fun v w => v = u6 xz21_199o6_1 ∧ w201 = w) rfl ⟨_, _, rlx (hS202.row 0 rfl).1 hxz21_199o6_2, rfl, rfl⟩ ?_
 rintro _ _ ⟨rfl, rfl⟩
 refine ⟨(hS202.pick [] rfl rfl), gdR 11 ⟨some 164, _, _, _, _, _⟩ (R := fun v w => v = u6 xz21_199o10_1 ∧ w201 = w) rfl ⟨_, _, rlx (hS202.row 0 rfl).1 hxz21_199o10_2, rfl, rfl⟩ ?_⟩
 rintro _ _ ⟨rfl, rfl⟩
 refine ⟨(hS202.pick [] rfl rfl), gu1 12 165 (pI x105 A0) rfl (hS202.pick [] rfl rfl) (fun w hSw => riy 31 .i64 hxz21_199o12_2 hn103 (((hS202.row 0 rfl).1))) (gdS 13 ⟨none, _, _, _, _, _⟩ rfl (st_storeix rfl (by kernel_rfl) (by kernel_rfl) (fun _ => by kernel_rfl) hS202 0 rfl hxz21_199o13_4) ?_)⟩
 rintro wz21_199o13_1 hSz21_199o13_2
 have hSz21_199o13_2 : St _ _ wz21_199o13_1 [rowE .u16 31 A0 c0 lz21_199o13_3] := hSz21_199o13_2
 refine ⟨(hSz21_199o13_2.pick [] rfl rfl), gu1 14 166 (pI p1 A0) rfl (hSz21_199o13_2.pick [] rfl rfl) (fun w hSw => riy 31 .i64 hxz21_199o14_2 (hn103.trans (setx_len hxz21_199o13_4).symm) (((hSz21_199o13_2.row 0 rfl).1))) (gdSz 15 ⟨none, _, _, _, _, _⟩ rfl (st_storeix rfl (by kernel_rfl) (by kernel_rfl) (fun _ => by kernel_rfl) hSz21_199o13_2 0 rfl hxz21_199o15_4) ?_)⟩
 rintro wz21_199o15_1 hSz21_199o15_2
 have hSz21_199o15_2 : St _ _ wz21_199o15_1 [rowE .u16 31 A0 c0 lz21_199o15_3] := hSz21_199o15_2
 exact gd_meet (by kernel_rfl) (by kernel_rfl) (K207 () _ hSz21_199o15_2)
 refine gfR 11 ⟨some 164, _, _, _, _, _⟩ (R := fun v w => v = u6 xz21_199o10_1 ∧ w201 = w) rfl ⟨_, _, rlx (hS202.row 0 rfl).1 hxz21_199o10_2, rfl, rfl⟩ ?_
 rintro _ _ ⟨rfl, rfl⟩
 refine ⟨(hS202.pick [] rfl rfl), gdR 7 ⟨some 160, _, _, _, _, _⟩ (R := fun v w => v = u6 xz21_199o6_1 ∧ w201 = w) rfl ⟨_, _, rlx (hS202.row 0 rfl).1 hxz21_199o6_2, rfl, rfl⟩ ?_⟩
 rintro _ _ ⟨rfl, rfl⟩
 refine ⟨(hS202.pick [] rfl rfl), gu1 12 165 (pI x105 A0) rfl (hS202.pick [] rfl rfl) (fun w hSw => riy 31 .i64 hxz21_199o12_2 hn103 (((hS202.row 0 rfl).1))) (gdS 13 ⟨none, _, _, _, _, _⟩ rfl (st_storeix rfl (by kernel_rfl) (by kernel_rfl) (fun _ => by kernel_rfl) hS202 0 rfl hxz21_199o13_4) ?_)⟩
 rintro wz21_199o13_1 hSz21_199o13_2
 have hSz21_199o13_2 : St _ _ wz21_199o13_1 [rowE .u16 31 A0 c0 lz21_199o13_3] := hSz21_199o13_2
 refine ⟨(hSz21_199o13_2.pick [] rfl rfl), gu1 14 166 (pI p1 A0) rfl (hSz21_199o13_2.pick [] rfl rfl) (fun w hSw => riy 31 .i64 hxz21_199o14_2 (hn103.trans (setx_len hxz21_199o13_4).symm) (((hSz21_199o13_2.row 0 rfl).1))) (gdSz 15 ⟨none, _, _, _, _, _⟩ rfl (st_storeix rfl (by kernel_rfl) (by kernel_rfl) (fun _ => by kernel_rfl) hSz21_199o13_2 0 rfl hxz21_199o15_4) ?_)⟩
 rintro wz21_199o15_1 hSz21_199o15_2
 have hSz21_199o15_2 : St _ _ wz21_199o15_1 [rowE .u16 31 A0 c0 lz21_199o15_3] := hSz21_199o15_2
 exact gd_meet (by kernel_rfl) (by kernel_rfl) (K207 () _ hSz21_199o15_2)
 intro K209
 refine gv1 0 81 (.slice A0 p0.length c0) rfl (hS93.pick [] rfl rfl) (gv1 1 82 (i6 x15) rfl (hS93.pick [] rfl rfl) (gv1 2 83 (.slice A0 p0.length c0) rfl (hS93.pick [] rfl rfl) (gv1 3 84 (i6 x46) rfl (hS93.pick [] rfl rfl) (gv1 4 85 (.slice A0 p0.length c0) rfl (hS93.pick [] rfl rfl) (gv1 5 86 (i6 x46) rfl (hS93.pick [] rfl rfl) (gu1 6 87 (pI x46 A0) rfl (hS93.pick [] rfl rfl) (fun w hSw => riy 31 .i64 hxz10_90o6_2 ((setx_len hxz1_4o13_4).symm.trans (setx_len hxz1_4o15_4).symm) (((hS93.row 0 rfl).1))) (gv1 8 89 (.slice A0 p0.length c0) rfl (hS93.pick [] rfl rfl) ?_)))))))
 refine gv1 9 90 (i6 x15) rfl (hS93.pick [] rfl rfl) (gu1 10 91 (pI x15 A0) rfl (hS93.pick [] rfl rfl) (fun w hSw => riy 31 .i64 hxz10_90o10_2 ((setx_len hxz1_4o13_4).symm.trans (setx_len hxz1_4o15_4).symm) (((hS93.row 0 rfl).1))) (gd_fork2 7 11 ⟨some 88, _, _, _, _, _⟩ ⟨some 92, _, _, _, _, _⟩ rfl rfl ?_ ?_))
 refine gfR 7 ⟨some 88, _, _, _, _, _⟩ (R := fun v w => v = u6 xz10_90o6_1 ∧ w92 = w) rfl ⟨_, _, rlx (hS93.row 0 rfl).1 hxz10_90o6_2, rfl, rfl⟩ ?_
 rintro _ _ ⟨rfl, rfl⟩
 refine ⟨(hS93.pick [] rfl rfl), gdR 11 ⟨some 92, _, _, _, _, _⟩ (R := fun v w => v = u6 xz10_90o10_1 ∧ w92 = w) rfl ⟨_, _, rlx (hS93.row 0 rfl).1 hxz10_90o10_2, rfl, rfl⟩ ?_⟩
 rintro _ _ ⟨rfl, rfl⟩
 refine ⟨(hS93.pick [] rfl rfl), gu1 12 93 (pI x15 A0) rfl (hS93.pick [] rfl rfl) (fun w hSw => riy 31 .i64 hxz10_90o12_2 ((setx_len hxz1_4o13_4).symm.trans (setx_len hxz1_4o15_4).symm) (((hS93.row 0 rfl).1))) (gdS 13 ⟨none, _, _, _, _, _⟩ rfl (st_storeix rfl (by kernel_rfl) (by kernel_rfl) (fun _ => by kernel_rfl) hS93 0 rfl hxz10_90o13_4) ?_)⟩
 rintro wz10_90o13_1 hSz10_90o13_2
 have hSz10_90o13_2 : St _ _ wz10_90o13_1 [rowE .u16 31 A0 c0 lz10_90o13_3] := hSz10_90o13_2
 refine ⟨(hSz10_90o13_2.pick [] rfl rfl), gu1 14 94 (pI x46 A0) rfl (hSz10_90o13_2.pick [] rfl rfl) (fun w hSw => run_ixaddr (E := 31) (s := 1) (k := .i64) (c := c0) rfl (by kernel_rfl) (by kernel_rfl) (by kernel_rfl) (fun _ => by kernel_rfl) (ix_in hxz10_90o14_2).1 (lt_len (((setx_len hxz1_4o13_4).symm.trans (setx_len hxz1_4o15_4).symm).trans (setx_len hxz10_90o13_4).symm) (ix_in hxz10_90o14_2).2.1) (nil_len (((setx_len hxz1_4o13_4).symm.trans (setx_len hxz1_4o15_4).symm).trans (setx_len hxz10_90o13_4).symm) (num_nil (hSz10_90o13_2.row 0 rfl).1))) (gdSz 15 ⟨none, _, _, _, _, _⟩ rfl (st_storeix rfl (by kernel_rfl) (by kernel_rfl) (fun _ => by kernel_rfl) hSz10_90o13_2 0 rfl hxz10_90o15_4) ?_)⟩
 rintro wz10_90o15_1 hSz10_90o15_2
 have hSz10_90o15_2 : St _ _ wz10_90o15_1 [rowE .u16 31 A0 c0 lz10_90o15_3] := hSz10_90o15_2
 exact gd_meet (by kernel_rfl) (by kernel_rfl) (K209 () _ hSz10_90o15_2)
 refine gfR 11 ⟨some 92, _, _, _, _, _⟩ (R := fun v w => v = u6 xz10_90o10_1 ∧ w92 = w) rfl ⟨_, _, rlx (hS93.row 0 rfl).1 hxz10_90o10_2, rfl, rfl⟩ ?_
 rintro _ _ ⟨rfl, rfl⟩
 refine ⟨(hS93.pick [] rfl rfl), gdR 7 ⟨some 88, _, _, _, _, _⟩ (R := fun v w => v = u6 xz10_90o6_1 ∧ w92 = w) rfl ⟨_, _, rlx (hS93.row 0 rfl).1 hxz10_90o6_2, rfl, rfl⟩ ?_⟩
 rintro _ _ ⟨rfl, rfl⟩
 refine ⟨(hS93.pick [] rfl rfl), gu1 12 93 (pI x15 A0) rfl (hS93.pick [] rfl rfl) (fun w hSw => riy 31 .i64 hxz10_90o12_2 ((setx_len hxz1_4o13_4).symm.trans (setx_len hxz1_4o15_4).symm) (((hS93.row 0 rfl).1))) (gdS 13 ⟨none, _, _, _, _, _⟩ rfl (st_storeix rfl (by kernel_rfl) (by kernel_rfl) (fun _ => by kernel_rfl) hS93 0 rfl hxz10_90o13_4) ?_)⟩
 rintro wz10_90o13_1 hSz10_90o13_2
 have hSz10_90o13_2 : St _ _ wz10_90o13_1 [rowE .u16 31 A0 c0 lz10_90o13_3] := hSz10_90o13_2
 refine ⟨(hSz10_90o13_2.pick [] rfl rfl), gu1 14 94 (pI x46 A0) rfl (hSz10_90o13_2.pick [] rfl rfl) (fun w hSw => run_ixaddr (E := 31) (s := 1) (k := .i64) (c := c0) rfl (by kernel_rfl) (by kernel_rfl) (by kernel_rfl) (fun _ => by kernel_rfl) (ix_in hxz10_90o14_2).1 (lt_len (((setx_len hxz1_4o13_4).symm.trans (setx_len hxz1_4o15_4).symm).trans (setx_len hxz10_90o13_4).symm) (ix_in hxz10_90o14_2).2.1) (nil_len (((setx_len hxz1_4o13_4).symm.trans (setx_len hxz1_4o15_4).symm).trans (setx_len hxz10_90o13_4).symm) (num_nil (hSz10_90o13_2.row 0 rfl).1))) (gdSz 15 ⟨none, _, _, _, _, _⟩ rfl (st_storeix rfl (by kernel_rfl) (by kernel_rfl) (fun _ => by kernel_rfl) hSz10_90o13_2 0 rfl hxz10_90o15_4) ?_)⟩
 rintro wz10_90o15_1 hSz10_90o15_2
 have hSz10_90o15_2 : St _ _ wz10_90o15_1 [rowE .u16 31 A0 c0 lz10_90o15_3] := hSz10_90o15_2
 exact gd_meet (by kernel_rfl) (by kernel_rfl) (K209 () _ hSz10_90o15_2)
 intro K212
 refine gv1 0 12 (.slice A0 p0.length c0) rfl (hS7.pick [] rfl rfl) (gv1 1 13 (i6 p1) rfl (hS7.pick [] rfl rfl) (gv1 2 14 (.slice A0 p0.length c0) rfl (hS7.pick [] rfl rfl) (gv1 3 15 (i6 p3) rfl (hS7.pick [] rfl rfl) (gv1 4 16 (.slice A0 p0.length c0) rfl (hS7.pick [] rfl rfl) (gv1 5 17 (i6 p3) rfl (hS7.pick [] rfl rfl) (gu1 6 18 (pI p3 A0) rfl (hS7.pick [] rfl rfl) (fun w hSw => rix 31 .i64 hxz1_4o6_2 ((hS7.row 0 rfl).1)) (gv1 8 20 (.slice A0 p0.length c0) rfl (hS7.pick [] rfl rfl) ?_)))))))
 refine gv1 9 21 (i6 p1) rfl (hS7.pick [] rfl rfl) (gu1 10 22 (pI p1 A0) rfl (hS7.pick [] rfl rfl) (fun w hSw => rix 31 .i64 hxz1_4o10_2 ((hS7.row 0 rfl).1)) (gd_fork2 7 11 ⟨some 19, _, _, _, _, _⟩ ⟨some 23, _, _, _, _, _⟩ rfl rfl ?_ ?_))
 refine gfR 7 ⟨some 19, _, _, _, _, _⟩ (R := fun v w => v = u6 xz1_4o6_1 ∧ w6 = w) rfl ⟨_, _, rlx (hS7.row 0 rfl).1 hxz1_4o6_2, rfl, rfl⟩ ?_
 rintro _ _ ⟨rfl, rfl⟩
 refine ⟨(hS7.pick [] rfl rfl), gdR 11 ⟨some 23, _, _, _, _, _⟩ (R := fun v w => v = u6 xz1_4o10_1 ∧ w6 = w) rfl ⟨_, _, rlx (hS7.row 0 rfl).1 hxz1_4o10_2, rfl, rfl⟩ ?_⟩
 rintro _ _ ⟨rfl, rfl⟩
 refine ⟨(hS7.pick [] rfl rfl), gu1 12 24 (pI p1 A0) rfl (hS7.pick [] rfl rfl) (fun w hSw => rix 31 .i64 hxz1_4o12_2 ((hS7.row 0 rfl).1)) (gdS 13 ⟨none, _, _, _, _, _⟩ rfl (st_storeix rfl (by kernel_rfl) (by kernel_rfl) (fun _ => by kernel_rfl) hS7 0 rfl hxz1_4o13_4) ?_)⟩
 rintro wz1_4o13_1 hSz1_4o13_2
 have hSz1_4o13_2 : St _ _ wz1_4o13_1 [rowE .u16 31 A0 c0 lz1_4o13_3] := hSz1_4o13_2
 refine ⟨(hSz1_4o13_2.pick [] rfl rfl), gu1 14 25 (pI p3 A0) rfl (hSz1_4o13_2.pick [] rfl rfl) (fun w hSw => run_ixaddr (E := 31) (s := 1) (k := .i64) (c := c0) rfl (by kernel_rfl) (by kernel_rfl) (by kernel_rfl) (fun _ => by kernel_rfl) (ix_in hxz1_4o14_2).1 (lt_len (setx_len hxz1_4o13_4).symm (ix_in hxz1_4o14_2).2.1) (nil_len (setx_len hxz1_4o13_4).symm (num_nil (hSz1_4o13_2.row 0 rfl).1))) (gdSz 15 ⟨none, _, _, _, _, _⟩ rfl (st_storeix rfl (by kernel_rfl) (by kernel_rfl) (fun _ => by kernel_rfl) hSz1_4o13_2 0 rfl hxz1_4o15_4) ?_)⟩
 rintro wz1_4o15_1 hSz1_4o15_2
 have hSz1_4o15_2 : St _ _ wz1_4o15_1 [rowE .u16 31 A0 c0 lz1_4o15_3] := hSz1_4o15_2
 exact gd_meet (by kernel_rfl) (by kernel_rfl) (K212 () _ hSz1_4o15_2)
 refine gfR 11 ⟨some 23, _, _, _, _, _⟩ (R := fun v w => v = u6 xz1_4o10_1 ∧ w6 = w) rfl ⟨_, _, rlx (hS7.row 0 rfl).1 hxz1_4o10_2, rfl, rfl⟩ ?_
 rintro _ _ ⟨rfl, rfl⟩
 refine ⟨(hS7.pick [] rfl rfl), gdR 7 ⟨some 19, _, _, _, _, _⟩ (R := fun v w => v = u6 xz1_4o6_1 ∧ w6 = w) rfl ⟨_, _, rlx (hS7.row 0 rfl).1 hxz1_4o6_2, rfl, rfl⟩ ?_⟩
 rintro _ _ ⟨rfl, rfl⟩
 refine ⟨(hS7.pick [] rfl rfl), gu1 12 24 (pI p1 A0) rfl (hS7.pick [] rfl rfl) (fun w hSw => rix 31 .i64 hxz1_4o12_2 ((hS7.row 0 rfl).1)) (gdS 13 ⟨none, _, _, _, _, _⟩ rfl (st_storeix rfl (by kernel_rfl) (by kernel_rfl) (fun _ => by kernel_rfl) hS7 0 rfl hxz1_4o13_4) ?_)⟩
 rintro wz1_4o13_1 hSz1_4o13_2
 have hSz1_4o13_2 : St _ _ wz1_4o13_1 [rowE .u16 31 A0 c0 lz1_4o13_3] := hSz1_4o13_2
 refine ⟨(hSz1_4o13_2.pick [] rfl rfl), gu1 14 25 (pI p3 A0) rfl (hSz1_4o13_2.pick [] rfl rfl) (fun w hSw => run_ixaddr (E := 31) (s := 1) (k := .i64) (c := c0) rfl (by kernel_rfl) (by kernel_rfl) (by kernel_rfl) (fun _ => by kernel_rfl) (ix_in hxz1_4o14_2).1 (lt_len (setx_len hxz1_4o13_4).symm (ix_in hxz1_4o14_2).2.1) (nil_len (setx_len hxz1_4o13_4).symm (num_nil (hSz1_4o13_2.row 0 rfl).1))) (gdSz 15 ⟨none, _, _, _, _, _⟩ rfl (st_storeix rfl (by kernel_rfl) (by kernel_rfl) (fun _ => by kernel_rfl) hSz1_4o13_2 0 rfl hxz1_4o15_4) ?_)⟩
 rintro wz1_4o15_1 hSz1_4o15_2
 have hSz1_4o15_2 : St _ _ wz1_4o15_1 [rowE .u16 31 A0 c0 lz1_4o15_3] := hSz1_4o15_2
 exact gd_meet (by kernel_rfl) (by kernel_rfl) (K212 () _ hSz1_4o15_2)
end Go.Proofs.Ytgjlpiljacecpaa
