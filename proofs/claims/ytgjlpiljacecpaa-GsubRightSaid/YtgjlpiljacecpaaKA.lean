/-
  What is right, walked.
-/
import Derived.Test.YtgjlpiljacecpaaHE
namespace Go.Proofs.Ytgjlpiljacecpaa
open Go Go.RowKit
set_option linter.unusedVariables false
set_option maxRecDepth 100000
set_option maxHeartbeats 4000000
def kBelow_L1 (N : Nat) (p0 : List Int) (p1 : Int) : Nat → Int → Option (Ctl (Unit) (Bool))
 | 0, _ => none
 | k15+1, x14 => (if x14 < ((p0.length : Nat) : Int) then ((ix p0 x14).bind fun x26 => (if (IntKind.i64.wrap x26) ≥ p1 then some (Ctl.ret false) else kBelow_L1 N p0 p1 k15 (IntKind.i64.wrap (x14 + 1)))) else some (Ctl.go ()))
def kBelow (N : Nat) (p0 : List Int) (p1 : Int) : Option (Bool) :=
 ((kBelow_L1 N p0 p1 N 0 : Option (Ctl (Unit) (Bool))).bind fun | Ctl.go () => some true | Ctl.ret r => some r)
def kBelow_R (r : Bool) (w0 : World) (v : Value) (w : World) : Prop := v = .bool r ∧ St [] w0 w []
theorem kBelow_ok (N : Nat) (p0 : List Int) (p1 : Int) (A0 : Option Addr) (c0 : Nat) (r : Bool) (hF : kBelow N p0 p1 = some r) (w0 : World) (hv0 : Vw [] .u16 w0 A0 c0 p0) :
  Calls Try.prog 28 #[.slice A0 p0.length c0, .int .i64 p1] w0 fun e w => ∃ v, e = .returned v ∧ kBelow_R r w0 v w := by
 have hS0 := St.start w0
 unfold kBelow at hF
 refine calls_of Try.func28 rfl ⟨((.slice A0 p0.length c0) :: (i6 p1) :: un 17 ([])).toArray, []⟩ (by kernel_rfl) (gx_seq (fun K1 hK2 => gx_region (gx_k (.bool false) w0 (gx_nil (gx_thenN (hK2 _ _ ?_))))))
 obtain ⟨c6, hE7, hO8⟩ := bind_in hF
 refine gx_cut (fun a w => selfA (fun u5 => ⟨((u5 0) :: (i6 p1) :: undef :: undef :: dd u5 4 15 ([])).toArray, []⟩) a ∧ Ctl.go () = c6 ∧ St [] w0 w []) ?_ ?_
 refine gx_seq (fun K9 hK10 => gx_region (gx_k (i6 0) w0 (gx_nil (gx_thenN (hK10 _ _ (gx_block (gx_loop (fun k a w => ∃ (x14 : Int), selfA (fun u13 => ⟨((.slice A0 p0.length c0) :: (i6 p1) :: undef :: undef :: (u13 4) :: (i6 x14) :: dd u13 6 13 ([])).toArray, []⟩) a ∧ kBelow_L1 N p0 p1 k x14 = some c6 ∧ St [] w0 w []) N ?_ ?_)))))))
 exact ⟨0, selfA_i (by kernel_rfl), hE7, hS0⟩
 rintro k15 _ w11 ⟨x14, hq31, hL16, hS12⟩
 obtain ⟨u13, rfl⟩ := selfA_u hq31
 rcases k15 with _ | k15
 cases hL16
 first | rw [kBelow_L1] at hL16 | unfold kBelow_L1 at hL16
 refine gx_seq (fun K17 hK18 => gx_seq (fun K19 hK20 => gx_region (gx_k (i6 x14) w11 (gx_k (.slice A0 p0.length c0) w11 (gx_k (i6 ((p0.length : Nat) : Int)) w11 ?_)))))
 rcases if_in hL16 with ⟨h21, hL16⟩ | ⟨h21, hL16⟩
 refine gx_v (.bool true) w11 (rbE (decide_eq_true h21)) (gx_nil (gx_thenN (hK20 _ _ (gx_yes (by kernel_rfl) (gx_pass (gx_thenN (hK18 _ _ ?_)))))))
 refine gx_seq (fun K22 hK23 => gx_block (gx_seq (fun K24 hK25 => gx_region (gx_k (.slice A0 p0.length c0) w11 (gx_k (i6 x14) w11 ?_)))))
 obtain ⟨x26, hx27, hL16⟩ := bind_in hL16
 refine gx_v (pI x14 A0) w11 (rix 31 .i64 hx27 ((hS12.view hv0))) (gx_v (u6 x26) w11 (rlx (hS12.view hv0) hx27) (gx_k (i6 (iw x26)) w11 (gx_k (i6 p1) w11 ?_)))
 rcases if_in hL16 with ⟨h28, hL16⟩ | ⟨h28, hL16⟩
 refine gx_v (.bool true) w11 (rbE (decide_eq_true h28)) (gx_nil (gx_thenN (hK25 _ _ (gx_yes (by kernel_rfl) (gx_seq (fun K29 hK30 => gx_region (gx_k (.bool false) w11 ?_)))))))
 refine gx_nil (gx_thenN (hK30 _ _ (gx_ret (gx_blkR (gx_thenR (gx_thenR (gx_blkR ?_)))))))
 refine gx_thenR ?_
 obtain rfl := sj hL16
 try dsimp only at hO8
 obtain rfl := sj hO8
 exact gxF (.bool false) ⟨_, rfl, rfl, hS12⟩
 refine gx_v (.bool false) w11 (rbE (decide_eq_false h28)) (gx_nil (gx_thenN (hK25 _ _ (gx_no (by kernel_rfl) (gx_pass (gx_blkN (gx_thenN ?_)))))))
 refine hK23 _ _ (gx_region (gx_k (i6 x14) w11 (gx_k (i6 (iw (x14 + 1))) w11 (gx_k (i6 (iw (x14 + 1))) w11 (gx_nil (gx_thenN ?_))))))
 exact ⟨k15, Nat.lt_succ_self k15, (iw (x14 + 1)), selfA_i (by kernel_rfl), hL16, hS12⟩
 refine gx_v (.bool false) w11 (rbE (decide_eq_false h21)) (gx_nil (gx_thenN (hK20 _ _ (gx_no (by kernel_rfl) (gx_exit (gx_thenE (gx_thenE ?_)))))))
 refine gx_blkE (gx_thenN ?_)
 exact ⟨selfA_i (by kernel_rfl), (sj hL16), hS12⟩
 rintro _ w3 ⟨hq34, rfl, hS4⟩
 obtain ⟨u5, rfl⟩ := selfA_u hq34
 try dsimp only at hO8
 refine gx_seq (fun K32 hK33 => gx_region (gx_k (.bool true) w3 (gx_nil (gx_thenN (hK33 _ _ (gx_ret ?_))))))
 obtain rfl := sj hO8
 exact gxF (.bool true) ⟨_, rfl, rfl, hS4⟩
def kRising_L1 (N : Nat) (p0 : List Int) (p1 : Int) : Nat → Int → Option (Ctl (Unit) (Bool))
 | 0, _ => none
 | k15+1, x14 => (if x14 < ((p0.length : Nat) : Int) then ((ix p0 x14).bind fun x28 => (if (IntKind.i64.wrap x28) ≥ p1 then some (Ctl.ret false) else (if x14 > 0 then ((ix p0 x14).bind fun x34 => ((ix p0 (IntKind.i64.wrap (x14 - 1))).bind fun x36 => (if x34 ≤ x36 then some (Ctl.ret false) else kRising_L1 N p0 p1 k15 (IntKind.i64.wrap (x14 + 1))))) else kRising_L1 N p0 p1 k15 (IntKind.i64.wrap (x14 + 1))))) else some (Ctl.go ()))
def kRising (N : Nat) (p0 : List Int) (p1 : Int) : Option (Bool) :=
 ((kRising_L1 N p0 p1 N 0 : Option (Ctl (Unit) (Bool))).bind fun | Ctl.go () => some true | Ctl.ret r => some r)
def kRising_R (r : Bool) (w0 : World) (v : Value) (w : World) : Prop := v = .bool r ∧ St [] w0 w []
theorem kRising_ok (N : Nat) (p0 : List Int) (p1 : Int) (A0 : Option Addr) (c0 : Nat) (r : Bool) (hF : kRising N p0 p1 = some r) (w0 : World) (hv0 : Vw [] .u16 w0 A0 c0 p0) :
  Calls Try.prog 49 #[.slice A0 p0.length c0, .int .i64 p1] w0 fun e w => ∃ v, e = .returned v ∧ kRising_R r w0 v w := by
 have hS0 := St.start w0
 unfold kRising at hF
 refine calls_of Try.func49 rfl ⟨((.slice A0 p0.length c0) :: (i6 p1) :: un 33 ([])).toArray, []⟩ (by kernel_rfl) (gx_seq (fun K1 hK2 => gx_region (gx_k (.bool false) w0 (gx_nil (gx_thenN (hK2 _ _ ?_))))))
 obtain ⟨c6, hE7, hO8⟩ := bind_in hF
 refine gx_cut (fun a w => selfA (fun u5 => ⟨((u5 0) :: (i6 p1) :: undef :: undef :: dd u5 4 31 ([])).toArray, []⟩) a ∧ Ctl.go () = c6 ∧ St [] w0 w []) ?_ ?_
 refine gx_seq (fun K9 hK10 => gx_region (gx_k (i6 0) w0 (gx_nil (gx_thenN (hK10 _ _ (gx_block (gx_loop (fun k a w => ∃ (x14 : Int), selfA (fun u13 => ⟨((.slice A0 p0.length c0) :: (i6 p1) :: undef :: undef :: (u13 4) :: (i6 x14) :: dd u13 6 29 ([])).toArray, []⟩) a ∧ kRising_L1 N p0 p1 k x14 = some c6 ∧ St [] w0 w []) N ?_ ?_)))))))
 exact ⟨0, selfA_i (by kernel_rfl), hE7, hS0⟩
 rintro k15 _ w11 ⟨x14, hq41, hL16, hS12⟩
 obtain ⟨u13, rfl⟩ := selfA_u hq41
 rcases k15 with _ | k15
 cases hL16
 first | rw [kRising_L1] at hL16 | unfold kRising_L1 at hL16
 refine gx_seq (fun K17 hK18 => gx_seq (fun K19 hK20 => gx_region (gx_k (i6 x14) w11 (gx_k (.slice A0 p0.length c0) w11 (gx_k (i6 ((p0.length : Nat) : Int)) w11 ?_)))))
 rcases if_in hL16 with ⟨h21, hL16⟩ | ⟨h21, hL16⟩
 refine gx_v (.bool true) w11 (rbE (decide_eq_true h21)) (gx_nil (gx_thenN (hK20 _ _ (gx_yes (by kernel_rfl) (gx_pass (gx_thenN (hK18 _ _ ?_)))))))
 refine gx_seq (fun K22 hK23 => gx_block (gx_seq (fun K24 hK25 => gdst (fun w => St [] w0 w []) 23 ?_)))
 have hS27 := hS12.drew
 generalize w11.drew = w26 at hS27 ⊢
 refine gv1 0 12 (.slice A0 p0.length c0) rfl hS27 (gv1 1 13 (i6 x14) rfl hS27 ?_)
 obtain ⟨x28, hx29, hL16⟩ := bind_in hL16
 refine gu1 2 14 (pI x14 A0) rfl hS27 (fun w hSw => rix 31 .i64 hx29 ((hS27.view hv0))) (gu1 3 15 (u6 x28) rfl hS27 (fun w hSw => rlx (hSw.view hv0) hx29) (gv1 4 16 (i6 (iw x28)) rfl hS27 (gv1 5 17 (i6 p1) rfl hS27 ?_)))
 rcases if_in hL16 with ⟨h30, hL16⟩ | ⟨h30, hL16⟩
 refine gu1 6 18 (.bool true) rfl hS27 (rbT h30) (gv1 7 19 (.bool true) rfl hS27 (gz1 8 20 rfl hS27 (gz1 9 21 rfl hS27 (gz1 10 22 rfl hS27 (gz1 11 23 rfl hS27 (gz1 12 24 rfl hS27 (gz1 13 25 rfl hS27 ?_)))))))
 refine gz1 14 26 rfl hS27 (gz1 15 27 rfl hS27 (gz1 16 28 rfl hS27 (gz1 17 29 rfl hS27 (gz1 18 30 rfl hS27 (gz1 19 31 rfl hS27 (gz1 20 32 rfl hS27 (gz1 21 33 rfl hS27 ?_)))))))
 refine gv1 22 34 (.bool true) rfl hS27 (gd_done (by kernel_rfl) (gx_thenN (hK25 _ _ (gx_yes (by kernel_rfl) (gx_seq (fun K31 hK32 => gx_region (gx_k (.bool false) w26 ?_)))))))
 refine gx_nil (gx_thenN (hK32 _ _ (gx_ret (gx_blkR (gx_thenR (gx_thenR (gx_blkR ?_)))))))
 refine gx_thenR ?_
 obtain rfl := sj hL16
 try dsimp only at hO8
 obtain rfl := sj hO8
 exact gxF (.bool false) ⟨_, rfl, rfl, hS27⟩
 refine gu1 6 18 (.bool false) rfl hS27 (rbF h30) (gv1 7 19 (.bool false) rfl hS27 (gv1 8 20 (i6 x14) rfl hS27 ?_))
 rcases if_in hL16 with ⟨h33, hL16⟩ | ⟨h33, hL16⟩
 refine gu1 9 21 (.bool true) rfl hS27 (rbT h33) (gv1 10 22 (.bool true) rfl hS27 (gv1 11 23 (.slice A0 p0.length c0) rfl hS27 (gv1 12 24 (i6 x14) rfl hS27 ?_)))
 obtain ⟨x34, hx35, hL16⟩ := bind_in hL16
 refine gu1 13 25 (pI x14 A0) rfl hS27 (fun w hSw => rix 31 .i64 hx35 ((hS27.view hv0))) (gu1 14 26 (u6 x34) rfl hS27 (fun w hSw => rlx (hSw.view hv0) hx35) (gv1 15 27 (.slice A0 p0.length c0) rfl hS27 (gv1 16 28 (i6 x14) rfl hS27 (gv1 17 29 (i6 (iw (x14 - 1))) rfl hS27 ?_))))
 obtain ⟨x36, hx37, hL16⟩ := bind_in hL16
 refine gu1 18 30 (pI (iw (x14 - 1)) A0) rfl hS27 (fun w hSw => rix 31 .i64 hx37 ((hS27.view hv0))) (gu1 19 31 (u6 x36) rfl hS27 (fun w hSw => rlx (hSw.view hv0) hx37) ?_)
 rcases if_in hL16 with ⟨h38, hL16⟩ | ⟨h38, hL16⟩
 refine gu1 20 32 (.bool true) rfl hS27 (rbT h38) (gv1 21 33 (.bool true) rfl hS27 (gv1 22 34 (.bool true) rfl hS27 (gd_done (by kernel_rfl) (gx_thenN (hK25 _ _ (gx_yes (by kernel_rfl) (gx_seq (fun K39 hK40 => ?_))))))))
 refine gx_region (gx_k (.bool false) w26 (gx_nil (gx_thenN (hK40 _ _ (gx_ret (gx_blkR (gx_thenR ?_)))))))
 refine gx_thenR (gx_blkR (gx_thenR ?_))
 obtain rfl := sj hL16
 try dsimp only at hO8
 obtain rfl := sj hO8
 exact gxF (.bool false) ⟨_, rfl, rfl, hS27⟩
 refine gu1 20 32 (.bool false) rfl hS27 (rbF h38) (gv1 21 33 (.bool false) rfl hS27 (gv1 22 34 (.bool false) rfl hS27 (gd_done (by kernel_rfl) (gx_thenN (hK25 _ _ (gx_no (by kernel_rfl) (gx_pass ?_)))))))
 refine gx_blkN (gx_thenN (hK23 _ _ (gx_region (gx_k (i6 x14) w26 (gx_k (i6 (iw (x14 + 1))) w26 (gx_k (i6 (iw (x14 + 1))) w26 (gx_nil (gx_thenN ?_))))))))
 exact ⟨k15, Nat.lt_succ_self k15, (iw (x14 + 1)), selfA_i (by kernel_rfl), hL16, hS27⟩
 refine gu1 9 21 (.bool false) rfl hS27 (rbF h33) (gv1 10 22 (.bool false) rfl hS27 (gz1 11 23 rfl hS27 (gz1 12 24 rfl hS27 (gz1 13 25 rfl hS27 (gz1 14 26 rfl hS27 (gz1 15 27 rfl hS27 (gz1 16 28 rfl hS27 ?_)))))))
 refine gz1 17 29 rfl hS27 (gz1 18 30 rfl hS27 (gz1 19 31 rfl hS27 (gz1 20 32 rfl hS27 (gv1 21 33 (.bool false) rfl hS27 (gv1 22 34 (.bool false) rfl hS27 (gd_done (by kernel_rfl) (gx_thenN ?_)))))))
 refine hK25 _ _ (gx_no (by kernel_rfl) (gx_pass (gx_blkN (gx_thenN (hK23 _ _ (gx_region (gx_k (i6 x14) w26 (gx_k (i6 (iw (x14 + 1))) w26 (gx_k (i6 (iw (x14 + 1))) w26 ?_)))))))))
 refine gx_nil (gx_thenN ?_)
 exact ⟨k15, Nat.lt_succ_self k15, (iw (x14 + 1)), selfA_i (by kernel_rfl), hL16, hS27⟩
 refine gx_v (.bool false) w11 (rbE (decide_eq_false h21)) (gx_nil (gx_thenN (hK20 _ _ (gx_no (by kernel_rfl) (gx_exit (gx_thenE (gx_thenE ?_)))))))
 refine gx_blkE (gx_thenN ?_)
 exact ⟨selfA_i (by kernel_rfl), (sj hL16), hS12⟩
 rintro _ w3 ⟨hq44, rfl, hS4⟩
 obtain ⟨u5, rfl⟩ := selfA_u hq44
 try dsimp only at hO8
 refine gx_seq (fun K42 hK43 => gx_region (gx_k (.bool true) w3 (gx_nil (gx_thenN (hK43 _ _ (gx_ret ?_))))))
 obtain rfl := sj hO8
 exact gxF (.bool true) ⟨_, rfl, rfl, hS4⟩
def kSets_L1 (N : Nat) (p0 : List (List Int)) (p1 : Int) : Nat → Int → Option (Ctl (Unit) (Bool))
 | 0, _ => none
 | k15+1, x14 => (if x14 < ((p0.length : Nat) : Int) then ((ixg p0 x14).bind fun x26 => (if ((x26.length : Nat) : Int) = 0 then some (Ctl.ret false) else ((ixg p0 x14).bind fun x42 => ((kRising N x42 p1).bind fun b57 => (match b57 with | true => kSets_L1 N p0 p1 k15 (IntKind.i64.wrap (x14 + 1)) | false => some (Ctl.ret false)))))) else some (Ctl.go ()))
def kSets (N : Nat) (p0 : List (List Int)) (p1 : Int) : Option (Bool) :=
 ((kSets_L1 N p0 p1 N 0 : Option (Ctl (Unit) (Bool))).bind fun | Ctl.go () => some true | Ctl.ret r => some r)
def kSets_R (r : Bool) (w0 : World) (v : Value) (w : World) : Prop := v = .bool r ∧ St [] w0 w []
theorem kSets_ok (N : Nat) (p0 : List (List Int)) (p1 : Int) (A0 : Option Addr) (c0 : Nat) (vs0 : List Value) (ft0 : List Nat) (r : Bool) (hF : kSets N p0 p1 = some r) (w0 : World) (hv0 : (fSl (rowOf (intE .u16)) A0 c0 vs0 p0).rd w0 ft0) (ho0 : Off [] w0 ft0) :
  Calls Try.prog 29 #[.slice A0 p0.length c0, .int .i64 p1] w0 fun e w => ∃ v, e = .returned v ∧ kSets_R r w0 v w := by
 have hS0 := (St.start w0).pool0
 unfold kSets at hF
 refine calls_of Try.func29 rfl ⟨((.slice A0 p0.length c0) :: (i6 p1) :: un 25 ([])).toArray, []⟩ (by kernel_rfl) (gx_seq (fun K1 hK2 => gx_region (gx_k (.bool false) w0 (gx_nil (gx_thenN (hK2 _ _ ?_))))))
 obtain ⟨c6, hE7, hO8⟩ := bind_in hF
 refine gx_cut (fun a w => selfA (fun u5 => ⟨((u5 0) :: (i6 p1) :: undef :: undef :: dd u5 4 23 ([])).toArray, []⟩) a ∧ Ctl.go () = c6 ∧ St [] w0 w [poolE ([]) w0]) ?_ ?_
 refine gx_seq (fun K9 hK10 => gx_region (gx_k (i6 0) w0 (gx_nil (gx_thenN (hK10 _ _ (gx_block (gx_loop (fun k a w => ∃ (x14 : Int), selfA (fun u13 => ⟨((.slice A0 p0.length c0) :: (i6 p1) :: undef :: undef :: (u13 4) :: (i6 x14) :: dd u13 6 21 ([])).toArray, []⟩) a ∧ kSets_L1 N p0 p1 k x14 = some c6 ∧ St [] w0 w [poolE ([]) w0]) N ?_ ?_)))))))
 exact ⟨0, selfA_i (by kernel_rfl), hE7, hS0⟩
 rintro k15 _ w11 ⟨x14, hq63, hL16, hS12⟩
 obtain ⟨u13, rfl⟩ := selfA_u hq63
 rcases k15 with _ | k15
 cases hL16
 first | rw [kSets_L1] at hL16 | unfold kSets_L1 at hL16
 refine gx_seq (fun K17 hK18 => gx_seq (fun K19 hK20 => gx_region (gx_k (i6 x14) w11 (gx_k (.slice A0 p0.length c0) w11 (gx_k (i6 ((p0.length : Nat) : Int)) w11 ?_)))))
 rcases if_in hL16 with ⟨h21, hL16⟩ | ⟨h21, hL16⟩
 refine gx_v (.bool true) w11 (rbE (decide_eq_true h21)) (gx_nil (gx_thenN (hK20 _ _ (gx_yes (by kernel_rfl) (gx_pass (gx_thenN (hK18 _ _ ?_)))))))
 refine gx_seq (fun K22 hK23 => gx_block (gx_seq (fun K24 hK25 => gx_region (gx_k (.slice A0 p0.length c0) w11 (gx_k (i6 x14) w11 ?_)))))
 obtain ⟨x26, hx27, hL16⟩ := bind_in hL16
 obtain ⟨g28, o29, e30, hA31, he32, h33, ha34⟩ := elem_at (e := (rowOf (intE .u16))) (sl_lies (hS12.inn ho0 hv0)) (sl_each hv0) hx27 (by decide)
 obtain ⟨A35, c36, vs37, rfl, hf38⟩ := h33
 have ha34 : ∀ w', Lies w' A0 vs0 → w'.rangeAt g28 o29 [.slice A35 x26.length c36] := ha34
 refine gx_v (.pointer (some ⟨g28, o29, none⟩)) w11 (run_ixaddrN (E := 60) (s := 1) (k := .i64) (c := c0) rfl (by kernel_rfl) (by kernel_rfl) (by kernel_rfl) (fun _ => by kernel_rfl) (ixg_in hx27).1 (ixg_in hx27).2.1 hA31) (gx_v (.slice A35 x26.length c36) w11 (run_loadN1 0 rfl (by kernel_rfl) (fun _ => by kernel_rfl) (ha34 _ (sl_lies (hS12.inn ho0 hv0))) rfl) (gx_k (i6 ((x26.length : Nat) : Int)) w11 ?_))
 rcases if_in hL16 with ⟨h39, hL16⟩ | ⟨h39, hL16⟩
 refine gx_v (.bool true) w11 (rbE (decide_eq_true h39)) (gx_k (.bool true) w11 (gx_o (gx_o (gx_o (gx_o (gx_o (gx_o (gx_o (gx_k (.bool true) w11 (gx_nil (gx_thenN (hK25 _ _ (gx_yes (by kernel_rfl) (gx_seq (fun K40 hK41 => ?_)))))))))))))))
 refine gx_region (gx_k (.bool false) w11 (gx_nil (gx_thenN (hK41 _ _ (gx_ret (gx_blkR (gx_thenR ?_)))))))
 refine gx_thenR (gx_blkR (gx_thenR ?_))
 obtain rfl := sj hL16
 try dsimp only at hO8
 obtain rfl := sj hO8
 exact gxF (.bool false) ⟨_, rfl, rfl, (hS12.pick [] rfl rfl)⟩
 refine gx_v (.bool false) w11 (rbE (decide_eq_false h39)) (gx_k (.bool false) w11 (gx_k (.slice A0 p0.length c0) w11 (gx_k (i6 x14) w11 ?_)))
 obtain ⟨x42, hx43, hL16⟩ := bind_in hL16
 obtain ⟨g44, o45, e46, hA47, he48, h49, ha50⟩ := elem_at (e := (rowOf (intE .u16))) (sl_lies (hS12.inn ho0 hv0)) (sl_each hv0) hx43 (by decide)
 obtain ⟨A51, c52, vs53, rfl, hf54⟩ := h49
 have ha50 : ∀ w', Lies w' A0 vs0 → w'.rangeAt g44 o45 [.slice A51 x42.length c52] := ha50
 refine gx_v (.pointer (some ⟨g44, o45, none⟩)) w11 (run_ixaddrN (E := 60) (s := 1) (k := .i64) (c := c0) rfl (by kernel_rfl) (by kernel_rfl) (by kernel_rfl) (fun _ => by kernel_rfl) (ixg_in hx43).1 (ixg_in hx43).2.1 hA47) (gx_v (.slice A51 x42.length c52) w11 (run_loadN1 0 rfl (by kernel_rfl) (fun _ => by kernel_rfl) (ha50 _ (sl_lies (hS12.inn ho0 hv0))) rfl) (gx_k (i6 p1) w11 ?_))
 have hP55 : St _ _ w11 ([] ++ [poolE ([]) w0]) := hS12
 obtain ⟨b57, hc56, hL16⟩ := bind_in hL16
 try dsimp only at hL16
 refine gx_c _ (kRising_ok N x42 p1 A51 c52 _ hc56 w11 (St.vwF (hP55.offIA ho0) (hS12.inn ho0 hf54))) ?_
 rintro _ w58 ⟨rfl, hT60⟩
 have hS59 : St _ _ w58 [poolE ([]) w0] := hS12.take _ hT60
 rcases b57 with _ | _
 try dsimp only at hL16
 refine gx_k (.bool true) w58 (gx_k (.bool true) w58 (gx_nil (gx_thenN (hK25 _ _ (gx_yes (by kernel_rfl) (gx_seq (fun K61 hK62 => gx_region (gx_k (.bool false) w58 ?_))))))))
 refine gx_nil (gx_thenN (hK62 _ _ (gx_ret (gx_blkR (gx_thenR (gx_thenR (gx_blkR ?_)))))))
 refine gx_thenR ?_
 obtain rfl := sj hL16
 try dsimp only at hO8
 obtain rfl := sj hO8
 exact gxF (.bool false) ⟨_, rfl, rfl, (hS59.pick [] rfl rfl)⟩
 try dsimp only at hL16
 refine gx_k (.bool false) w58 (gx_k (.bool false) w58 (gx_nil (gx_thenN (hK25 _ _ (gx_no (by kernel_rfl) (gx_pass (gx_blkN (gx_thenN ?_))))))))
 refine hK23 _ _ (gx_region (gx_k (i6 x14) w58 (gx_k (i6 (iw (x14 + 1))) w58 (gx_k (i6 (iw (x14 + 1))) w58 (gx_nil (gx_thenN ?_))))))
 exact ⟨k15, Nat.lt_succ_self k15, (iw (x14 + 1)), selfA_i (by kernel_rfl), hL16, hS59⟩
 refine gx_v (.bool false) w11 (rbE (decide_eq_false h21)) (gx_nil (gx_thenN (hK20 _ _ (gx_no (by kernel_rfl) (gx_exit (gx_thenE (gx_thenE ?_)))))))
 refine gx_blkE (gx_thenN ?_)
 exact ⟨selfA_i (by kernel_rfl), (sj hL16), hS12⟩
 rintro _ w3 ⟨hq66, rfl, hS4⟩
 obtain ⟨u5, rfl⟩ := selfA_u hq66
 try dsimp only at hO8
 refine gx_seq (fun K64 hK65 => gx_region (gx_k (.bool true) w3 (gx_nil (gx_thenN (hK65 _ _ (gx_ret ?_))))))
 obtain rfl := sj hO8
 exact gxF (.bool true) ⟨_, rfl, rfl, (hS4.pick [] rfl rfl)⟩
def kRightSub_L1 (N : Nat) (p1_0 : List (Int × Int)) (p2 : Int) : Nat → Int → Option (Ctl (Unit) (Bool))
 | 0, _ => none
 | k105+1, x104 => (if x104 < ((p1_0.length : Nat) : Int) then ((ixg p1_0 x104).bind fun x118 => (((if (IntKind.i64.wrap x118.1) ≥ p2 then some (true) else ((ixg p1_0 x104).bind fun x141 => (if (IntKind.i64.wrap x141.2) ≥ p2 then some (true) else some (false)))) : Option (Bool)).bind fun b134 => (match b134 with | true => some (Ctl.ret false) | false => (if x104 > 0 then ((ixg p1_0 x104).bind fun x158 => ((ixg p1_0 (IntKind.i64.wrap (x104 - 1))).bind fun x171 => (if x158.1 ≤ x171.1 then some (Ctl.ret false) else kRightSub_L1 N p1_0 p2 k105 (IntKind.i64.wrap (x104 + 1))))) else kRightSub_L1 N p1_0 p2 k105 (IntKind.i64.wrap (x104 + 1)))))) else some (Ctl.go ()))
def kRightSub_L2 (N : Nat) (p1_1 : List (Int × List Int)) (p2 : Int) : Nat → Int → Option (Ctl (Unit) (Bool))
 | 0, _ => none
 | k206+1, x205 => (if x205 < ((p1_1.length : Nat) : Int) then ((ixg p1_1 x205).bind fun x219 => (((if (IntKind.i64.wrap x219.1) ≥ p2 then some (true) else ((ixg p1_1 x205).bind fun x246 => (if (((x246.2).length : Nat) : Int) = 0 then some (true) else some (false)))) : Option (Bool)).bind fun b239 => (((match b239 with | true => some (true) | false => ((ixg p1_1 x205).bind fun x273 => ((kBelow N x273.2 p2).bind fun b292 => (match b292 with | true => some (false) | false => some (true))))) : Option (Bool)).bind fun b267 => (match b267 with | true => some (Ctl.ret false) | false => (if x205 > 0 then ((ixg p1_1 x205).bind fun x299 => ((ixg p1_1 (IntKind.i64.wrap (x205 - 1))).bind fun x316 => (if x299.1 ≤ x316.1 then some (Ctl.ret false) else kRightSub_L2 N p1_1 p2 k206 (IntKind.i64.wrap (x205 + 1))))) else kRightSub_L2 N p1_1 p2 k206 (IntKind.i64.wrap (x205 + 1))))))) else some (Ctl.go ()))
def kRightSub_L3 (N : Nat) (p1_2 : List (List Int × Int)) (p2 : Int) : Nat → Int → Option (Ctl (Unit) (Bool))
 | 0, _ => none
 | k355+1, x354 => (if x354 < ((p1_2.length : Nat) : Int) then ((ixg p1_2 x354).bind fun x368 => (((if (((x368.1).length : Nat) : Int) = 0 then some (true) else ((ixg p1_2 x354).bind fun x395 => ((kBelow N x395.1 p2).bind fun b414 => (match b414 with | true => some (false) | false => some (true))))) : Option (Bool)).bind fun b388 => (((match b388 with | true => some (true) | false => ((ixg p1_2 x354).bind fun x427 => (if (IntKind.i64.wrap x427.2) ≥ p2 then some (true) else some (false)))) : Option (Bool)).bind fun b421 => (match b421 with | true => some (Ctl.ret false) | false => (if x354 > 0 then ((ixg p1_2 x354).bind fun x448 => ((ix x448.1 (0 : Int)).bind fun x465 => ((ixg p1_2 (IntKind.i64.wrap (x354 - 1))).bind fun x467 => ((ix x467.1 (0 : Int)).bind fun x484 => (if x465 < x484 then some (Ctl.ret false) else kRightSub_L3 N p1_2 p2 k355 (IntKind.i64.wrap (x354 + 1))))))) else kRightSub_L3 N p1_2 p2 k355 (IntKind.i64.wrap (x354 + 1))))))) else some (Ctl.go ()))
def kRightSub_L4 (N : Nat) (p1_4 : List (List Int)) (p1_6 : List (Int × Int)) (p3 : Int) : Nat → Int → Option (Ctl (Unit) (Bool))
 | 0, _ => none
 | k508+1, x507 => (if x507 < ((p1_6.length : Nat) : Int) then ((ixg p1_6 x507).bind fun x519 => (((if x519.1 < 0 then some (true) else (if x519.1 ≥ ((p1_4.length : Nat) : Int) then some (true) else some (false))) : Option (Bool)).bind fun b541 => (match b541 with | true => some (Ctl.ret false) | false => (if x519.2 < 0 then some (Ctl.ret false) else (if x519.2 ≥ p3 then some (Ctl.ret false) else kRightSub_L4 N p1_4 p1_6 p3 k508 (IntKind.i64.wrap (x507 + 1))))))) else some (Ctl.go ()))
def kRightSub (N : Nat) (p0 : Int) (p1_0 : List (Int × Int)) (p1_1 : List (Int × List Int)) (p1_2 : List (List Int × Int)) (p1_3 : List (List Int)) (p1_4 : List (List Int)) (p1_5 : List (List Int)) (p1_6 : List (Int × Int)) (p2 : Int) (p3 : Int) : Option (Bool) :=
 (((((if p0 ≠ 6 then (if (IntKind.i64.wrap ((IntKind.i64.wrap ((IntKind.i64.wrap (((p1_3.length : Nat) : Int) + ((p1_4.length : Nat) : Int))) + ((p1_5.length : Nat) : Int))) + ((p1_6.length : Nat) : Int))) > 0 then some (true) else some (false)) else some (false)) : Option (Bool)).bind fun b16 => (((match b16 with | true => some (true) | false => (((if p0 ≠ 1 then (if p0 ≠ 3 then some (true) else some (false)) else some (false)) : Option (Bool)).bind fun b34 => (((match b34 with | true => (if ((p1_0.length : Nat) : Int) > 0 then some (true) else some (false)) | false => some (false)) : Option (Bool)).bind fun b44 => some (b44)))) : Option (Bool)).bind fun b26 => (((match b26 with | true => some (true) | false => (((if p0 ≠ 2 then (if ((p1_1.length : Nat) : Int) > 0 then some (true) else some (false)) else some (false)) : Option (Bool)).bind fun b61 => some (b61))) : Option (Bool)).bind fun b53 => (match b53 with | true => some (Ctl.ret false) | false => (if p0 ≠ 4 then (if ((p1_2.length : Nat) : Int) > 0 then some (Ctl.ret false) else some (Ctl.go ())) else some (Ctl.go ())))))) : Option (Ctl (Unit) (Bool))).bind fun | Ctl.go () => (((((if p0 = 1 then some (true) else (if p0 = 3 then some (true) else some (false))) : Option (Bool)).bind fun b85 => (match b85 with | true => ((kRightSub_L1 N p1_0 p2 N 0 : Option (Ctl (Unit) (Bool))).bind fun | Ctl.go () => some (Ctl.ret (decide (((p1_0.length : Nat) : Int) > 0))) | Ctl.ret r => some (Ctl.ret r)) | false => (if p0 = 2 then ((kRightSub_L2 N p1_1 p2 N 0 : Option (Ctl (Unit) (Bool))).bind fun | Ctl.go () => some (Ctl.ret (decide (((p1_1.length : Nat) : Int) > 0))) | Ctl.ret r => some (Ctl.ret r)) else (if p0 = 4 then ((kRightSub_L3 N p1_2 p2 N 0 : Option (Ctl (Unit) (Bool))).bind fun | Ctl.go () => some (Ctl.ret (decide (((p1_2.length : Nat) : Int) > 0))) | Ctl.ret r => some (Ctl.ret r)) else (if p0 = 6 then ((kRightSub_L4 N p1_4 p1_6 p3 N 0 : Option (Ctl (Unit) (Bool))).bind fun | Ctl.go () => (((if ((p1_4.length : Nat) : Int) > 0 then ((kSets N p1_3 p2).bind fun b570 => some (b570)) else some (false)) : Option (Bool)).bind fun b562 => (((match b562 with | true => ((kSets N p1_4 p2).bind fun b584 => some (b584)) | false => some (false)) : Option (Bool)).bind fun b577 => (match b577 with | true => ((kSets N p1_5 p2).bind fun b590 => some (Ctl.ret b590)) | false => some (Ctl.ret false)))) | Ctl.ret r => some (Ctl.ret r)) else some (Ctl.go ())))))) : Option (Ctl (Unit) (Bool))).bind fun | Ctl.go () => some false | Ctl.ret r => some r) | Ctl.ret r => some r)
def kRightSub_R (r : Bool) (w0 : World) (v : Value) (w : World) : Prop := v = .bool r ∧ St [] w0 w []
theorem kRightSub_ok (N : Nat) (p0 : Int) (p1_0 : List (Int × Int)) (p1_1 : List (Int × List Int)) (p1_2 : List (List Int × Int)) (p1_3 : List (List Int)) (p1_4 : List (List Int)) (p1_5 : List (List Int)) (p1_6 : List (Int × Int)) (p2 : Int) (p3 : Int) (A1_0 : Option Addr) (c1_0 : Nat) (vs1_0 : List Value) (ft1_0 : List Nat) (A1_1 : Option Addr) (c1_1 : Nat) (vs1_1 : List Value) (ft1_1 : List Nat) (A1_2 : Option Addr) (c1_2 : Nat) (vs1_2 : List Value) (ft1_2 : List Nat) (A1_3 : Option Addr) (c1_3 : Nat) (vs1_3 : List Value) (ft1_3 : List Nat) (A1_4 : Option Addr) (c1_4 : Nat) (vs1_4 : List Value) (ft1_4 : List Nat) (A1_5 : Option Addr) (c1_5 : Nat) (vs1_5 : List Value) (ft1_5 : List Nat) (A1_6 : Option Addr) (c1_6 : Nat) (vs1_6 : List Value) (ft1_6 : List Nat) (r : Bool) (hF : kRightSub N p0 p1_0 p1_1 p1_2 p1_3 p1_4 p1_5 p1_6 p2 p3 = some r) (w0 : World) (hv1_0 : (fSl (pairE (intE .u16) (intE .u16)) A1_0 c1_0 vs1_0 p1_0).rd w0 ft1_0) (ho1_0 : Off [] w0 ft1_0) (hv1_1 : (fSl (pairE (intE .u16) (rowOf (intE .u16))) A1_1 c1_1 vs1_1 p1_1).rd w0 ft1_1) (ho1_1 : Off [] w0 ft1_1) (hv1_2 : (fSl (pairE (rowOf (intE .u16)) (intE .u16)) A1_2 c1_2 vs1_2 p1_2).rd w0 ft1_2) (ho1_2 : Off [] w0 ft1_2) (hv1_3 : (fSl (rowOf (intE .u16)) A1_3 c1_3 vs1_3 p1_3).rd w0 ft1_3) (ho1_3 : Off [] w0 ft1_3) (hv1_4 : (fSl (rowOf (intE .u16)) A1_4 c1_4 vs1_4 p1_4).rd w0 ft1_4) (ho1_4 : Off [] w0 ft1_4) (hv1_5 : (fSl (rowOf (intE .u16)) A1_5 c1_5 vs1_5 p1_5).rd w0 ft1_5) (ho1_5 : Off [] w0 ft1_5) (hv1_6 : (fSl (pairE (intE .i64) (intE .i64)) A1_6 c1_6 vs1_6 p1_6).rd w0 ft1_6) (ho1_6 : Off [] w0 ft1_6) :
  Calls Try.prog 11 #[.int .u16 p0, .agg #[.slice A1_0 p1_0.length c1_0, .slice A1_1 p1_1.length c1_1, .slice A1_2 p1_2.length c1_2, .slice A1_3 p1_3.length c1_3, .slice A1_4 p1_4.length c1_4, .slice A1_5 p1_5.length c1_5, .slice A1_6 p1_6.length c1_6], .int .i64 p2, .int .i64 p3] w0 fun e w => ∃ v, e = .returned v ∧ kRightSub_R r w0 v w := by
 have hS0 := (St.start w0).pool0
 unfold kRightSub at hF
 refine calls_of Try.func11 rfl ⟨((u6 p0) :: (.agg #[.slice A1_0 p1_0.length c1_0, .slice A1_1 p1_1.length c1_1, .slice A1_2 p1_2.length c1_2, .slice A1_3 p1_3.length c1_3, .slice A1_4 p1_4.length c1_4, .slice A1_5 p1_5.length c1_5, .slice A1_6 p1_6.length c1_6]) :: (i6 p2) :: (i6 p3) :: un 307 ([])).toArray, []⟩ (by as_aux_lemma => kernel_rfl) (gx_seq (fun K1 hK2 => gx_region (gx_rA (st_boxed [.slice A1_0 p1_0.length c1_0, .slice A1_1 p1_1.length c1_1, .slice A1_2 p1_2.length c1_2, .slice A1_3 p1_3.length c1_3, .slice A1_4 p1_4.length c1_4, .slice A1_5 p1_5.length c1_5, .slice A1_6 p1_6.length c1_6] 43 hS0 (by as_aux_lemma => kernel_rfl)) ?_)))
 rintro _ w3 ⟨rfl, hS4⟩
 have hS4 : St _ _ w3 [poolE ([]) w0, boxE w0.heap.size [.slice A1_0 p1_0.length c1_0, .slice A1_1 p1_1.length c1_1, .slice A1_2 p1_2.length c1_2, .slice A1_3 p1_3.length c1_3, .slice A1_4 p1_4.length c1_4, .slice A1_5 p1_5.length c1_5, .slice A1_6 p1_6.length c1_6] 43] := hS4
 refine gx_kA (.bool false) w3 (gx_nil (gx_thenN (hK2 _ _ ?_)))
 obtain ⟨c8, hE9, hO10⟩ := bind_in hF
 refine gx_cut (fun a w => selfA (fun u7 => ⟨((u6 p0) :: (u7 1) :: (i6 p2) :: (i6 p3) :: undef :: (vP w0.heap.size) :: undef :: undef :: (u7 8) :: un 5 (dd u7 14 54 (un 243 ([])))).toArray, []⟩) a ∧ Ctl.go () = c8 ∧ St [] w0 w [poolE ([]) w0, boxE w0.heap.size [.slice A1_0 p1_0.length c1_0, .slice A1_1 p1_1.length c1_1, .slice A1_2 p1_2.length c1_2, .slice A1_3 p1_3.length c1_3, .slice A1_4 p1_4.length c1_4, .slice A1_5 p1_5.length c1_5, .slice A1_6 p1_6.length c1_6] 43]) ?_ ?_
 refine gx_seq (fun K11 hK12 => gx_region (gx_kA (u6 p0) w3 ?_))
 obtain ⟨c17, hE18, hO19⟩ := bind_in hE9
 refine gx_part (l1 := [_, _, _, _, _, _, _, _, _, _, _, _, _, _, _, _, _, _, _]) (fun a w => ∃ (b16 : Bool), selfA (fun u15 => ⟨((u6 p0) :: (u15 1) :: (i6 p2) :: (i6 p3) :: undef :: (vP w0.heap.size) :: undef :: undef :: (.bool false) :: un 5 ((u6 p0) :: dd u15 15 18 ((.bool b16) :: un 277 ([])))).toArray, []⟩) a ∧ b16 = c17 ∧ St [] w0 w [poolE ([]) w0, boxE w0.heap.size [.slice A1_0 p1_0.length c1_0, .slice A1_1 p1_1.length c1_1, .slice A1_2 p1_2.length c1_2, .slice A1_3 p1_3.length c1_3, .slice A1_4 p1_4.length c1_4, .slice A1_5 p1_5.length c1_5, .slice A1_6 p1_6.length c1_6] 43]) rfl ?_ ?_
 rcases if_in hE18 with ⟨h21, hE18⟩ | ⟨h21, hE18⟩
 refine gx_vA (.bool true) w3 (rbE (ne_yes h21)) (gx_kA (.bool true) w3 (gx_kA (vQ w0.heap.size 3) w3 (gx_vA (.slice A1_3 p1_3.length c1_3) w3 (rl1 (hS4.box 1 rfl 3 rfl)) (gx_kA (i6 ((p1_3.length : Nat) : Int)) w3 (gx_kA (vQ w0.heap.size 4) w3 (gx_vA (.slice A1_4 p1_4.length c1_4) w3 (rl1 (hS4.box 1 rfl 4 rfl)) (gx_kA (i6 ((p1_4.length : Nat) : Int)) w3 (gx_kA (i6 (iw (((p1_3.length : Nat) : Int) + ((p1_4.length : Nat) : Int)))) w3 (gx_kA (vQ w0.heap.size 5) w3 (gx_vA (.slice A1_5 p1_5.length c1_5) w3 (rl1 (hS4.box 1 rfl 5 rfl)) (gx_kA (i6 ((p1_5.length : Nat) : Int)) w3 (gx_kA (i6 (iw ((iw (((p1_3.length : Nat) : Int) + ((p1_4.length : Nat) : Int))) + ((p1_5.length : Nat) : Int)))) w3 (gx_kA (vQ w0.heap.size 6) w3 ?_)))))))))))))
 refine gx_vA (.slice A1_6 p1_6.length c1_6) w3 (rl1 (hS4.box 1 rfl 6 rfl)) (gx_kA (i6 ((p1_6.length : Nat) : Int)) w3 (gx_kA (i6 (iw ((iw ((iw (((p1_3.length : Nat) : Int) + ((p1_4.length : Nat) : Int))) + ((p1_5.length : Nat) : Int))) + ((p1_6.length : Nat) : Int)))) w3 ?_))
 rcases if_in hE18 with ⟨h22, hE18⟩ | ⟨h22, hE18⟩
 refine gx_vA (.bool true) w3 (rbE (decide_eq_true h22)) (gx_kA (.bool true) w3 (gx_nil (gx_thenN ?_)))
 exact ⟨true, selfX, (sj hE18), hS4⟩
 refine gx_vA (.bool false) w3 (rbE (decide_eq_false h22)) (gx_kA (.bool false) w3 (gx_nil (gx_thenN ?_)))
 exact ⟨false, selfX, (sj hE18), hS4⟩
 refine gx_vA (.bool false) w3 (rbE (ne_no h21)) (gx_kA (.bool false) w3 (gx_oA (gx_oA (gx_oA (gx_oA (gx_oA (gx_oA (gx_oA (gx_oA (gx_oA (gx_oA (gx_oA (gx_oA (gx_oA (gx_oA (gx_oA (gx_oA (gx_kA (.bool false) w3 (gx_nil (gx_thenN ?_))))))))))))))))))))
 exact ⟨false, selfX, (sj hE18), hS4⟩
 rintro _ w13 ⟨b16, hq20, rfl, hS14⟩
 obtain ⟨u15, rfl⟩ := selfA_u hq20
 try dsimp only at hO19
 obtain ⟨c27, hE28, hO29⟩ := bind_in hO19
 refine gx_part (l1 := [_, _, _, _, _, _, _, _, _, _, _, _, _, _]) (fun a w => ∃ (b26 : Bool), selfA (fun u25 => ⟨((u6 p0) :: (u15 1) :: (i6 p2) :: (i6 p3) :: undef :: (vP w0.heap.size) :: undef :: undef :: (.bool false) :: un 5 ((u6 p0) :: dd u15 15 18 ((.bool b16) :: dd u25 34 13 ((.bool b26) :: un 263 ([]))))).toArray, []⟩) a ∧ b26 = c27 ∧ St [] w0 w [poolE ([]) w0, boxE w0.heap.size [.slice A1_0 p1_0.length c1_0, .slice A1_1 p1_1.length c1_1, .slice A1_2 p1_2.length c1_2, .slice A1_3 p1_3.length c1_3, .slice A1_4 p1_4.length c1_4, .slice A1_5 p1_5.length c1_5, .slice A1_6 p1_6.length c1_6] 43]) rfl ?_ ?_
 refine gx_kA (.bool b16) w13 ?_
 rcases b16 with _ | _
 try dsimp only at hE28
 refine gx_kA (u6 p0) w13 ?_
 obtain ⟨c35, hE36, hO37⟩ := bind_in hE28
 refine gx_part (l1 := [_, _, _, _, _]) (fun a w => ∃ (b34 : Bool), selfA (fun u33 => ⟨((u6 p0) :: (u15 1) :: (i6 p2) :: (i6 p3) :: undef :: (vP w0.heap.size) :: undef :: undef :: (.bool false) :: un 5 ((u6 p0) :: dd u15 15 18 ((.bool false) :: (.bool false) :: (u6 p0) :: dd u33 36 4 ((.bool b34) :: un 270 ([]))))).toArray, []⟩) a ∧ b34 = c35 ∧ St [] w0 w [poolE ([]) w0, boxE w0.heap.size [.slice A1_0 p1_0.length c1_0, .slice A1_1 p1_1.length c1_1, .slice A1_2 p1_2.length c1_2, .slice A1_3 p1_3.length c1_3, .slice A1_4 p1_4.length c1_4, .slice A1_5 p1_5.length c1_5, .slice A1_6 p1_6.length c1_6] 43]) rfl ?_ ?_
 rcases if_in hE36 with ⟨h39, hE36⟩ | ⟨h39, hE36⟩
 refine gx_vA (.bool true) w13 (rbE (ne_yes h39)) (gx_kA (.bool true) w13 (gx_kA (u6 p0) w13 ?_))
 rcases if_in hE36 with ⟨h40, hE36⟩ | ⟨h40, hE36⟩
 refine gx_vA (.bool true) w13 (rbE (ne_yes h40)) (gx_kA (.bool true) w13 (gx_nil (gx_thenN ?_)))
 exact ⟨true, selfX, (sj hE36), hS14⟩
 refine gx_vA (.bool false) w13 (rbE (ne_no h40)) (gx_kA (.bool false) w13 (gx_nil (gx_thenN ?_)))
 exact ⟨false, selfX, (sj hE36), hS14⟩
 refine gx_vA (.bool false) w13 (rbE (ne_no h39)) (gx_kA (.bool false) w13 (gx_oA (gx_oA (gx_kA (.bool false) w13 (gx_nil (gx_thenN ?_))))))
 exact ⟨false, selfX, (sj hE36), hS14⟩
 rintro _ w31 ⟨b34, hq38, rfl, hS32⟩
 obtain ⟨u33, rfl⟩ := selfA_u hq38
 try dsimp only at hO37
 obtain ⟨c45, hE46, hO47⟩ := bind_in hO37
 refine gx_part (l1 := [_, _, _, _, _, _]) (fun a w => ∃ (b44 : Bool), selfA (fun u43 => ⟨((u6 p0) :: (u15 1) :: (i6 p2) :: (i6 p3) :: undef :: (vP w0.heap.size) :: undef :: undef :: (.bool false) :: un 5 ((u6 p0) :: dd u15 15 18 ((.bool false) :: (.bool false) :: (u6 p0) :: dd u33 36 4 ((.bool b34) :: dd u43 41 5 ((.bool b44) :: un 264 ([])))))).toArray, []⟩) a ∧ b44 = c45 ∧ St [] w0 w [poolE ([]) w0, boxE w0.heap.size [.slice A1_0 p1_0.length c1_0, .slice A1_1 p1_1.length c1_1, .slice A1_2 p1_2.length c1_2, .slice A1_3 p1_3.length c1_3, .slice A1_4 p1_4.length c1_4, .slice A1_5 p1_5.length c1_5, .slice A1_6 p1_6.length c1_6] 43]) rfl ?_ ?_
 refine gx_kA (.bool b34) w31 ?_
 rcases b34 with _ | _
 try dsimp only at hE46
 refine gx_oA (gx_oA (gx_oA (gx_oA (gx_kA (.bool false) w31 (gx_nil (gx_thenN ?_))))))
 exact ⟨false, selfX, (sj hE46), hS32⟩
 try dsimp only at hE46
 refine gx_kA (vP w0.heap.size) w31 (gx_vA (.slice A1_0 p1_0.length c1_0) w31 (rl1 (hS32.box 1 rfl 0 rfl)) (gx_kA (i6 ((p1_0.length : Nat) : Int)) w31 ?_))
 rcases if_in hE46 with ⟨h49, hE46⟩ | ⟨h49, hE46⟩
 refine gx_vA (.bool true) w31 (rbE (decide_eq_true h49)) (gx_kA (.bool true) w31 (gx_nil (gx_thenN ?_)))
 exact ⟨true, selfX, (sj hE46), hS32⟩
 refine gx_vA (.bool false) w31 (rbE (decide_eq_false h49)) (gx_kA (.bool false) w31 (gx_nil (gx_thenN ?_)))
 exact ⟨false, selfX, (sj hE46), hS32⟩
 rintro _ w41 ⟨b44, hq48, rfl, hS42⟩
 obtain ⟨u43, rfl⟩ := selfA_u hq48
 try dsimp only at hO47
 refine gx_kA (.bool b44) w41 (gx_nil (gx_thenN ?_))
 exact ⟨b44, selfX, (sj hO47), hS42⟩
 try dsimp only at hE28
 refine gx_oA (gx_oA (gx_oA (gx_oA (gx_oA (gx_oA (gx_oA (gx_oA (gx_oA (gx_oA (gx_oA (gx_oA (gx_kA (.bool true) w13 (gx_nil (gx_thenN ?_))))))))))))))
 exact ⟨true, selfX, (sj hE28), hS14⟩
 rintro _ w23 ⟨b26, hq30, rfl, hS24⟩
 obtain ⟨u25, rfl⟩ := selfA_u hq30
 try dsimp only at hO29
 obtain ⟨c54, hE55, hO56⟩ := bind_in hO29
 refine gx_part (l1 := [_, _, _, _, _, _, _, _, _, _]) (fun a w => ∃ (b53 : Bool), selfA (fun u52 => ⟨((u6 p0) :: (u15 1) :: (i6 p2) :: (i6 p3) :: undef :: (vP w0.heap.size) :: undef :: undef :: (.bool false) :: un 5 ((u6 p0) :: dd u15 15 18 ((.bool b16) :: dd u25 34 13 ((.bool b26) :: dd u52 48 9 ((.bool b53) :: un 253 ([])))))).toArray, []⟩) a ∧ b53 = c54 ∧ St [] w0 w [poolE ([]) w0, boxE w0.heap.size [.slice A1_0 p1_0.length c1_0, .slice A1_1 p1_1.length c1_1, .slice A1_2 p1_2.length c1_2, .slice A1_3 p1_3.length c1_3, .slice A1_4 p1_4.length c1_4, .slice A1_5 p1_5.length c1_5, .slice A1_6 p1_6.length c1_6] 43]) rfl ?_ ?_
 refine gx_kA (.bool b26) w23 ?_
 rcases b26 with _ | _
 try dsimp only at hE55
 refine gx_kA (u6 p0) w23 ?_
 obtain ⟨c62, hE63, hO64⟩ := bind_in hE55
 refine gx_part (l1 := [_, _, _, _, _, _, _]) (fun a w => ∃ (b61 : Bool), selfA (fun u60 => ⟨((u6 p0) :: (u15 1) :: (i6 p2) :: (i6 p3) :: undef :: (vP w0.heap.size) :: undef :: undef :: (.bool false) :: un 5 ((u6 p0) :: dd u15 15 18 ((.bool b16) :: dd u25 34 13 ((.bool false) :: (.bool false) :: (u6 p0) :: dd u60 50 6 ((.bool b61) :: un 254 ([])))))).toArray, []⟩) a ∧ b61 = c62 ∧ St [] w0 w [poolE ([]) w0, boxE w0.heap.size [.slice A1_0 p1_0.length c1_0, .slice A1_1 p1_1.length c1_1, .slice A1_2 p1_2.length c1_2, .slice A1_3 p1_3.length c1_3, .slice A1_4 p1_4.length c1_4, .slice A1_5 p1_5.length c1_5, .slice A1_6 p1_6.length c1_6] 43]) rfl ?_ ?_
 rcases if_in hE63 with ⟨h66, hE63⟩ | ⟨h66, hE63⟩
 refine gx_vA (.bool true) w23 (rbE (ne_yes h66)) (gx_kA (.bool true) w23 (gx_kA (vQ w0.heap.size 1) w23 (gx_vA (.slice A1_1 p1_1.length c1_1) w23 (rl1 (hS24.box 1 rfl 1 rfl)) (gx_kA (i6 ((p1_1.length : Nat) : Int)) w23 ?_))))
 rcases if_in hE63 with ⟨h67, hE63⟩ | ⟨h67, hE63⟩
 refine gx_vA (.bool true) w23 (rbE (decide_eq_true h67)) (gx_kA (.bool true) w23 (gx_nil (gx_thenN ?_)))
 exact ⟨true, selfX, (sj hE63), hS24⟩
 refine gx_vA (.bool false) w23 (rbE (decide_eq_false h67)) (gx_kA (.bool false) w23 (gx_nil (gx_thenN ?_)))
 exact ⟨false, selfX, (sj hE63), hS24⟩
 refine gx_vA (.bool false) w23 (rbE (ne_no h66)) (gx_kA (.bool false) w23 (gx_oA (gx_oA (gx_oA (gx_oA (gx_kA (.bool false) w23 (gx_nil (gx_thenN ?_))))))))
 exact ⟨false, selfX, (sj hE63), hS24⟩
 rintro _ w58 ⟨b61, hq65, rfl, hS59⟩
 obtain ⟨u60, rfl⟩ := selfA_u hq65
 try dsimp only at hO64
 refine gx_kA (.bool b61) w58 (gx_nil (gx_thenN ?_))
 exact ⟨b61, selfX, (sj hO64), hS59⟩
 try dsimp only at hE55
 refine gx_oA (gx_oA (gx_oA (gx_oA (gx_oA (gx_oA (gx_oA (gx_oA (gx_kA (.bool true) w23 (gx_nil (gx_thenN ?_))))))))))
 exact ⟨true, selfX, (sj hE55), hS24⟩
 rintro _ w50 ⟨b53, hq57, rfl, hS51⟩
 obtain ⟨u52, rfl⟩ := selfA_u hq57
 try dsimp only at hO56
 refine gx_kA (.bool b53) w50 ?_
 rcases b53 with _ | _
 try dsimp only at hO56
 refine gx_kA (u6 p0) w50 ?_
 rcases if_in hO56 with ⟨h70, hO56⟩ | ⟨h70, hO56⟩
 refine gx_vA (.bool true) w50 (rbE (ne_yes h70)) (gx_kA (.bool true) w50 (gx_kA (vQ w0.heap.size 2) w50 (gx_vA (.slice A1_2 p1_2.length c1_2) w50 (rl1 (hS51.box 1 rfl 2 rfl)) (gx_kA (i6 ((p1_2.length : Nat) : Int)) w50 ?_))))
 rcases if_in hO56 with ⟨h71, hO56⟩ | ⟨h71, hO56⟩
 refine gx_vA (.bool true) w50 (rbE (decide_eq_true h71)) (gx_kA (.bool true) w50 (gx_kA (.bool true) w50 (gx_nil (gx_thenN (hK12 _ _ (gx_yes (by as_aux_lemma => kernel_rfl) (gx_seq (fun K72 hK73 => gx_region ?_))))))))
 refine gx_kA (.bool false) w50 (gx_nil (gx_thenN (hK73 _ _ (gx_ret (gx_thenR ?_)))))
 obtain rfl := sj hO56
 try dsimp only at hO10
 obtain rfl := sj hO10
 exact gxF (.bool false) ⟨_, rfl, rfl, (hS51.pick [] rfl rfl)⟩
 refine gx_vA (.bool false) w50 (rbE (decide_eq_false h71)) (gx_kA (.bool false) w50 (gx_kA (.bool false) w50 (gx_nil (gx_thenN (hK12 _ _ (gx_no (by as_aux_lemma => kernel_rfl) (gx_pass (gx_thenN ?_))))))))
 exact ⟨selfX, (sj hO56), hS51⟩
 refine gx_vA (.bool false) w50 (rbE (ne_no h70)) (gx_kA (.bool false) w50 (gx_oA (gx_oA (gx_oA (gx_oA (gx_kA (.bool false) w50 (gx_kA (.bool false) w50 (gx_nil (gx_thenN (hK12 _ _ (gx_no (by as_aux_lemma => kernel_rfl) (gx_pass (gx_thenN ?_)))))))))))))
 exact ⟨selfX, (sj hO56), hS51⟩
 try dsimp only at hO56
 refine gx_oA (gx_oA (gx_oA (gx_oA (gx_oA (gx_oA (gx_oA (gx_oA (gx_kA (.bool true) w50 (gx_nil (gx_thenN (hK12 _ _ (gx_yes (by as_aux_lemma => kernel_rfl) (gx_seq (fun K68 hK69 => gx_region ?_))))))))))))))
 refine gx_kA (.bool false) w50 (gx_nil (gx_thenN (hK69 _ _ (gx_ret (gx_thenR ?_)))))
 obtain rfl := sj hO56
 try dsimp only at hO10
 obtain rfl := sj hO10
 exact gxF (.bool false) ⟨_, rfl, rfl, (hS51.pick [] rfl rfl)⟩
 rintro _ w5 ⟨hq599, rfl, hS6⟩
 obtain ⟨u7, rfl⟩ := selfA_u hq599
 try dsimp only at hO10
 obtain ⟨c77, hE78, hO79⟩ := bind_in hO10
 refine gx_cut (fun a w => selfA (fun u76 => ⟨((u6 p0) :: (u7 1) :: (i6 p2) :: (i6 p3) :: undef :: (vP w0.heap.size) :: undef :: undef :: dd u76 8 6 (dd u7 14 54 (dd u76 68 243 ([])))).toArray, []⟩) a ∧ Ctl.go () = c77 ∧ St [] w0 w [poolE ([]) w0, boxE w0.heap.size [.slice A1_0 p1_0.length c1_0, .slice A1_1 p1_1.length c1_1, .slice A1_2 p1_2.length c1_2, .slice A1_3 p1_3.length c1_3, .slice A1_4 p1_4.length c1_4, .slice A1_5 p1_5.length c1_5, .slice A1_6 p1_6.length c1_6] 43]) ?_ ?_
 refine gx_seq (fun K80 hK81 => gx_region (gx_kA (u6 p0) w5 (gx_nil (gx_thenN (hK81 _ _ (gx_block ?_))))))
 obtain ⟨c86, hE87, hO88⟩ := bind_in hE78
 refine gx_cut (fun a w => ∃ (b85 : Bool), selfA (fun u84 => ⟨((u6 p0) :: (u7 1) :: (i6 p2) :: (i6 p3) :: undef :: (vP w0.heap.size) :: undef :: undef :: (u7 8) :: un 5 (dd u7 14 54 ((u6 p0) :: (.bool b85) :: dd u84 70 2 (un 239 ([]))))).toArray, []⟩) a ∧ b85 = c86 ∧ St [] w0 w [poolE ([]) w0, boxE w0.heap.size [.slice A1_0 p1_0.length c1_0, .slice A1_1 p1_1.length c1_1, .slice A1_2 p1_2.length c1_2, .slice A1_3 p1_3.length c1_3, .slice A1_4 p1_4.length c1_4, .slice A1_5 p1_5.length c1_5, .slice A1_6 p1_6.length c1_6] 43]) ?_ ?_
 refine gx_seq (fun K89 hK90 => gx_region ?_)
 rcases if_in hE87 with ⟨h91, hE87⟩ | ⟨h91, hE87⟩
 refine gx_vA (.bool true) w5 (rbE (decide_eq_true h91)) (gx_kA (.bool true) w5 (gx_nil (gx_thenN (hK90 _ _ (gx_yes (by as_aux_lemma => kernel_rfl) (gx_pass (gx_thenN ?_)))))))
 exact ⟨true, selfX, (sj hE87), hS6⟩
 refine gx_vA (.bool false) w5 (rbE (decide_eq_false h91)) (gx_kA (.bool false) w5 (gx_nil (gx_thenN (hK90 _ _ (gx_no (by as_aux_lemma => kernel_rfl) (gx_region ?_))))))
 rcases if_in hE87 with ⟨h92, hE87⟩ | ⟨h92, hE87⟩
 refine gx_vA (.bool true) w5 (rbE (decide_eq_true h92)) (gx_kA (.bool true) w5 (gx_nil (gx_thenN ?_)))
 exact ⟨true, selfX, (sj hE87), hS6⟩
 refine gx_vA (.bool false) w5 (rbE (decide_eq_false h92)) (gx_kA (.bool false) w5 (gx_nil (gx_thenN ?_)))
 exact ⟨false, selfX, (sj hE87), hS6⟩
 rintro _ w82 ⟨b85, hq595, rfl, hS83⟩
 obtain ⟨u84, rfl⟩ := selfA_u hq595
 try dsimp only at hO88
 rcases b85 with _ | _
 try dsimp only at hO88
 refine gx_no (by as_aux_lemma => kernel_rfl) (gx_seq (fun K191 hK192 => gx_region ?_))
 rcases if_in hO88 with ⟨h193, hO88⟩ | ⟨h193, hO88⟩
 refine gx_vA (.bool true) w82 (rbE (decide_eq_true h193)) (gx_kA (.bool true) w82 (gx_nil (gx_thenN (hK192 _ _ (gx_yes (by as_aux_lemma => kernel_rfl) ?_)))))
 obtain ⟨c197, hE198, hO199⟩ := bind_in hO88
 refine gx_cut (fun a w => selfA (fun u196 => ⟨((u6 p0) :: (u7 1) :: (i6 p2) :: (i6 p3) :: undef :: (vP w0.heap.size) :: undef :: undef :: (u196 8) :: undef :: (u196 10) :: un 3 (dd u7 14 54 ((u6 p0) :: (.bool false) :: dd u84 70 2 (un 51 ((.bool true) :: (.bool true) :: dd u196 125 57 (un 129 ([]))))))).toArray, []⟩) a ∧ Ctl.go () = c197 ∧ St [] w0 w [poolE ([]) w0, boxE w0.heap.size [.slice A1_0 p1_0.length c1_0, .slice A1_1 p1_1.length c1_1, .slice A1_2 p1_2.length c1_2, .slice A1_3 p1_3.length c1_3, .slice A1_4 p1_4.length c1_4, .slice A1_5 p1_5.length c1_5, .slice A1_6 p1_6.length c1_6] 43]) ?_ ?_
 refine gx_seq (fun K200 hK201 => gx_region (gx_kA (i6 0) w82 (gx_nil (gx_thenN (hK201 _ _ (gx_block (gx_loop (fun k a w => ∃ (x205 : Int), selfA (fun u204 => ⟨((u6 p0) :: (u7 1) :: (i6 p2) :: (i6 p3) :: undef :: (vP w0.heap.size) :: undef :: undef :: (u204 8) :: undef :: (i6 x205) :: un 3 (dd u7 14 54 ((u6 p0) :: (.bool false) :: dd u84 70 2 (un 51 ((.bool true) :: (.bool true) :: dd u204 125 57 (un 129 ([]))))))).toArray, []⟩) a ∧ kRightSub_L2 N p1_1 p2 k x205 = some c197 ∧ St [] w0 w [poolE ([]) w0, boxE w0.heap.size [.slice A1_0 p1_0.length c1_0, .slice A1_1 p1_1.length c1_1, .slice A1_2 p1_2.length c1_2, .slice A1_3 p1_3.length c1_3, .slice A1_4 p1_4.length c1_4, .slice A1_5 p1_5.length c1_5, .slice A1_6 p1_6.length c1_6] 43]) N ?_ ?_)))))))
 exact ⟨0, selfX, hE198, hS83⟩
 rintro k206 _ w202 ⟨x205, hq336, hL207, hS203⟩
 obtain ⟨u204, rfl⟩ := selfA_u hq336
 rcases k206 with _ | k206
 cases hL207
 first | rw [kRightSub_L2] at hL207 | unfold kRightSub_L2 at hL207
 refine gx_seq (fun K208 hK209 => gx_seq (fun K210 hK211 => gx_region (gx_kA (i6 x205) w202 (gx_kA (vQ w0.heap.size 1) w202 (gx_vA (.slice A1_1 p1_1.length c1_1) w202 (rl1 (hS203.box 1 rfl 1 rfl)) (gx_kA (i6 ((p1_1.length : Nat) : Int)) w202 ?_))))))
 rcases if_in hL207 with ⟨h212, hL207⟩ | ⟨h212, hL207⟩
 refine gx_vA (.bool true) w202 (rbE (decide_eq_true h212)) (gx_nil (gx_thenN (hK211 _ _ (gx_yes (by as_aux_lemma => kernel_rfl) (gx_pass (gx_thenN (hK209 _ _ ?_)))))))
 refine gx_seq (fun K213 hK214 => gx_block (gx_seq (fun K215 hK216 => gdst (fun w => St [] w0 w [poolE ([]) w0, boxE w0.heap.size [.slice A1_0 p1_0.length c1_0, .slice A1_1 p1_1.length c1_1, .slice A1_2 p1_2.length c1_2, .slice A1_3 p1_3.length c1_3, .slice A1_4 p1_4.length c1_4, .slice A1_5 p1_5.length c1_5, .slice A1_6 p1_6.length c1_6] 43]) 50 ?_)))
 have hS218 := hS203.drew
 generalize w202.drew = w217 at hS218 ⊢
 refine gv1 0 132 (vQ w0.heap.size 1) rfl hS218 (gu1 1 133 (.slice A1_1 p1_1.length c1_1) rfl hS218 (fun w hSw => rl1 (hSw.box 1 rfl 1 rfl)) (gv1 2 134 (i6 x205) rfl hS218 ?_))
 obtain ⟨x219, hx220, hL207⟩ := bind_in hL207
 obtain ⟨g221, o222, e223, hA224, he225, h226, ha227⟩ := elem_at (e := (pairE (intE .u16) (rowOf (intE .u16)))) (sl_lies (hS218.inn ho1_1 hv1_1)) (sl_each hv1_1) hx220 (by decide)
 obtain ⟨e228, e229, rfl, h230, h231⟩ := h226
 obtain rfl := h230
 obtain ⟨A232, c233, vs234, rfl, hf235⟩ := h231
 have ha227 : ∀ w', Lies w' A1_1 vs1_1 → w'.rangeAt g221 o222 [u6 x219.1, .slice A232 ((x219.2).length) c233] := ha227
 refine gu1 3 135 (.pointer (some ⟨g221, o222, none⟩)) rfl hS218 (fun w hSw => run_ixaddrN (E := 76) (s := 2) (k := .i64) (c := c1_1) rfl (by as_aux_lemma => kernel_rfl) (by as_aux_lemma => kernel_rfl) (by as_aux_lemma => kernel_rfl) (fun _ => by kernel_rfl) (ixg_in hx220).1 (ixg_in hx220).2.1 hA224) (gv1 4 136 (.pointer (some ⟨g221, o222, none⟩)) rfl hS218 (gu1 5 137 (u6 x219.1) rfl hS218 (fun w hSw => run_loadN1 0 rfl (by as_aux_lemma => kernel_rfl) (fun _ => by kernel_rfl) (ha227 _ (sl_lies (hSw.inn ho1_1 hv1_1))) rfl) (gv1 6 138 (i6 (iw x219.1)) rfl hS218 (gv1 7 139 (i6 p2) rfl hS218 ?_))))
 obtain ⟨c240, hE241, hO242⟩ := bind_in hL207
 refine gd_mid (fun a w => ∃ (b239 : Bool), selfA (fun u238 => ⟨((u6 p0) :: (u7 1) :: (i6 p2) :: (i6 p3) :: undef :: (vP w0.heap.size) :: undef :: undef :: (u204 8) :: undef :: (i6 x205) :: un 3 (dd u7 14 54 ((u6 p0) :: (.bool false) :: dd u84 70 2 (un 51 ((.bool true) :: (.bool true) :: (i6 x205) :: (vQ w0.heap.size 1) :: (u238 127) :: (i6 ((p1_1.length : Nat) : Int)) :: (.bool true) :: dd u204 130 2 ((vQ w0.heap.size 1) :: (u238 133) :: (i6 x205) :: dd u238 135 2 ((u6 x219.1) :: (i6 (iw x219.1)) :: (i6 p2) :: dd u238 140 10 ((.bool b239) :: dd u204 151 31 (un 129 ([])))))))))).toArray, []⟩) a ∧ b239 = c240 ∧ St [] w0 w [poolE ([]) w0, boxE w0.heap.size [.slice A1_0 p1_0.length c1_0, .slice A1_1 p1_1.length c1_1, .slice A1_2 p1_2.length c1_2, .slice A1_3 p1_3.length c1_3, .slice A1_4 p1_4.length c1_4, .slice A1_5 p1_5.length c1_5, .slice A1_6 p1_6.length c1_6] 43]) 31 #[true, true, true, true, true, true, true, true, true, true, true, true, true, true, true, true, true, true, true, false, false, false, false, false, false, false, false, false, false, false, false, false, false, false, false, false, false, false, false, false, false, false, false, false, false, false, false, false, false, false] ?_ ?_
 rintro _ w236 ⟨b239, hq243, rfl, hS237⟩
 obtain ⟨u238, rfl⟩ := selfA_u hq243
 try dsimp only at hO242
 obtain ⟨c268, hE269, hO270⟩ := bind_in hO242
 refine gd_mid (fun a w => ∃ (b267 : Bool), selfA (fun u266 => ⟨((u6 p0) :: (u7 1) :: (i6 p2) :: (i6 p3) :: undef :: (vP w0.heap.size) :: undef :: undef :: (u204 8) :: undef :: (i6 x205) :: un 3 (dd u7 14 54 ((u6 p0) :: (.bool false) :: dd u84 70 2 (un 51 ((.bool true) :: (.bool true) :: (i6 x205) :: (vQ w0.heap.size 1) :: (u238 127) :: (i6 ((p1_1.length : Nat) : Int)) :: (.bool true) :: dd u204 130 2 ((vQ w0.heap.size 1) :: (u238 133) :: (i6 x205) :: dd u238 135 2 ((u6 x219.1) :: (i6 (iw x219.1)) :: (i6 p2) :: dd u238 140 10 ((.bool b239) :: dd u266 151 10 ((.bool b267) :: dd u204 162 20 (un 129 ([]))))))))))).toArray, []⟩) a ∧ b267 = c268 ∧ St [] w0 w [poolE ([]) w0, boxE w0.heap.size [.slice A1_0 p1_0.length c1_0, .slice A1_1 p1_1.length c1_1, .slice A1_2 p1_2.length c1_2, .slice A1_3 p1_3.length c1_3, .slice A1_4 p1_4.length c1_4, .slice A1_5 p1_5.length c1_5, .slice A1_6 p1_6.length c1_6] 43]) 20 #[true, true, true, true, true, true, true, true, true, true, true, true, true, true, true, true, true, true, true, true, true, true, true, true, true, true, true, true, true, true, false, false, false, false, false, false, false, false, false, false, false, false, false, false, false, false, false, false, false, false] ?_ ?_
 rintro _ w264 ⟨b267, hq271, rfl, hS265⟩
 obtain ⟨u266, rfl⟩ := selfA_u hq271
 try dsimp only at hO270
 refine gv1 30 162 (.bool b267) rfl hS265 ?_
 rcases b267 with _ | _
 try dsimp only at hO270
 refine gv1 31 163 (i6 x205) rfl hS265 ?_
 rcases if_in hO270 with ⟨h298, hO270⟩ | ⟨h298, hO270⟩
 refine gu1 32 164 (.bool true) rfl hS265 (rbT h298) (gv1 33 165 (.bool true) rfl hS265 (gv1 34 166 (vQ w0.heap.size 1) rfl hS265 (gu1 35 167 (.slice A1_1 p1_1.length c1_1) rfl hS265 (fun w hSw => rl1 (hSw.box 1 rfl 1 rfl)) (gv1 36 168 (i6 x205) rfl hS265 ?_))))
 obtain ⟨x299, hx300, hO270⟩ := bind_in hO270
 obtain ⟨g301, o302, e303, hA304, he305, h306, ha307⟩ := elem_at (e := (pairE (intE .u16) (rowOf (intE .u16)))) (sl_lies (hS265.inn ho1_1 hv1_1)) (sl_each hv1_1) hx300 (by decide)
 obtain ⟨e308, e309, rfl, h310, h311⟩ := h306
 obtain rfl := h310
 obtain ⟨A312, c313, vs314, rfl, hf315⟩ := h311
 have ha307 : ∀ w', Lies w' A1_1 vs1_1 → w'.rangeAt g301 o302 [u6 x299.1, .slice A312 ((x299.2).length) c313] := ha307
 refine gu1 37 169 (.pointer (some ⟨g301, o302, none⟩)) rfl hS265 (fun w hSw => run_ixaddrN (E := 76) (s := 2) (k := .i64) (c := c1_1) rfl (by as_aux_lemma => kernel_rfl) (by as_aux_lemma => kernel_rfl) (by as_aux_lemma => kernel_rfl) (fun _ => by kernel_rfl) (ixg_in hx300).1 (ixg_in hx300).2.1 hA304) (gv1 38 170 (.pointer (some ⟨g301, o302, none⟩)) rfl hS265 (gu1 39 171 (u6 x299.1) rfl hS265 (fun w hSw => run_loadN1 0 rfl (by as_aux_lemma => kernel_rfl) (fun _ => by kernel_rfl) (ha307 _ (sl_lies (hSw.inn ho1_1 hv1_1))) rfl) (gv1 40 172 (vQ w0.heap.size 1) rfl hS265 (gu1 41 173 (.slice A1_1 p1_1.length c1_1) rfl hS265 (fun w hSw => rl1 (hSw.box 1 rfl 1 rfl)) (gv1 42 174 (i6 x205) rfl hS265 (gv1 43 175 (i6 (iw (x205 - 1))) rfl hS265 ?_))))))
 obtain ⟨x316, hx317, hO270⟩ := bind_in hO270
 obtain ⟨g318, o319, e320, hA321, he322, h323, ha324⟩ := elem_at (e := (pairE (intE .u16) (rowOf (intE .u16)))) (sl_lies (hS265.inn ho1_1 hv1_1)) (sl_each hv1_1) hx317 (by decide)
 obtain ⟨e325, e326, rfl, h327, h328⟩ := h323
 obtain rfl := h327
 obtain ⟨A329, c330, vs331, rfl, hf332⟩ := h328
 have ha324 : ∀ w', Lies w' A1_1 vs1_1 → w'.rangeAt g318 o319 [u6 x316.1, .slice A329 ((x316.2).length) c330] := ha324
 refine gu1 44 176 (.pointer (some ⟨g318, o319, none⟩)) rfl hS265 (fun w hSw => run_ixaddrN (E := 76) (s := 2) (k := .i64) (c := c1_1) rfl (by as_aux_lemma => kernel_rfl) (by as_aux_lemma => kernel_rfl) (by as_aux_lemma => kernel_rfl) (fun _ => by kernel_rfl) (ixg_in hx317).1 (ixg_in hx317).2.1 hA321) (gv1 45 177 (.pointer (some ⟨g318, o319, none⟩)) rfl hS265 (gu1 46 178 (u6 x316.1) rfl hS265 (fun w hSw => run_loadN1 0 rfl (by as_aux_lemma => kernel_rfl) (fun _ => by kernel_rfl) (ha324 _ (sl_lies (hSw.inn ho1_1 hv1_1))) rfl) ?_))
 rcases if_in hO270 with ⟨h333, hO270⟩ | ⟨h333, hO270⟩
 refine gu1 47 179 (.bool true) rfl hS265 (rbT h333) (gv1 48 180 (.bool true) rfl hS265 (gv1 49 181 (.bool true) rfl hS265 (gd_done (by as_aux_lemma => kernel_rfl) (gx_thenN (hK216 _ _ (gx_yes (by as_aux_lemma => kernel_rfl) (gx_seq (fun K334 hK335 => ?_))))))))
 refine gx_region (gx_kA (.bool false) w264 (gx_nil (gx_thenN (hK335 _ _ (gx_ret (gx_blkR (gx_thenR ?_)))))))
 refine gx_thenR (gx_blkR (gx_thenR ?_))
 obtain rfl := sj hO270
 try dsimp only at hO199
 refine gx_blkR (gx_thenR ?_)
 obtain rfl := sj hO199
 try dsimp only at hO79
 obtain rfl := sj hO79
 exact gxF (.bool false) ⟨_, rfl, rfl, (hS265.pick [] rfl rfl)⟩
 refine gu1 47 179 (.bool false) rfl hS265 (rbF h333) (gv1 48 180 (.bool false) rfl hS265 (gv1 49 181 (.bool false) rfl hS265 (gd_done (by as_aux_lemma => kernel_rfl) (gx_thenN (hK216 _ _ (gx_no (by as_aux_lemma => kernel_rfl) (gx_pass ?_)))))))
 refine gx_blkN (gx_thenN (hK214 _ _ (gx_region (gx_kA (i6 x205) w264 (gx_kA (i6 (iw (x205 + 1))) w264 (gx_kA (i6 (iw (x205 + 1))) w264 (gx_nil (gx_thenN ?_))))))))
 exact ⟨k206, Nat.lt_succ_self k206, (iw (x205 + 1)), selfX, hO270, hS265⟩
 refine gu1 32 164 (.bool false) rfl hS265 (rbF h298) (gv1 33 165 (.bool false) rfl hS265 (gz1 34 166 rfl hS265 (gz1 35 167 rfl hS265 (gz1 36 168 rfl hS265 (gz1 37 169 rfl hS265 (gz1 38 170 rfl hS265 (gz1 39 171 rfl hS265 ?_)))))))
 refine gz1 40 172 rfl hS265 (gz1 41 173 rfl hS265 (gz1 42 174 rfl hS265 (gz1 43 175 rfl hS265 (gz1 44 176 rfl hS265 (gz1 45 177 rfl hS265 (gz1 46 178 rfl hS265 (gz1 47 179 rfl hS265 ?_)))))))
 refine gv1 48 180 (.bool false) rfl hS265 (gv1 49 181 (.bool false) rfl hS265 (gd_done (by as_aux_lemma => kernel_rfl) (gx_thenN (hK216 _ _ (gx_no (by as_aux_lemma => kernel_rfl) (gx_pass (gx_blkN ?_)))))))
 refine gx_thenN (hK214 _ _ (gx_region (gx_kA (i6 x205) w264 (gx_kA (i6 (iw (x205 + 1))) w264 (gx_kA (i6 (iw (x205 + 1))) w264 (gx_nil (gx_thenN ?_)))))))
 exact ⟨k206, Nat.lt_succ_self k206, (iw (x205 + 1)), selfX, hO270, hS265⟩
 try dsimp only at hO270
 refine gz1 31 163 rfl hS265 (gz1 32 164 rfl hS265 (gz1 33 165 rfl hS265 (gz1 34 166 rfl hS265 (gz1 35 167 rfl hS265 (gz1 36 168 rfl hS265 (gz1 37 169 rfl hS265 (gz1 38 170 rfl hS265 ?_)))))))
 refine gz1 39 171 rfl hS265 (gz1 40 172 rfl hS265 (gz1 41 173 rfl hS265 (gz1 42 174 rfl hS265 (gz1 43 175 rfl hS265 (gz1 44 176 rfl hS265 (gz1 45 177 rfl hS265 (gz1 46 178 rfl hS265 ?_)))))))
 refine gz1 47 179 rfl hS265 (gz1 48 180 rfl hS265 (gv1 49 181 (.bool true) rfl hS265 (gd_done (by as_aux_lemma => kernel_rfl) (gx_thenN (hK216 _ _ (gx_yes (by as_aux_lemma => kernel_rfl) (gx_seq (fun K296 hK297 => ?_))))))))
 refine gx_region (gx_kA (.bool false) w264 (gx_nil (gx_thenN (hK297 _ _ (gx_ret (gx_blkR (gx_thenR ?_)))))))
 refine gx_thenR (gx_blkR (gx_thenR ?_))
 obtain rfl := sj hO270
 try dsimp only at hO199
 refine gx_blkR (gx_thenR ?_)
 obtain rfl := sj hO199
 try dsimp only at hO79
 obtain rfl := sj hO79
 exact gxF (.bool false) ⟨_, rfl, rfl, (hS265.pick [] rfl rfl)⟩
 intro hK272
 refine gv1 19 151 (.bool b239) rfl hS237 ?_
 rcases b239 with _ | _
 try dsimp only at hE269
 refine gv1 20 152 (vQ w0.heap.size 1) rfl hS237 (gu1 21 153 (.slice A1_1 p1_1.length c1_1) rfl hS237 (fun w hSw => rl1 (hSw.box 1 rfl 1 rfl)) (gv1 22 154 (i6 x205) rfl hS237 ?_))
 obtain ⟨x273, hx274, hE269⟩ := bind_in hE269
 obtain ⟨g275, o276, e277, hA278, he279, h280, ha281⟩ := elem_at (e := (pairE (intE .u16) (rowOf (intE .u16)))) (sl_lies (hS237.inn ho1_1 hv1_1)) (sl_each hv1_1) hx274 (by decide)
 obtain ⟨e282, e283, rfl, h284, h285⟩ := h280
 obtain rfl := h284
 obtain ⟨A286, c287, vs288, rfl, hf289⟩ := h285
 have ha281 : ∀ w', Lies w' A1_1 vs1_1 → w'.rangeAt g275 o276 [u6 x273.1, .slice A286 ((x273.2).length) c287] := ha281
 refine gu1 23 155 (.pointer (some ⟨g275, o276, none⟩)) rfl hS237 (fun w hSw => run_ixaddrN (E := 76) (s := 2) (k := .i64) (c := c1_1) rfl (by as_aux_lemma => kernel_rfl) (by as_aux_lemma => kernel_rfl) (by as_aux_lemma => kernel_rfl) (fun _ => by kernel_rfl) (ixg_in hx274).1 (ixg_in hx274).2.1 hA278) (gv1 24 156 (.pointer (some ⟨g275, o276 + 1, none⟩)) rfl hS237 (gu1 25 157 (.slice A286 ((x273.2).length) c287) rfl hS237 (fun w hSw => run_loadN1 1 rfl (by as_aux_lemma => kernel_rfl) (fun _ => by kernel_rfl) (ha281 _ (sl_lies (hSw.inn ho1_1 hv1_1))) rfl) (gv1 26 158 (i6 p2) rfl hS237 ?_)))
 have hP290 : St _ _ w236 ([] ++ [poolE ([]) w0, boxE w0.heap.size [.slice A1_0 p1_0.length c1_0, .slice A1_1 p1_1.length c1_1, .slice A1_2 p1_2.length c1_2, .slice A1_3 p1_3.length c1_3, .slice A1_4 p1_4.length c1_4, .slice A1_5 p1_5.length c1_5, .slice A1_6 p1_6.length c1_6] 43]) := hS237
 obtain ⟨b292, hc291, hE269⟩ := bind_in hE269
 try dsimp only at hE269
 refine gdC 27 ⟨some 159, _, _, _, _, _⟩ _ rfl (by as_aux_lemma => kernel_rfl) (kBelow_ok N x273.2 p2 A286 c287 _ hc291 w236 (St.vwF (hP290.offIA ho1_1) (hS237.inn ho1_1 hf289))) ?_
 rintro _ w293 ⟨rfl, hT295⟩
 have hS294 : St _ _ w293 [poolE ([]) w0, boxE w0.heap.size [.slice A1_0 p1_0.length c1_0, .slice A1_1 p1_1.length c1_1, .slice A1_2 p1_2.length c1_2, .slice A1_3 p1_3.length c1_3, .slice A1_4 p1_4.length c1_4, .slice A1_5 p1_5.length c1_5, .slice A1_6 p1_6.length c1_6] 43] := hS237.take _ hT295
 refine ⟨hS294, ?_⟩
 rcases b292 with _ | _
 try dsimp only at hE269
 refine gv1 28 160 (.bool true) rfl hS294 (gv1 29 161 (.bool true) rfl hS294 ?_)
 exact gd_to hK272 (by as_aux_lemma => kernel_rfl) ⟨true, selfX, (sj hE269), hS294⟩
 try dsimp only at hE269
 refine gv1 28 160 (.bool false) rfl hS294 (gv1 29 161 (.bool false) rfl hS294 ?_)
 exact gd_to hK272 (by as_aux_lemma => kernel_rfl) ⟨false, selfX, (sj hE269), hS294⟩
 try dsimp only at hE269
 refine gz1 20 152 rfl hS237 (gz1 21 153 rfl hS237 (gz1 22 154 rfl hS237 (gz1 23 155 rfl hS237 (gz1 24 156 rfl hS237 (gz1 25 157 rfl hS237 (gz1 26 158 rfl hS237 (gz1 27 159 rfl hS237 ?_)))))))
 refine gz1 28 160 rfl hS237 (gv1 29 161 (.bool true) rfl hS237 ?_)
 exact gd_to hK272 (by as_aux_lemma => kernel_rfl) ⟨true, selfX, (sj hE269), hS237⟩
 intro hK244
 rcases if_in hE241 with ⟨h245, hE241⟩ | ⟨h245, hE241⟩
 refine gu1 8 140 (.bool true) rfl hS218 (rbT h245) (gv1 9 141 (.bool true) rfl hS218 (gz1 10 142 rfl hS218 (gz1 11 143 rfl hS218 (gz1 12 144 rfl hS218 (gz1 13 145 rfl hS218 (gz1 14 146 rfl hS218 (gz1 15 147 rfl hS218 ?_)))))))
 refine gz1 16 148 rfl hS218 (gz1 17 149 rfl hS218 (gv1 18 150 (.bool true) rfl hS218 ?_))
 exact gd_to hK244 (by as_aux_lemma => kernel_rfl) ⟨true, selfX, (sj hE241), hS218⟩
 refine gu1 8 140 (.bool false) rfl hS218 (rbF h245) (gv1 9 141 (.bool false) rfl hS218 (gv1 10 142 (vQ w0.heap.size 1) rfl hS218 (gu1 11 143 (.slice A1_1 p1_1.length c1_1) rfl hS218 (fun w hSw => rl1 (hSw.box 1 rfl 1 rfl)) (gv1 12 144 (i6 x205) rfl hS218 ?_))))
 obtain ⟨x246, hx247, hE241⟩ := bind_in hE241
 obtain ⟨g248, o249, e250, hA251, he252, h253, ha254⟩ := elem_at (e := (pairE (intE .u16) (rowOf (intE .u16)))) (sl_lies (hS218.inn ho1_1 hv1_1)) (sl_each hv1_1) hx247 (by decide)
 obtain ⟨e255, e256, rfl, h257, h258⟩ := h253
 obtain rfl := h257
 obtain ⟨A259, c260, vs261, rfl, hf262⟩ := h258
 have ha254 : ∀ w', Lies w' A1_1 vs1_1 → w'.rangeAt g248 o249 [u6 x246.1, .slice A259 ((x246.2).length) c260] := ha254
 refine gu1 13 145 (.pointer (some ⟨g248, o249, none⟩)) rfl hS218 (fun w hSw => run_ixaddrN (E := 76) (s := 2) (k := .i64) (c := c1_1) rfl (by as_aux_lemma => kernel_rfl) (by as_aux_lemma => kernel_rfl) (by as_aux_lemma => kernel_rfl) (fun _ => by kernel_rfl) (ixg_in hx247).1 (ixg_in hx247).2.1 hA251) (gv1 14 146 (.pointer (some ⟨g248, o249 + 1, none⟩)) rfl hS218 (gu1 15 147 (.slice A259 ((x246.2).length) c260) rfl hS218 (fun w hSw => run_loadN1 1 rfl (by as_aux_lemma => kernel_rfl) (fun _ => by kernel_rfl) (ha254 _ (sl_lies (hSw.inn ho1_1 hv1_1))) rfl) (gv1 16 148 (i6 (((x246.2).length : Nat) : Int)) rfl hS218 ?_)))
 rcases if_in hE241 with ⟨h263, hE241⟩ | ⟨h263, hE241⟩
 refine gu1 17 149 (.bool true) rfl hS218 (rbT h263) (gv1 18 150 (.bool true) rfl hS218 ?_)
 exact gd_to hK244 (by as_aux_lemma => kernel_rfl) ⟨true, selfX, (sj hE241), hS218⟩
 refine gu1 17 149 (.bool false) rfl hS218 (rbF h263) (gv1 18 150 (.bool false) rfl hS218 ?_)
 exact gd_to hK244 (by as_aux_lemma => kernel_rfl) ⟨false, selfX, (sj hE241), hS218⟩
 refine gx_vA (.bool false) w202 (rbE (decide_eq_false h212)) (gx_nil (gx_thenN (hK211 _ _ (gx_no (by as_aux_lemma => kernel_rfl) (gx_exit (gx_thenE (gx_thenE ?_)))))))
 refine gx_blkE (gx_thenN ?_)
 exact ⟨selfX, (sj hL207), hS203⟩
 rintro _ w194 ⟨hq339, rfl, hS195⟩
 obtain ⟨u196, rfl⟩ := selfA_u hq339
 try dsimp only at hO199
 refine gx_seq (fun K337 hK338 => gx_region (gx_kA (vQ w0.heap.size 1) w194 (gx_vA (.slice A1_1 p1_1.length c1_1) w194 (rl1 (hS195.box 1 rfl 1 rfl)) (gx_kA (i6 ((p1_1.length : Nat) : Int)) w194 (gx_kA (.bool (decide (((p1_1.length : Nat) : Int) > 0))) w194 (gx_kA (.bool (decide (((p1_1.length : Nat) : Int) > 0))) w194 (gx_nil (gx_thenN (hK338 _ _ ?_)))))))))
 refine gx_ret (gx_blkR (gx_thenR ?_))
 obtain rfl := sj hO199
 try dsimp only at hO79
 obtain rfl := sj hO79
 exact gxF (.bool (decide (((p1_1.length : Nat) : Int) > 0))) ⟨_, rfl, rfl, (hS195.pick [] rfl rfl)⟩
 refine gx_vA (.bool false) w82 (rbE (decide_eq_false h193)) (gx_kA (.bool false) w82 (gx_nil (gx_thenN (hK192 _ _ (gx_no (by as_aux_lemma => kernel_rfl) (gx_seq (fun K340 hK341 => gx_region ?_)))))))
 rcases if_in hO88 with ⟨h342, hO88⟩ | ⟨h342, hO88⟩
 refine gx_vA (.bool true) w82 (rbE (decide_eq_true h342)) (gx_kA (.bool true) w82 (gx_nil (gx_thenN (hK341 _ _ (gx_yes (by as_aux_lemma => kernel_rfl) ?_)))))
 obtain ⟨c346, hE347, hO348⟩ := bind_in hO88
 refine gx_cut (fun a w => selfA (fun u345 => ⟨((u6 p0) :: (u7 1) :: (i6 p2) :: (i6 p3) :: undef :: (vP w0.heap.size) :: undef :: undef :: (u345 8) :: undef :: undef :: (u345 11) :: undef :: undef :: dd u7 14 54 ((u6 p0) :: (.bool false) :: dd u84 70 2 (un 51 ((.bool false) :: (.bool false) :: un 61 ((.bool true) :: (.bool true) :: dd u345 188 61 (un 62 ([]))))))).toArray, []⟩) a ∧ Ctl.go () = c346 ∧ St [] w0 w [poolE ([]) w0, boxE w0.heap.size [.slice A1_0 p1_0.length c1_0, .slice A1_1 p1_1.length c1_1, .slice A1_2 p1_2.length c1_2, .slice A1_3 p1_3.length c1_3, .slice A1_4 p1_4.length c1_4, .slice A1_5 p1_5.length c1_5, .slice A1_6 p1_6.length c1_6] 43]) ?_ ?_
 refine gx_seq (fun K349 hK350 => gx_region (gx_kA (i6 0) w82 (gx_nil (gx_thenN (hK350 _ _ (gx_block (gx_loop (fun k a w => ∃ (x354 : Int), selfA (fun u353 => ⟨((u6 p0) :: (u7 1) :: (i6 p2) :: (i6 p3) :: undef :: (vP w0.heap.size) :: undef :: undef :: (u353 8) :: undef :: undef :: (i6 x354) :: undef :: undef :: dd u7 14 54 ((u6 p0) :: (.bool false) :: dd u84 70 2 (un 51 ((.bool false) :: (.bool false) :: un 61 ((.bool true) :: (.bool true) :: dd u353 188 61 (un 62 ([]))))))).toArray, []⟩) a ∧ kRightSub_L3 N p1_2 p2 k x354 = some c346 ∧ St [] w0 w [poolE ([]) w0, boxE w0.heap.size [.slice A1_0 p1_0.length c1_0, .slice A1_1 p1_1.length c1_1, .slice A1_2 p1_2.length c1_2, .slice A1_3 p1_3.length c1_3, .slice A1_4 p1_4.length c1_4, .slice A1_5 p1_5.length c1_5, .slice A1_6 p1_6.length c1_6] 43]) N ?_ ?_)))))))
 exact ⟨0, selfX, hE347, hS83⟩
 rintro k355 _ w351 ⟨x354, hq489, hL356, hS352⟩
 obtain ⟨u353, rfl⟩ := selfA_u hq489
 rcases k355 with _ | k355
 cases hL356
 first | rw [kRightSub_L3] at hL356 | unfold kRightSub_L3 at hL356
 refine gx_seq (fun K357 hK358 => gx_seq (fun K359 hK360 => gx_region (gx_kA (i6 x354) w351 (gx_kA (vQ w0.heap.size 2) w351 (gx_vA (.slice A1_2 p1_2.length c1_2) w351 (rl1 (hS352.box 1 rfl 2 rfl)) (gx_kA (i6 ((p1_2.length : Nat) : Int)) w351 ?_))))))
 rcases if_in hL356 with ⟨h361, hL356⟩ | ⟨h361, hL356⟩
 refine gx_vA (.bool true) w351 (rbE (decide_eq_true h361)) (gx_nil (gx_thenN (hK360 _ _ (gx_yes (by as_aux_lemma => kernel_rfl) (gx_pass (gx_thenN (hK358 _ _ ?_)))))))
 refine gx_seq (fun K362 hK363 => gx_block (gx_seq (fun K364 hK365 => gdst (fun w => St [] w0 w [poolE ([]) w0, boxE w0.heap.size [.slice A1_0 p1_0.length c1_0, .slice A1_1 p1_1.length c1_1, .slice A1_2 p1_2.length c1_2, .slice A1_3 p1_3.length c1_3, .slice A1_4 p1_4.length c1_4, .slice A1_5 p1_5.length c1_5, .slice A1_6 p1_6.length c1_6] 43]) 54 ?_)))
 have hS367 := hS352.drew
 generalize w351.drew = w366 at hS367 ⊢
 refine gv1 0 195 (vQ w0.heap.size 2) rfl hS367 (gu1 1 196 (.slice A1_2 p1_2.length c1_2) rfl hS367 (fun w hSw => rl1 (hSw.box 1 rfl 2 rfl)) (gv1 2 197 (i6 x354) rfl hS367 ?_))
 obtain ⟨x368, hx369, hL356⟩ := bind_in hL356
 obtain ⟨g370, o371, e372, hA373, he374, h375, ha376⟩ := elem_at (e := (pairE (rowOf (intE .u16)) (intE .u16))) (sl_lies (hS367.inn ho1_2 hv1_2)) (sl_each hv1_2) hx369 (by decide)
 obtain ⟨e377, e378, rfl, h379, h380⟩ := h375
 obtain ⟨A381, c382, vs383, rfl, hf384⟩ := h379
 obtain rfl := h380
 have ha376 : ∀ w', Lies w' A1_2 vs1_2 → w'.rangeAt g370 o371 [.slice A381 ((x368.1).length) c382, u6 x368.2] := ha376
 refine gu1 3 198 (.pointer (some ⟨g370, o371, none⟩)) rfl hS367 (fun w hSw => run_ixaddrN (E := 62) (s := 2) (k := .i64) (c := c1_2) rfl (by as_aux_lemma => kernel_rfl) (by as_aux_lemma => kernel_rfl) (by as_aux_lemma => kernel_rfl) (fun _ => by kernel_rfl) (ixg_in hx369).1 (ixg_in hx369).2.1 hA373) (gv1 4 199 (.pointer (some ⟨g370, o371, none⟩)) rfl hS367 (gu1 5 200 (.slice A381 ((x368.1).length) c382) rfl hS367 (fun w hSw => run_loadN1 0 rfl (by as_aux_lemma => kernel_rfl) (fun _ => by kernel_rfl) (ha376 _ (sl_lies (hSw.inn ho1_2 hv1_2))) rfl) (gv1 6 201 (i6 (((x368.1).length : Nat) : Int)) rfl hS367 ?_)))
 obtain ⟨c389, hE390, hO391⟩ := bind_in hL356
 refine gd_mid (fun a w => ∃ (b388 : Bool), selfA (fun u387 => ⟨((u6 p0) :: (u7 1) :: (i6 p2) :: (i6 p3) :: undef :: (vP w0.heap.size) :: undef :: undef :: (u353 8) :: undef :: undef :: (i6 x354) :: undef :: undef :: dd u7 14 54 ((u6 p0) :: (.bool false) :: dd u84 70 2 (un 51 ((.bool false) :: (.bool false) :: un 61 ((.bool true) :: (.bool true) :: (i6 x354) :: (vQ w0.heap.size 2) :: (u387 190) :: (i6 ((p1_2.length : Nat) : Int)) :: (.bool true) :: dd u353 193 2 ((vQ w0.heap.size 2) :: (u387 196) :: (i6 x354) :: dd u387 198 3 ((i6 (((x368.1).length : Nat) : Int)) :: dd u387 202 11 ((.bool b388) :: dd u353 214 35 (un 62 ([])))))))))).toArray, []⟩) a ∧ b388 = c389 ∧ St [] w0 w [poolE ([]) w0, boxE w0.heap.size [.slice A1_0 p1_0.length c1_0, .slice A1_1 p1_1.length c1_1, .slice A1_2 p1_2.length c1_2, .slice A1_3 p1_3.length c1_3, .slice A1_4 p1_4.length c1_4, .slice A1_5 p1_5.length c1_5, .slice A1_6 p1_6.length c1_6] 43]) 35 #[true, true, true, true, true, true, true, true, true, true, true, true, true, true, true, true, true, true, true, false, false, false, false, false, false, false, false, false, false, false, false, false, false, false, false, false, false, false, false, false, false, false, false, false, false, false, false, false, false, false, false, false, false, false] ?_ ?_
 rintro _ w385 ⟨b388, hq392, rfl, hS386⟩
 obtain ⟨u387, rfl⟩ := selfA_u hq392
 try dsimp only at hO391
 obtain ⟨c422, hE423, hO424⟩ := bind_in hO391
 refine gd_mid (fun a w => ∃ (b421 : Bool), selfA (fun u420 => ⟨((u6 p0) :: (u7 1) :: (i6 p2) :: (i6 p3) :: undef :: (vP w0.heap.size) :: undef :: undef :: (u353 8) :: undef :: undef :: (i6 x354) :: undef :: undef :: dd u7 14 54 ((u6 p0) :: (.bool false) :: dd u84 70 2 (un 51 ((.bool false) :: (.bool false) :: un 61 ((.bool true) :: (.bool true) :: (i6 x354) :: (vQ w0.heap.size 2) :: (u387 190) :: (i6 ((p1_2.length : Nat) : Int)) :: (.bool true) :: dd u353 193 2 ((vQ w0.heap.size 2) :: (u387 196) :: (i6 x354) :: dd u387 198 3 ((i6 (((x368.1).length : Nat) : Int)) :: dd u387 202 11 ((.bool b388) :: dd u420 214 10 ((.bool b421) :: dd u353 225 24 (un 62 ([]))))))))))).toArray, []⟩) a ∧ b421 = c422 ∧ St [] w0 w [poolE ([]) w0, boxE w0.heap.size [.slice A1_0 p1_0.length c1_0, .slice A1_1 p1_1.length c1_1, .slice A1_2 p1_2.length c1_2, .slice A1_3 p1_3.length c1_3, .slice A1_4 p1_4.length c1_4, .slice A1_5 p1_5.length c1_5, .slice A1_6 p1_6.length c1_6] 43]) 24 #[true, true, true, true, true, true, true, true, true, true, true, true, true, true, true, true, true, true, true, true, true, true, true, true, true, true, true, true, true, true, false, false, false, false, false, false, false, false, false, false, false, false, false, false, false, false, false, false, false, false, false, false, false, false] ?_ ?_
 rintro _ w418 ⟨b421, hq425, rfl, hS419⟩
 obtain ⟨u420, rfl⟩ := selfA_u hq425
 try dsimp only at hO424
 refine gv1 30 225 (.bool b421) rfl hS419 ?_
 rcases b421 with _ | _
 try dsimp only at hO424
 refine gv1 31 226 (i6 x354) rfl hS419 ?_
 rcases if_in hO424 with ⟨h447, hO424⟩ | ⟨h447, hO424⟩
 refine gu1 32 227 (.bool true) rfl hS419 (rbT h447) (gv1 33 228 (.bool true) rfl hS419 (gv1 34 229 (vQ w0.heap.size 2) rfl hS419 (gu1 35 230 (.slice A1_2 p1_2.length c1_2) rfl hS419 (fun w hSw => rl1 (hSw.box 1 rfl 2 rfl)) (gv1 36 231 (i6 x354) rfl hS419 ?_))))
 obtain ⟨x448, hx449, hO424⟩ := bind_in hO424
 obtain ⟨g450, o451, e452, hA453, he454, h455, ha456⟩ := elem_at (e := (pairE (rowOf (intE .u16)) (intE .u16))) (sl_lies (hS419.inn ho1_2 hv1_2)) (sl_each hv1_2) hx449 (by decide)
 obtain ⟨e457, e458, rfl, h459, h460⟩ := h455
 obtain ⟨A461, c462, vs463, rfl, hf464⟩ := h459
 obtain rfl := h460
 have ha456 : ∀ w', Lies w' A1_2 vs1_2 → w'.rangeAt g450 o451 [.slice A461 ((x448.1).length) c462, u6 x448.2] := ha456
 refine gu1 37 232 (.pointer (some ⟨g450, o451, none⟩)) rfl hS419 (fun w hSw => run_ixaddrN (E := 62) (s := 2) (k := .i64) (c := c1_2) rfl (by as_aux_lemma => kernel_rfl) (by as_aux_lemma => kernel_rfl) (by as_aux_lemma => kernel_rfl) (fun _ => by kernel_rfl) (ixg_in hx449).1 (ixg_in hx449).2.1 hA453) (gv1 38 233 (.pointer (some ⟨g450, o451, none⟩)) rfl hS419 (gu1 39 234 (.slice A461 ((x448.1).length) c462) rfl hS419 (fun w hSw => run_loadN1 0 rfl (by as_aux_lemma => kernel_rfl) (fun _ => by kernel_rfl) (ha456 _ (sl_lies (hSw.inn ho1_2 hv1_2))) rfl) ?_))
 obtain ⟨x465, hx466, hO424⟩ := bind_in hO424
 refine gu1 40 235 (pI 0 A461) rfl hS419 (fun w hSw => rix 31 .i64 hx466 ((num_sl (hS419.inn ho1_2 hf464)))) (gu1 41 236 (u6 x465) rfl hS419 (fun w hSw => rlx (num_sl (hSw.inn ho1_2 hf464)) hx466) (gv1 42 237 (vQ w0.heap.size 2) rfl hS419 (gu1 43 238 (.slice A1_2 p1_2.length c1_2) rfl hS419 (fun w hSw => rl1 (hSw.box 1 rfl 2 rfl)) (gv1 44 239 (i6 x354) rfl hS419 (gv1 45 240 (i6 (iw (x354 - 1))) rfl hS419 ?_)))))
 obtain ⟨x467, hx468, hO424⟩ := bind_in hO424
 obtain ⟨g469, o470, e471, hA472, he473, h474, ha475⟩ := elem_at (e := (pairE (rowOf (intE .u16)) (intE .u16))) (sl_lies (hS419.inn ho1_2 hv1_2)) (sl_each hv1_2) hx468 (by decide)
 obtain ⟨e476, e477, rfl, h478, h479⟩ := h474
 obtain ⟨A480, c481, vs482, rfl, hf483⟩ := h478
 obtain rfl := h479
 have ha475 : ∀ w', Lies w' A1_2 vs1_2 → w'.rangeAt g469 o470 [.slice A480 ((x467.1).length) c481, u6 x467.2] := ha475
 refine gu1 46 241 (.pointer (some ⟨g469, o470, none⟩)) rfl hS419 (fun w hSw => run_ixaddrN (E := 62) (s := 2) (k := .i64) (c := c1_2) rfl (by as_aux_lemma => kernel_rfl) (by as_aux_lemma => kernel_rfl) (by as_aux_lemma => kernel_rfl) (fun _ => by kernel_rfl) (ixg_in hx468).1 (ixg_in hx468).2.1 hA472) (gv1 47 242 (.pointer (some ⟨g469, o470, none⟩)) rfl hS419 (gu1 48 243 (.slice A480 ((x467.1).length) c481) rfl hS419 (fun w hSw => run_loadN1 0 rfl (by as_aux_lemma => kernel_rfl) (fun _ => by kernel_rfl) (ha475 _ (sl_lies (hSw.inn ho1_2 hv1_2))) rfl) ?_))
 obtain ⟨x484, hx485, hO424⟩ := bind_in hO424
 refine gu1 49 244 (pI 0 A480) rfl hS419 (fun w hSw => rix 31 .i64 hx485 ((num_sl (hS419.inn ho1_2 hf483)))) (gu1 50 245 (u6 x484) rfl hS419 (fun w hSw => rlx (num_sl (hSw.inn ho1_2 hf483)) hx485) ?_)
 rcases if_in hO424 with ⟨h486, hO424⟩ | ⟨h486, hO424⟩
 refine gu1 51 246 (.bool true) rfl hS419 (rbT h486) (gv1 52 247 (.bool true) rfl hS419 (gv1 53 248 (.bool true) rfl hS419 (gd_done (by as_aux_lemma => kernel_rfl) (gx_thenN (hK365 _ _ (gx_yes (by as_aux_lemma => kernel_rfl) (gx_seq (fun K487 hK488 => ?_))))))))
 refine gx_region (gx_kA (.bool false) w418 (gx_nil (gx_thenN (hK488 _ _ (gx_ret (gx_blkR (gx_thenR ?_)))))))
 refine gx_thenR (gx_blkR (gx_thenR ?_))
 obtain rfl := sj hO424
 try dsimp only at hO348
 refine gx_blkR (gx_thenR ?_)
 obtain rfl := sj hO348
 try dsimp only at hO79
 obtain rfl := sj hO79
 exact gxF (.bool false) ⟨_, rfl, rfl, (hS419.pick [] rfl rfl)⟩
 refine gu1 51 246 (.bool false) rfl hS419 (rbF h486) (gv1 52 247 (.bool false) rfl hS419 (gv1 53 248 (.bool false) rfl hS419 (gd_done (by as_aux_lemma => kernel_rfl) (gx_thenN (hK365 _ _ (gx_no (by as_aux_lemma => kernel_rfl) (gx_pass ?_)))))))
 refine gx_blkN (gx_thenN (hK363 _ _ (gx_region (gx_kA (i6 x354) w418 (gx_kA (i6 (iw (x354 + 1))) w418 (gx_kA (i6 (iw (x354 + 1))) w418 (gx_nil (gx_thenN ?_))))))))
 exact ⟨k355, Nat.lt_succ_self k355, (iw (x354 + 1)), selfX, hO424, hS419⟩
 refine gu1 32 227 (.bool false) rfl hS419 (rbF h447) (gv1 33 228 (.bool false) rfl hS419 (gz1 34 229 rfl hS419 (gz1 35 230 rfl hS419 (gz1 36 231 rfl hS419 (gz1 37 232 rfl hS419 (gz1 38 233 rfl hS419 (gz1 39 234 rfl hS419 ?_)))))))
 refine gz1 40 235 rfl hS419 (gz1 41 236 rfl hS419 (gz1 42 237 rfl hS419 (gz1 43 238 rfl hS419 (gz1 44 239 rfl hS419 (gz1 45 240 rfl hS419 (gz1 46 241 rfl hS419 (gz1 47 242 rfl hS419 ?_)))))))
 refine gz1 48 243 rfl hS419 (gz1 49 244 rfl hS419 (gz1 50 245 rfl hS419 (gz1 51 246 rfl hS419 (gv1 52 247 (.bool false) rfl hS419 (gv1 53 248 (.bool false) rfl hS419 (gd_done (by as_aux_lemma => kernel_rfl) (gx_thenN ?_)))))))
 refine hK365 _ _ (gx_no (by as_aux_lemma => kernel_rfl) (gx_pass (gx_blkN (gx_thenN (hK363 _ _ (gx_region (gx_kA (i6 x354) w418 (gx_kA (i6 (iw (x354 + 1))) w418 (gx_kA (i6 (iw (x354 + 1))) w418 ?_)))))))))
 refine gx_nil (gx_thenN ?_)
 exact ⟨k355, Nat.lt_succ_self k355, (iw (x354 + 1)), selfX, hO424, hS419⟩
 try dsimp only at hO424
 refine gz1 31 226 rfl hS419 (gz1 32 227 rfl hS419 (gz1 33 228 rfl hS419 (gz1 34 229 rfl hS419 (gz1 35 230 rfl hS419 (gz1 36 231 rfl hS419 (gz1 37 232 rfl hS419 (gz1 38 233 rfl hS419 ?_)))))))
 refine gz1 39 234 rfl hS419 (gz1 40 235 rfl hS419 (gz1 41 236 rfl hS419 (gz1 42 237 rfl hS419 (gz1 43 238 rfl hS419 (gz1 44 239 rfl hS419 (gz1 45 240 rfl hS419 (gz1 46 241 rfl hS419 ?_)))))))
 refine gz1 47 242 rfl hS419 (gz1 48 243 rfl hS419 (gz1 49 244 rfl hS419 (gz1 50 245 rfl hS419 (gz1 51 246 rfl hS419 (gz1 52 247 rfl hS419 (gv1 53 248 (.bool true) rfl hS419 (gd_done (by as_aux_lemma => kernel_rfl) ?_)))))))
 refine gx_thenN (hK365 _ _ (gx_yes (by as_aux_lemma => kernel_rfl) (gx_seq (fun K445 hK446 => gx_region (gx_kA (.bool false) w418 (gx_nil (gx_thenN ?_)))))))
 refine hK446 _ _ (gx_ret (gx_blkR (gx_thenR (gx_thenR (gx_blkR (gx_thenR ?_))))))
 obtain rfl := sj hO424
 try dsimp only at hO348
 refine gx_blkR (gx_thenR ?_)
 obtain rfl := sj hO348
 try dsimp only at hO79
 obtain rfl := sj hO79
 exact gxF (.bool false) ⟨_, rfl, rfl, (hS419.pick [] rfl rfl)⟩
 intro hK426
 refine gv1 19 214 (.bool b388) rfl hS386 ?_
 rcases b388 with _ | _
 try dsimp only at hE423
 refine gv1 20 215 (vQ w0.heap.size 2) rfl hS386 (gu1 21 216 (.slice A1_2 p1_2.length c1_2) rfl hS386 (fun w hSw => rl1 (hSw.box 1 rfl 2 rfl)) (gv1 22 217 (i6 x354) rfl hS386 ?_))
 obtain ⟨x427, hx428, hE423⟩ := bind_in hE423
 obtain ⟨g429, o430, e431, hA432, he433, h434, ha435⟩ := elem_at (e := (pairE (rowOf (intE .u16)) (intE .u16))) (sl_lies (hS386.inn ho1_2 hv1_2)) (sl_each hv1_2) hx428 (by decide)
 obtain ⟨e436, e437, rfl, h438, h439⟩ := h434
 obtain ⟨A440, c441, vs442, rfl, hf443⟩ := h438
 obtain rfl := h439
 have ha435 : ∀ w', Lies w' A1_2 vs1_2 → w'.rangeAt g429 o430 [.slice A440 ((x427.1).length) c441, u6 x427.2] := ha435
 refine gu1 23 218 (.pointer (some ⟨g429, o430, none⟩)) rfl hS386 (fun w hSw => run_ixaddrN (E := 62) (s := 2) (k := .i64) (c := c1_2) rfl (by as_aux_lemma => kernel_rfl) (by as_aux_lemma => kernel_rfl) (by as_aux_lemma => kernel_rfl) (fun _ => by kernel_rfl) (ixg_in hx428).1 (ixg_in hx428).2.1 hA432) (gv1 24 219 (.pointer (some ⟨g429, o430 + 1, none⟩)) rfl hS386 (gu1 25 220 (u6 x427.2) rfl hS386 (fun w hSw => run_loadN1 1 rfl (by as_aux_lemma => kernel_rfl) (fun _ => by kernel_rfl) (ha435 _ (sl_lies (hSw.inn ho1_2 hv1_2))) rfl) (gv1 26 221 (i6 (iw x427.2)) rfl hS386 (gv1 27 222 (i6 p2) rfl hS386 ?_))))
 rcases if_in hE423 with ⟨h444, hE423⟩ | ⟨h444, hE423⟩
 refine gu1 28 223 (.bool true) rfl hS386 (rbT h444) (gv1 29 224 (.bool true) rfl hS386 ?_)
 exact gd_to hK426 (by as_aux_lemma => kernel_rfl) ⟨true, selfX, (sj hE423), hS386⟩
 refine gu1 28 223 (.bool false) rfl hS386 (rbF h444) (gv1 29 224 (.bool false) rfl hS386 ?_)
 exact gd_to hK426 (by as_aux_lemma => kernel_rfl) ⟨false, selfX, (sj hE423), hS386⟩
 try dsimp only at hE423
 refine gz1 20 215 rfl hS386 (gz1 21 216 rfl hS386 (gz1 22 217 rfl hS386 (gz1 23 218 rfl hS386 (gz1 24 219 rfl hS386 (gz1 25 220 rfl hS386 (gz1 26 221 rfl hS386 (gz1 27 222 rfl hS386 ?_)))))))
 refine gz1 28 223 rfl hS386 (gv1 29 224 (.bool true) rfl hS386 ?_)
 exact gd_to hK426 (by as_aux_lemma => kernel_rfl) ⟨true, selfX, (sj hE423), hS386⟩
 intro hK393
 rcases if_in hE390 with ⟨h394, hE390⟩ | ⟨h394, hE390⟩
 refine gu1 7 202 (.bool true) rfl hS367 (rbT h394) (gv1 8 203 (.bool true) rfl hS367 (gz1 9 204 rfl hS367 (gz1 10 205 rfl hS367 (gz1 11 206 rfl hS367 (gz1 12 207 rfl hS367 (gz1 13 208 rfl hS367 (gz1 14 209 rfl hS367 ?_)))))))
 refine gz1 15 210 rfl hS367 (gz1 16 211 rfl hS367 (gz1 17 212 rfl hS367 (gv1 18 213 (.bool true) rfl hS367 ?_)))
 exact gd_to hK393 (by as_aux_lemma => kernel_rfl) ⟨true, selfX, (sj hE390), hS367⟩
 refine gu1 7 202 (.bool false) rfl hS367 (rbF h394) (gv1 8 203 (.bool false) rfl hS367 (gv1 9 204 (vQ w0.heap.size 2) rfl hS367 (gu1 10 205 (.slice A1_2 p1_2.length c1_2) rfl hS367 (fun w hSw => rl1 (hSw.box 1 rfl 2 rfl)) (gv1 11 206 (i6 x354) rfl hS367 ?_))))
 obtain ⟨x395, hx396, hE390⟩ := bind_in hE390
 obtain ⟨g397, o398, e399, hA400, he401, h402, ha403⟩ := elem_at (e := (pairE (rowOf (intE .u16)) (intE .u16))) (sl_lies (hS367.inn ho1_2 hv1_2)) (sl_each hv1_2) hx396 (by decide)
 obtain ⟨e404, e405, rfl, h406, h407⟩ := h402
 obtain ⟨A408, c409, vs410, rfl, hf411⟩ := h406
 obtain rfl := h407
 have ha403 : ∀ w', Lies w' A1_2 vs1_2 → w'.rangeAt g397 o398 [.slice A408 ((x395.1).length) c409, u6 x395.2] := ha403
 refine gu1 12 207 (.pointer (some ⟨g397, o398, none⟩)) rfl hS367 (fun w hSw => run_ixaddrN (E := 62) (s := 2) (k := .i64) (c := c1_2) rfl (by as_aux_lemma => kernel_rfl) (by as_aux_lemma => kernel_rfl) (by as_aux_lemma => kernel_rfl) (fun _ => by kernel_rfl) (ixg_in hx396).1 (ixg_in hx396).2.1 hA400) (gv1 13 208 (.pointer (some ⟨g397, o398, none⟩)) rfl hS367 (gu1 14 209 (.slice A408 ((x395.1).length) c409) rfl hS367 (fun w hSw => run_loadN1 0 rfl (by as_aux_lemma => kernel_rfl) (fun _ => by kernel_rfl) (ha403 _ (sl_lies (hSw.inn ho1_2 hv1_2))) rfl) (gv1 15 210 (i6 p2) rfl hS367 ?_)))
 have hP412 : St _ _ w366 ([] ++ [poolE ([]) w0, boxE w0.heap.size [.slice A1_0 p1_0.length c1_0, .slice A1_1 p1_1.length c1_1, .slice A1_2 p1_2.length c1_2, .slice A1_3 p1_3.length c1_3, .slice A1_4 p1_4.length c1_4, .slice A1_5 p1_5.length c1_5, .slice A1_6 p1_6.length c1_6] 43]) := hS367
 obtain ⟨b414, hc413, hE390⟩ := bind_in hE390
 try dsimp only at hE390
 refine gdC 16 ⟨some 211, _, _, _, _, _⟩ _ rfl (by as_aux_lemma => kernel_rfl) (kBelow_ok N x395.1 p2 A408 c409 _ hc413 w366 (St.vwF (hP412.offIA ho1_2) (hS367.inn ho1_2 hf411))) ?_
 rintro _ w415 ⟨rfl, hT417⟩
 have hS416 : St _ _ w415 [poolE ([]) w0, boxE w0.heap.size [.slice A1_0 p1_0.length c1_0, .slice A1_1 p1_1.length c1_1, .slice A1_2 p1_2.length c1_2, .slice A1_3 p1_3.length c1_3, .slice A1_4 p1_4.length c1_4, .slice A1_5 p1_5.length c1_5, .slice A1_6 p1_6.length c1_6] 43] := hS367.take _ hT417
 refine ⟨hS416, ?_⟩
 rcases b414 with _ | _
 try dsimp only at hE390
 refine gv1 17 212 (.bool true) rfl hS416 (gv1 18 213 (.bool true) rfl hS416 ?_)
 exact gd_to hK393 (by as_aux_lemma => kernel_rfl) ⟨true, selfX, (sj hE390), hS416⟩
 try dsimp only at hE390
 refine gv1 17 212 (.bool false) rfl hS416 (gv1 18 213 (.bool false) rfl hS416 ?_)
 exact gd_to hK393 (by as_aux_lemma => kernel_rfl) ⟨false, selfX, (sj hE390), hS416⟩
 refine gx_vA (.bool false) w351 (rbE (decide_eq_false h361)) (gx_nil (gx_thenN (hK360 _ _ (gx_no (by as_aux_lemma => kernel_rfl) (gx_exit (gx_thenE (gx_thenE ?_)))))))
 refine gx_blkE (gx_thenN ?_)
 exact ⟨selfX, (sj hL356), hS352⟩
 rintro _ w343 ⟨hq492, rfl, hS344⟩
 obtain ⟨u345, rfl⟩ := selfA_u hq492
 try dsimp only at hO348
 refine gx_seq (fun K490 hK491 => gx_region (gx_kA (vQ w0.heap.size 2) w343 (gx_vA (.slice A1_2 p1_2.length c1_2) w343 (rl1 (hS344.box 1 rfl 2 rfl)) (gx_kA (i6 ((p1_2.length : Nat) : Int)) w343 (gx_kA (.bool (decide (((p1_2.length : Nat) : Int) > 0))) w343 (gx_kA (.bool (decide (((p1_2.length : Nat) : Int) > 0))) w343 (gx_nil (gx_thenN (hK491 _ _ ?_)))))))))
 refine gx_ret (gx_blkR (gx_thenR ?_))
 obtain rfl := sj hO348
 try dsimp only at hO79
 obtain rfl := sj hO79
 exact gxF (.bool (decide (((p1_2.length : Nat) : Int) > 0))) ⟨_, rfl, rfl, (hS344.pick [] rfl rfl)⟩
 refine gx_vA (.bool false) w82 (rbE (decide_eq_false h342)) (gx_kA (.bool false) w82 (gx_nil (gx_thenN (hK341 _ _ (gx_no (by as_aux_lemma => kernel_rfl) (gx_seq (fun K493 hK494 => gx_region ?_)))))))
 rcases if_in hO88 with ⟨h495, hO88⟩ | ⟨h495, hO88⟩
 refine gx_vA (.bool true) w82 (rbE (decide_eq_true h495)) (gx_kA (.bool true) w82 (gx_nil (gx_thenN (hK494 _ _ (gx_yes (by as_aux_lemma => kernel_rfl) ?_)))))
 obtain ⟨c499, hE500, hO501⟩ := bind_in hO88
 refine gx_cut (fun a w => selfA (fun u498 => ⟨((u6 p0) :: (u7 1) :: (i6 p2) :: (i6 p3) :: undef :: (vP w0.heap.size) :: undef :: undef :: (u498 8) :: un 3 (dd u498 12 2 (dd u7 14 54 ((u6 p0) :: (.bool false) :: dd u84 70 2 (un 51 ((.bool false) :: (.bool false) :: un 61 ((.bool false) :: (.bool false) :: un 65 ((.bool true) :: (.bool true) :: dd u498 255 34 (un 22 ([])))))))))).toArray, []⟩) a ∧ Ctl.go () = c499 ∧ St [] w0 w [poolE ([]) w0, boxE w0.heap.size [.slice A1_0 p1_0.length c1_0, .slice A1_1 p1_1.length c1_1, .slice A1_2 p1_2.length c1_2, .slice A1_3 p1_3.length c1_3, .slice A1_4 p1_4.length c1_4, .slice A1_5 p1_5.length c1_5, .slice A1_6 p1_6.length c1_6] 43]) ?_ ?_
 refine gx_seq (fun K502 hK503 => gx_region (gx_kA (i6 0) w82 (gx_nil (gx_thenN (hK503 _ _ (gx_block (gx_loop (fun k a w => ∃ (x507 : Int), selfA (fun u506 => ⟨((u6 p0) :: (u7 1) :: (i6 p2) :: (i6 p3) :: undef :: (vP w0.heap.size) :: undef :: undef :: (u506 8) :: un 3 ((i6 x507) :: (u506 13) :: dd u7 14 54 ((u6 p0) :: (.bool false) :: dd u84 70 2 (un 51 ((.bool false) :: (.bool false) :: un 61 ((.bool false) :: (.bool false) :: un 65 ((.bool true) :: (.bool true) :: dd u506 255 34 (un 22 ([]))))))))).toArray, []⟩) a ∧ kRightSub_L4 N p1_4 p1_6 p3 k x507 = some c499 ∧ St [] w0 w [poolE ([]) w0, boxE w0.heap.size [.slice A1_0 p1_0.length c1_0, .slice A1_1 p1_1.length c1_1, .slice A1_2 p1_2.length c1_2, .slice A1_3 p1_3.length c1_3, .slice A1_4 p1_4.length c1_4, .slice A1_5 p1_5.length c1_5, .slice A1_6 p1_6.length c1_6] 43]) N ?_ ?_)))))))
 exact ⟨0, selfX, hE500, hS83⟩
 rintro k508 _ w504 ⟨x507, hq556, hL509, hS505⟩
 obtain ⟨u506, rfl⟩ := selfA_u hq556
 rcases k508 with _ | k508
 cases hL509
 first | rw [kRightSub_L4] at hL509 | unfold kRightSub_L4 at hL509
 refine gx_seq (fun K510 hK511 => gx_seq (fun K512 hK513 => gx_region (gx_kA (i6 x507) w504 (gx_kA (vQ w0.heap.size 6) w504 (gx_vA (.slice A1_6 p1_6.length c1_6) w504 (rl1 (hS505.box 1 rfl 6 rfl)) (gx_kA (i6 ((p1_6.length : Nat) : Int)) w504 ?_))))))
 rcases if_in hL509 with ⟨h514, hL509⟩ | ⟨h514, hL509⟩
 refine gx_vA (.bool true) w504 (rbE (decide_eq_true h514)) (gx_nil (gx_thenN (hK513 _ _ (gx_yes (by as_aux_lemma => kernel_rfl) (gx_pass (gx_thenN (hK511 _ _ ?_)))))))
 refine gx_seq (fun K515 hK516 => gx_block (gx_seq (fun K517 hK518 => gx_region (gx_kA (vQ w0.heap.size 6) w504 (gx_vA (.slice A1_6 p1_6.length c1_6) w504 (rl1 (hS505.box 1 rfl 6 rfl)) (gx_kA (i6 x507) w504 ?_))))))
 obtain ⟨x519, hx520, hL509⟩ := bind_in hL509
 obtain ⟨g521, o522, e523, hA524, he525, h526, ha527⟩ := elem_at (e := (pairE (intE .i64) (intE .i64))) (sl_lies (hS505.inn ho1_6 hv1_6)) (sl_each hv1_6) hx520 (by decide)
 obtain ⟨e528, e529, rfl, h530, h531⟩ := h526
 obtain rfl := h530
 obtain rfl := h531
 have ha527 : ∀ w', Lies w' A1_6 vs1_6 → w'.rangeAt g521 o522 [i6 x519.1, i6 x519.2] := ha527
 refine gx_vA (.pointer (some ⟨g521, o522, none⟩)) w504 (run_ixaddrN (E := 79) (s := 2) (k := .i64) (c := c1_6) rfl (by as_aux_lemma => kernel_rfl) (by as_aux_lemma => kernel_rfl) (by as_aux_lemma => kernel_rfl) (fun _ => by kernel_rfl) (ixg_in hx520).1 (ixg_in hx520).2.1 hA524) (gx_vA (.agg #[i6 x519.1, i6 x519.2]) w504 (run_loadNG (d := _) (ec := [i6 x519.1, i6 x519.2]) rfl (by as_aux_lemma => kernel_rfl) (ha527 _ (sl_lies (hS505.inn ho1_6 hv1_6))) rfl rfl (by as_aux_lemma => kernel_rfl)) (gx_rA (st_boxed [i6 0, i6 0] 79 hS505 (by as_aux_lemma => kernel_rfl)) ?_))
 rintro _ w532 ⟨rfl, hS533⟩
 have hS533 : St _ _ w532 [poolE ([]) w0, boxE w0.heap.size [.slice A1_0 p1_0.length c1_0, .slice A1_1 p1_1.length c1_1, .slice A1_2 p1_2.length c1_2, .slice A1_3 p1_3.length c1_3, .slice A1_4 p1_4.length c1_4, .slice A1_5 p1_5.length c1_5, .slice A1_6 p1_6.length c1_6] 43, boxE w504.heap.size [i6 0, i6 0] 79] := hS533
 refine gx_sA (st_storeG (cs := [i6 0, i6 0]) (ds := [i6 x519.1, i6 x519.2]) rfl (by as_aux_lemma => kernel_rfl) (by as_aux_lemma => kernel_rfl) (by as_aux_lemma => kernel_rfl) rfl rfl hS533 2 rfl) ?_
 rintro w534 hS535
 have hS535 : St _ _ w534 [poolE ([]) w0, boxE w0.heap.size [.slice A1_0 p1_0.length c1_0, .slice A1_1 p1_1.length c1_1, .slice A1_2 p1_2.length c1_2, .slice A1_3 p1_3.length c1_3, .slice A1_4 p1_4.length c1_4, .slice A1_5 p1_5.length c1_5, .slice A1_6 p1_6.length c1_6] 43, boxE w504.heap.size [i6 x519.1, i6 x519.2] 79] := hS535
 refine gx_nil (gx_thenN (hK518 _ _ (gx_seq (fun K536 hK537 => gx_region (gx_kA (vP w504.heap.size) w534 (gx_vA (i6 x519.1) w534 (rl1 (hS535.box 2 rfl 0 rfl)) ?_))))))
 obtain ⟨c542, hE543, hO544⟩ := bind_in hL509
 refine gx_part (l1 := [_, _, _, _, _, _, _, _, _]) (fun a w => ∃ (b541 : Bool), selfA (fun u540 => ⟨((u6 p0) :: (u7 1) :: (i6 p2) :: (i6 p3) :: undef :: (vP w0.heap.size) :: undef :: undef :: (u506 8) :: un 3 ((i6 x507) :: (vP w504.heap.size) :: dd u7 14 54 ((u6 p0) :: (.bool false) :: dd u84 70 2 (un 51 ((.bool false) :: (.bool false) :: un 61 ((.bool false) :: (.bool false) :: un 65 ((.bool true) :: (.bool true) :: (i6 x507) :: (vQ w0.heap.size 6) :: (u540 257) :: (i6 ((p1_6.length : Nat) : Int)) :: (.bool true) :: dd u506 260 2 ((vQ w0.heap.size 6) :: (u540 263) :: (i6 x507) :: dd u540 265 2 ((vP w504.heap.size) :: (i6 x519.1) :: dd u540 269 8 ((.bool b541) :: dd u506 278 11 (un 22 ([])))))))))))).toArray, []⟩) a ∧ b541 = c542 ∧ St [] w0 w [poolE ([]) w0, boxE w0.heap.size [.slice A1_0 p1_0.length c1_0, .slice A1_1 p1_1.length c1_1, .slice A1_2 p1_2.length c1_2, .slice A1_3 p1_3.length c1_3, .slice A1_4 p1_4.length c1_4, .slice A1_5 p1_5.length c1_5, .slice A1_6 p1_6.length c1_6] 43, boxE w504.heap.size [i6 x519.1, i6 x519.2] 79]) rfl ?_ ?_
 rcases if_in hE543 with ⟨h546, hE543⟩ | ⟨h546, hE543⟩
 refine gx_vA (.bool true) w534 (rbE (decide_eq_true h546)) (gx_kA (.bool true) w534 (gx_oA (gx_oA (gx_oA (gx_oA (gx_oA (gx_oA (gx_kA (.bool true) w534 (gx_nil (gx_thenN ?_))))))))))
 exact ⟨true, selfX, (sj hE543), hS535⟩
 refine gx_vA (.bool false) w534 (rbE (decide_eq_false h546)) (gx_kA (.bool false) w534 (gx_kA (vP w504.heap.size) w534 (gx_vA (i6 x519.1) w534 (rl1 (hS535.box 2 rfl 0 rfl)) (gx_kA (vQ w0.heap.size 4) w534 (gx_vA (.slice A1_4 p1_4.length c1_4) w534 (rl1 (hS535.box 1 rfl 4 rfl)) (gx_kA (i6 ((p1_4.length : Nat) : Int)) w534 ?_))))))
 rcases if_in hE543 with ⟨h547, hE543⟩ | ⟨h547, hE543⟩
 refine gx_vA (.bool true) w534 (rbE (decide_eq_true h547)) (gx_kA (.bool true) w534 (gx_nil (gx_thenN ?_)))
 exact ⟨true, selfX, (sj hE543), hS535⟩
 refine gx_vA (.bool false) w534 (rbE (decide_eq_false h547)) (gx_kA (.bool false) w534 (gx_nil (gx_thenN ?_)))
 exact ⟨false, selfX, (sj hE543), hS535⟩
 rintro _ w538 ⟨b541, hq545, rfl, hS539⟩
 obtain ⟨u540, rfl⟩ := selfA_u hq545
 try dsimp only at hO544
 refine gx_kA (.bool b541) w538 ?_
 rcases b541 with _ | _
 try dsimp only at hO544
 refine gx_kA (vQ w504.heap.size 1) w538 (gx_vA (i6 x519.2) w538 (rl1 (hS539.box 2 rfl 1 rfl)) ?_)
 rcases if_in hO544 with ⟨h550, hO544⟩ | ⟨h550, hO544⟩
 refine gx_vA (.bool true) w538 (rbE (decide_eq_true h550)) (gx_kA (.bool true) w538 (gx_kA (.bool true) w538 (gx_oA (gx_oA (gx_oA (gx_oA (gx_kA (.bool true) w538 (gx_nil (gx_thenN (hK537 _ _ (gx_yes (by as_aux_lemma => kernel_rfl) (gx_seq (fun K551 hK552 => gx_region ?_)))))))))))))
 refine gx_kA (.bool false) w538 (gx_nil (gx_thenN (hK552 _ _ (gx_ret (gx_blkR (gx_thenR (gx_thenR ?_)))))))
 refine gx_blkR (gx_thenR ?_)
 obtain rfl := sj hO544
 try dsimp only at hO501
 refine gx_blkR (gx_thenR ?_)
 obtain rfl := sj hO501
 try dsimp only at hO79
 obtain rfl := sj hO79
 exact gxF (.bool false) ⟨_, rfl, rfl, (hS539.pick [] rfl rfl)⟩
 refine gx_vA (.bool false) w538 (rbE (decide_eq_false h550)) (gx_kA (.bool false) w538 (gx_kA (.bool false) w538 (gx_kA (vQ w504.heap.size 1) w538 (gx_vA (i6 x519.2) w538 (rl1 (hS539.box 2 rfl 1 rfl)) (gx_kA (i6 p3) w538 ?_)))))
 rcases if_in hO544 with ⟨h553, hO544⟩ | ⟨h553, hO544⟩
 refine gx_vA (.bool true) w538 (rbE (decide_eq_true h553)) (gx_kA (.bool true) w538 (gx_nil (gx_thenN (hK537 _ _ (gx_yes (by as_aux_lemma => kernel_rfl) (gx_seq (fun K554 hK555 => gx_region ?_)))))))
 refine gx_kA (.bool false) w538 (gx_nil (gx_thenN (hK555 _ _ (gx_ret (gx_blkR (gx_thenR (gx_thenR ?_)))))))
 refine gx_blkR (gx_thenR ?_)
 obtain rfl := sj hO544
 try dsimp only at hO501
 refine gx_blkR (gx_thenR ?_)
 obtain rfl := sj hO501
 try dsimp only at hO79
 obtain rfl := sj hO79
 exact gxF (.bool false) ⟨_, rfl, rfl, (hS539.pick [] rfl rfl)⟩
 refine gx_vA (.bool false) w538 (rbE (decide_eq_false h553)) (gx_kA (.bool false) w538 (gx_nil (gx_thenN (hK537 _ _ (gx_no (by as_aux_lemma => kernel_rfl) (gx_pass (gx_blkN ?_)))))))
 refine gx_thenN (hK516 _ _ (gx_region (gx_kA (i6 x507) w538 (gx_kA (i6 (iw (x507 + 1))) w538 (gx_kA (i6 (iw (x507 + 1))) w538 (gx_nil (gx_thenN ?_)))))))
 exact ⟨k508, Nat.lt_succ_self k508, (iw (x507 + 1)), selfX, hO544, (hS539.pick [0, 1] rfl rfl)⟩
 try dsimp only at hO544
 refine gx_oA (gx_oA (gx_oA (gx_kA (.bool true) w538 (gx_kA (.bool true) w538 (gx_oA (gx_oA (gx_oA (gx_oA (gx_kA (.bool true) w538 (gx_nil (gx_thenN (hK537 _ _ (gx_yes (by as_aux_lemma => kernel_rfl) (gx_seq (fun K548 hK549 => gx_region ?_)))))))))))))))
 refine gx_kA (.bool false) w538 (gx_nil (gx_thenN (hK549 _ _ (gx_ret (gx_blkR (gx_thenR (gx_thenR ?_)))))))
 refine gx_blkR (gx_thenR ?_)
 obtain rfl := sj hO544
 try dsimp only at hO501
 refine gx_blkR (gx_thenR ?_)
 obtain rfl := sj hO501
 try dsimp only at hO79
 obtain rfl := sj hO79
 exact gxF (.bool false) ⟨_, rfl, rfl, (hS539.pick [] rfl rfl)⟩
 refine gx_vA (.bool false) w504 (rbE (decide_eq_false h514)) (gx_nil (gx_thenN (hK513 _ _ (gx_no (by as_aux_lemma => kernel_rfl) (gx_exit (gx_thenE (gx_thenE ?_)))))))
 refine gx_blkE (gx_thenN ?_)
 exact ⟨selfX, (sj hL509), hS505⟩
 rintro _ w496 ⟨hq594, rfl, hS497⟩
 obtain ⟨u498, rfl⟩ := selfA_u hq594
 try dsimp only at hO501
 refine gx_seq (fun K557 hK558 => gx_region (gx_kA (vQ w0.heap.size 4) w496 (gx_vA (.slice A1_4 p1_4.length c1_4) w496 (rl1 (hS497.box 1 rfl 4 rfl)) (gx_kA (i6 ((p1_4.length : Nat) : Int)) w496 ?_))))
 obtain ⟨c563, hE564, hO565⟩ := bind_in hO501
 refine gx_part (l1 := [_, _, _, _, _, _, _]) (fun a w => ∃ (b562 : Bool), selfA (fun u561 => ⟨((u6 p0) :: (u7 1) :: (i6 p2) :: (i6 p3) :: undef :: (vP w0.heap.size) :: undef :: undef :: (u498 8) :: un 3 (dd u498 12 2 (dd u7 14 54 ((u6 p0) :: (.bool false) :: dd u84 70 2 (un 51 ((.bool false) :: (.bool false) :: un 61 ((.bool false) :: (.bool false) :: un 65 ((.bool true) :: (.bool true) :: dd u498 255 34 ((vQ w0.heap.size 4) :: (u561 290) :: (i6 ((p1_4.length : Nat) : Int)) :: dd u561 292 6 ((.bool b562) :: un 12 ([]))))))))))).toArray, []⟩) a ∧ b562 = c563 ∧ St [] w0 w [poolE ([]) w0, boxE w0.heap.size [.slice A1_0 p1_0.length c1_0, .slice A1_1 p1_1.length c1_1, .slice A1_2 p1_2.length c1_2, .slice A1_3 p1_3.length c1_3, .slice A1_4 p1_4.length c1_4, .slice A1_5 p1_5.length c1_5, .slice A1_6 p1_6.length c1_6] 43]) rfl ?_ ?_
 rcases if_in hE564 with ⟨h567, hE564⟩ | ⟨h567, hE564⟩
 refine gx_vA (.bool true) w496 (rbE (decide_eq_true h567)) (gx_kA (.bool true) w496 (gx_kA (vQ w0.heap.size 3) w496 (gx_vA (.slice A1_3 p1_3.length c1_3) w496 (rl1 (hS497.box 1 rfl 3 rfl)) (gx_kA (i6 p2) w496 ?_))))
 have hP568 : St _ _ w496 ([] ++ [poolE ([]) w0, boxE w0.heap.size [.slice A1_0 p1_0.length c1_0, .slice A1_1 p1_1.length c1_1, .slice A1_2 p1_2.length c1_2, .slice A1_3 p1_3.length c1_3, .slice A1_4 p1_4.length c1_4, .slice A1_5 p1_5.length c1_5, .slice A1_6 p1_6.length c1_6] 43]) := hS497
 obtain ⟨b570, hc569, hE564⟩ := bind_in hE564
 try dsimp only at hE564
 refine gx_cA _ (kSets_ok N p1_3 p2 A1_3 c1_3 vs1_3 ft1_3 _ hc569 w496 (hS497.inn ho1_3 hv1_3) (hP568.offIA ho1_3)) ?_
 rintro _ w571 ⟨rfl, hT573⟩
 have hS572 : St _ _ w571 [poolE ([]) w0, boxE w0.heap.size [.slice A1_0 p1_0.length c1_0, .slice A1_1 p1_1.length c1_1, .slice A1_2 p1_2.length c1_2, .slice A1_3 p1_3.length c1_3, .slice A1_4 p1_4.length c1_4, .slice A1_5 p1_5.length c1_5, .slice A1_6 p1_6.length c1_6] 43] := hS497.take _ hT573
 refine gx_kA (.bool b570) w571 (gx_nil (gx_thenN ?_))
 exact ⟨b570, selfX, (sj hE564), hS572⟩
 refine gx_vA (.bool false) w496 (rbE (decide_eq_false h567)) (gx_kA (.bool false) w496 (gx_oA (gx_oA (gx_oA (gx_oA (gx_kA (.bool false) w496 (gx_nil (gx_thenN ?_))))))))
 exact ⟨false, selfX, (sj hE564), hS497⟩
 rintro _ w559 ⟨b562, hq566, rfl, hS560⟩
 obtain ⟨u561, rfl⟩ := selfA_u hq566
 try dsimp only at hO565
 obtain ⟨c578, hE579, hO580⟩ := bind_in hO565
 refine gx_part (l1 := [_, _, _, _, _, _]) (fun a w => ∃ (b577 : Bool), selfA (fun u576 => ⟨((u6 p0) :: (u7 1) :: (i6 p2) :: (i6 p3) :: undef :: (vP w0.heap.size) :: undef :: undef :: (u498 8) :: un 3 (dd u498 12 2 (dd u7 14 54 ((u6 p0) :: (.bool false) :: dd u84 70 2 (un 51 ((.bool false) :: (.bool false) :: un 61 ((.bool false) :: (.bool false) :: un 65 ((.bool true) :: (.bool true) :: dd u498 255 34 ((vQ w0.heap.size 4) :: (u561 290) :: (i6 ((p1_4.length : Nat) : Int)) :: dd u561 292 6 ((.bool b562) :: dd u576 299 5 ((.bool b577) :: un 6 ([])))))))))))).toArray, []⟩) a ∧ b577 = c578 ∧ St [] w0 w [poolE ([]) w0, boxE w0.heap.size [.slice A1_0 p1_0.length c1_0, .slice A1_1 p1_1.length c1_1, .slice A1_2 p1_2.length c1_2, .slice A1_3 p1_3.length c1_3, .slice A1_4 p1_4.length c1_4, .slice A1_5 p1_5.length c1_5, .slice A1_6 p1_6.length c1_6] 43]) rfl ?_ ?_
 refine gx_kA (.bool b562) w559 ?_
 rcases b562 with _ | _
 try dsimp only at hE579
 refine gx_oA (gx_oA (gx_oA (gx_oA (gx_kA (.bool false) w559 (gx_nil (gx_thenN ?_))))))
 exact ⟨false, selfX, (sj hE579), hS560⟩
 try dsimp only at hE579
 refine gx_kA (vQ w0.heap.size 4) w559 (gx_vA (.slice A1_4 p1_4.length c1_4) w559 (rl1 (hS560.box 1 rfl 4 rfl)) (gx_kA (i6 p2) w559 ?_))
 have hP582 : St _ _ w559 ([] ++ [poolE ([]) w0, boxE w0.heap.size [.slice A1_0 p1_0.length c1_0, .slice A1_1 p1_1.length c1_1, .slice A1_2 p1_2.length c1_2, .slice A1_3 p1_3.length c1_3, .slice A1_4 p1_4.length c1_4, .slice A1_5 p1_5.length c1_5, .slice A1_6 p1_6.length c1_6] 43]) := hS560
 obtain ⟨b584, hc583, hE579⟩ := bind_in hE579
 try dsimp only at hE579
 refine gx_cA _ (kSets_ok N p1_4 p2 A1_4 c1_4 vs1_4 ft1_4 _ hc583 w559 (hS560.inn ho1_4 hv1_4) (hP582.offIA ho1_4)) ?_
 rintro _ w585 ⟨rfl, hT587⟩
 have hS586 : St _ _ w585 [poolE ([]) w0, boxE w0.heap.size [.slice A1_0 p1_0.length c1_0, .slice A1_1 p1_1.length c1_1, .slice A1_2 p1_2.length c1_2, .slice A1_3 p1_3.length c1_3, .slice A1_4 p1_4.length c1_4, .slice A1_5 p1_5.length c1_5, .slice A1_6 p1_6.length c1_6] 43] := hS560.take _ hT587
 refine gx_kA (.bool b584) w585 (gx_nil (gx_thenN ?_))
 exact ⟨b584, selfX, (sj hE579), hS586⟩
 rintro _ w574 ⟨b577, hq581, rfl, hS575⟩
 obtain ⟨u576, rfl⟩ := selfA_u hq581
 try dsimp only at hO580
 refine gx_kA (.bool b577) w574 ?_
 rcases b577 with _ | _
 try dsimp only at hO580
 refine gx_oA (gx_oA (gx_oA (gx_oA (gx_kA (.bool false) w574 (gx_kA (.bool false) w574 (gx_nil (gx_thenN (hK558 _ _ (gx_ret (gx_blkR (gx_thenR ?_)))))))))))
 obtain rfl := sj hO580
 try dsimp only at hO79
 obtain rfl := sj hO79
 exact gxF (.bool false) ⟨_, rfl, rfl, (hS575.pick [] rfl rfl)⟩
 try dsimp only at hO580
 refine gx_kA (vQ w0.heap.size 5) w574 (gx_vA (.slice A1_5 p1_5.length c1_5) w574 (rl1 (hS575.box 1 rfl 5 rfl)) (gx_kA (i6 p2) w574 ?_))
 have hP588 : St _ _ w574 ([] ++ [poolE ([]) w0, boxE w0.heap.size [.slice A1_0 p1_0.length c1_0, .slice A1_1 p1_1.length c1_1, .slice A1_2 p1_2.length c1_2, .slice A1_3 p1_3.length c1_3, .slice A1_4 p1_4.length c1_4, .slice A1_5 p1_5.length c1_5, .slice A1_6 p1_6.length c1_6] 43]) := hS575
 obtain ⟨b590, hc589, hO580⟩ := bind_in hO580
 try dsimp only at hO580
 refine gx_cA _ (kSets_ok N p1_5 p2 A1_5 c1_5 vs1_5 ft1_5 _ hc589 w574 (hS575.inn ho1_5 hv1_5) (hP588.offIA ho1_5)) ?_
 rintro _ w591 ⟨rfl, hT593⟩
 have hS592 : St _ _ w591 [poolE ([]) w0, boxE w0.heap.size [.slice A1_0 p1_0.length c1_0, .slice A1_1 p1_1.length c1_1, .slice A1_2 p1_2.length c1_2, .slice A1_3 p1_3.length c1_3, .slice A1_4 p1_4.length c1_4, .slice A1_5 p1_5.length c1_5, .slice A1_6 p1_6.length c1_6] 43] := hS575.take _ hT593
 refine gx_kA (.bool b590) w591 (gx_kA (.bool b590) w591 (gx_nil (gx_thenN (hK558 _ _ (gx_ret (gx_blkR (gx_thenR ?_)))))))
 obtain rfl := sj hO580
 try dsimp only at hO79
 obtain rfl := sj hO79
 exact gxF (.bool b590) ⟨_, rfl, rfl, (hS592.pick [] rfl rfl)⟩
 refine gx_vA (.bool false) w82 (rbE (decide_eq_false h495)) (gx_kA (.bool false) w82 (gx_nil (gx_thenN (hK494 _ _ (gx_no (by as_aux_lemma => kernel_rfl) (gx_pass (gx_blkN ?_)))))))
 refine gx_thenN ?_
 exact ⟨selfX, (sj hO88), hS83⟩
 try dsimp only at hO88
 refine gx_yes (by as_aux_lemma => kernel_rfl) ?_
 obtain ⟨c96, hE97, hO98⟩ := bind_in hO88
 refine gx_cut (fun a w => selfA (fun u95 => ⟨((u6 p0) :: (u7 1) :: (i6 p2) :: (i6 p3) :: undef :: (vP w0.heap.size) :: undef :: undef :: dd u95 8 2 (un 4 (dd u7 14 54 ((u6 p0) :: (.bool true) :: dd u84 70 2 (dd u95 72 47 (un 192 ([]))))))).toArray, []⟩) a ∧ Ctl.go () = c96 ∧ St [] w0 w [poolE ([]) w0, boxE w0.heap.size [.slice A1_0 p1_0.length c1_0, .slice A1_1 p1_1.length c1_1, .slice A1_2 p1_2.length c1_2, .slice A1_3 p1_3.length c1_3, .slice A1_4 p1_4.length c1_4, .slice A1_5 p1_5.length c1_5, .slice A1_6 p1_6.length c1_6] 43]) ?_ ?_
 refine gx_seq (fun K99 hK100 => gx_region (gx_kA (i6 0) w82 (gx_nil (gx_thenN (hK100 _ _ (gx_block (gx_loop (fun k a w => ∃ (x104 : Int), selfA (fun u103 => ⟨((u6 p0) :: (u7 1) :: (i6 p2) :: (i6 p3) :: undef :: (vP w0.heap.size) :: undef :: undef :: (u103 8) :: (i6 x104) :: un 4 (dd u7 14 54 ((u6 p0) :: (.bool true) :: dd u84 70 2 (dd u103 72 47 (un 192 ([])))))).toArray, []⟩) a ∧ kRightSub_L1 N p1_0 p2 k x104 = some c96 ∧ St [] w0 w [poolE ([]) w0, boxE w0.heap.size [.slice A1_0 p1_0.length c1_0, .slice A1_1 p1_1.length c1_1, .slice A1_2 p1_2.length c1_2, .slice A1_3 p1_3.length c1_3, .slice A1_4 p1_4.length c1_4, .slice A1_5 p1_5.length c1_5, .slice A1_6 p1_6.length c1_6] 43]) N ?_ ?_)))))))
 exact ⟨0, selfX, hE97, hS83⟩
 rintro k105 _ w101 ⟨x104, hq187, hL106, hS102⟩
 obtain ⟨u103, rfl⟩ := selfA_u hq187
 rcases k105 with _ | k105
 cases hL106
 first | rw [kRightSub_L1] at hL106 | unfold kRightSub_L1 at hL106
 refine gx_seq (fun K107 hK108 => gx_seq (fun K109 hK110 => gx_region (gx_kA (i6 x104) w101 (gx_kA (vP w0.heap.size) w101 (gx_vA (.slice A1_0 p1_0.length c1_0) w101 (rl1 (hS102.box 1 rfl 0 rfl)) (gx_kA (i6 ((p1_0.length : Nat) : Int)) w101 ?_))))))
 rcases if_in hL106 with ⟨h111, hL106⟩ | ⟨h111, hL106⟩
 refine gx_vA (.bool true) w101 (rbE (decide_eq_true h111)) (gx_nil (gx_thenN (hK110 _ _ (gx_yes (by as_aux_lemma => kernel_rfl) (gx_pass (gx_thenN (hK108 _ _ ?_)))))))
 refine gx_seq (fun K112 hK113 => gx_block (gx_seq (fun K114 hK115 => gdst (fun w => St [] w0 w [poolE ([]) w0, boxE w0.heap.size [.slice A1_0 p1_0.length c1_0, .slice A1_1 p1_1.length c1_1, .slice A1_2 p1_2.length c1_2, .slice A1_3 p1_3.length c1_3, .slice A1_4 p1_4.length c1_4, .slice A1_5 p1_5.length c1_5, .slice A1_6 p1_6.length c1_6] 43]) 40 ?_)))
 have hS117 := hS102.drew
 generalize w101.drew = w116 at hS117 ⊢
 refine gv1 0 79 (vP w0.heap.size) rfl hS117 (gu1 1 80 (.slice A1_0 p1_0.length c1_0) rfl hS117 (fun w hSw => rl1 (hSw.box 1 rfl 0 rfl)) (gv1 2 81 (i6 x104) rfl hS117 ?_))
 obtain ⟨x118, hx119, hL106⟩ := bind_in hL106
 obtain ⟨g120, o121, e122, hA123, he124, h125, ha126⟩ := elem_at (e := (pairE (intE .u16) (intE .u16))) (sl_lies (hS117.inn ho1_0 hv1_0)) (sl_each hv1_0) hx119 (by decide)
 obtain ⟨e127, e128, rfl, h129, h130⟩ := h125
 obtain rfl := h129
 obtain rfl := h130
 have ha126 : ∀ w', Lies w' A1_0 vs1_0 → w'.rangeAt g120 o121 [u6 x118.1, u6 x118.2] := ha126
 refine gu1 3 82 (.pointer (some ⟨g120, o121, none⟩)) rfl hS117 (fun w hSw => run_ixaddrN (E := 74) (s := 2) (k := .i64) (c := c1_0) rfl (by as_aux_lemma => kernel_rfl) (by as_aux_lemma => kernel_rfl) (by as_aux_lemma => kernel_rfl) (fun _ => by kernel_rfl) (ixg_in hx119).1 (ixg_in hx119).2.1 hA123) (gv1 4 83 (.pointer (some ⟨g120, o121, none⟩)) rfl hS117 (gu1 5 84 (u6 x118.1) rfl hS117 (fun w hSw => run_loadN1 0 rfl (by as_aux_lemma => kernel_rfl) (fun _ => by kernel_rfl) (ha126 _ (sl_lies (hSw.inn ho1_0 hv1_0))) rfl) (gv1 6 85 (i6 (iw x118.1)) rfl hS117 (gv1 7 86 (i6 p2) rfl hS117 ?_))))
 obtain ⟨c135, hE136, hO137⟩ := bind_in hL106
 refine gd_mid (fun a w => ∃ (b134 : Bool), selfA (fun u133 => ⟨((u6 p0) :: (u7 1) :: (i6 p2) :: (i6 p3) :: undef :: (vP w0.heap.size) :: undef :: undef :: (u103 8) :: (i6 x104) :: un 4 (dd u7 14 54 ((u6 p0) :: (.bool true) :: dd u84 70 2 ((i6 x104) :: (vP w0.heap.size) :: (u133 74) :: (i6 ((p1_0.length : Nat) : Int)) :: (.bool true) :: dd u103 77 2 ((vP w0.heap.size) :: (u133 80) :: (i6 x104) :: dd u133 82 2 ((u6 x118.1) :: (i6 (iw x118.1)) :: (i6 p2) :: dd u133 87 11 ((.bool b134) :: dd u103 99 20 (un 192 ([]))))))))).toArray, []⟩) a ∧ b134 = c135 ∧ St [] w0 w [poolE ([]) w0, boxE w0.heap.size [.slice A1_0 p1_0.length c1_0, .slice A1_1 p1_1.length c1_1, .slice A1_2 p1_2.length c1_2, .slice A1_3 p1_3.length c1_3, .slice A1_4 p1_4.length c1_4, .slice A1_5 p1_5.length c1_5, .slice A1_6 p1_6.length c1_6] 43]) 20 #[true, true, true, true, true, true, true, true, true, true, true, true, true, true, true, true, true, true, true, true, false, false, false, false, false, false, false, false, false, false, false, false, false, false, false, false, false, false, false, false] ?_ ?_
 rintro _ w131 ⟨b134, hq138, rfl, hS132⟩
 obtain ⟨u133, rfl⟩ := selfA_u hq138
 try dsimp only at hO137
 refine gv1 20 99 (.bool b134) rfl hS132 ?_
 rcases b134 with _ | _
 try dsimp only at hO137
 refine gv1 21 100 (i6 x104) rfl hS132 ?_
 rcases if_in hO137 with ⟨h157, hO137⟩ | ⟨h157, hO137⟩
 refine gu1 22 101 (.bool true) rfl hS132 (rbT h157) (gv1 23 102 (.bool true) rfl hS132 (gv1 24 103 (vP w0.heap.size) rfl hS132 (gu1 25 104 (.slice A1_0 p1_0.length c1_0) rfl hS132 (fun w hSw => rl1 (hSw.box 1 rfl 0 rfl)) (gv1 26 105 (i6 x104) rfl hS132 ?_))))
 obtain ⟨x158, hx159, hO137⟩ := bind_in hO137
 obtain ⟨g160, o161, e162, hA163, he164, h165, ha166⟩ := elem_at (e := (pairE (intE .u16) (intE .u16))) (sl_lies (hS132.inn ho1_0 hv1_0)) (sl_each hv1_0) hx159 (by decide)
 obtain ⟨e167, e168, rfl, h169, h170⟩ := h165
 obtain rfl := h169
 obtain rfl := h170
 have ha166 : ∀ w', Lies w' A1_0 vs1_0 → w'.rangeAt g160 o161 [u6 x158.1, u6 x158.2] := ha166
 refine gu1 27 106 (.pointer (some ⟨g160, o161, none⟩)) rfl hS132 (fun w hSw => run_ixaddrN (E := 74) (s := 2) (k := .i64) (c := c1_0) rfl (by as_aux_lemma => kernel_rfl) (by as_aux_lemma => kernel_rfl) (by as_aux_lemma => kernel_rfl) (fun _ => by kernel_rfl) (ixg_in hx159).1 (ixg_in hx159).2.1 hA163) (gv1 28 107 (.pointer (some ⟨g160, o161, none⟩)) rfl hS132 (gu1 29 108 (u6 x158.1) rfl hS132 (fun w hSw => run_loadN1 0 rfl (by as_aux_lemma => kernel_rfl) (fun _ => by kernel_rfl) (ha166 _ (sl_lies (hSw.inn ho1_0 hv1_0))) rfl) (gv1 30 109 (vP w0.heap.size) rfl hS132 (gu1 31 110 (.slice A1_0 p1_0.length c1_0) rfl hS132 (fun w hSw => rl1 (hSw.box 1 rfl 0 rfl)) (gv1 32 111 (i6 x104) rfl hS132 (gv1 33 112 (i6 (iw (x104 - 1))) rfl hS132 ?_))))))
 obtain ⟨x171, hx172, hO137⟩ := bind_in hO137
 obtain ⟨g173, o174, e175, hA176, he177, h178, ha179⟩ := elem_at (e := (pairE (intE .u16) (intE .u16))) (sl_lies (hS132.inn ho1_0 hv1_0)) (sl_each hv1_0) hx172 (by decide)
 obtain ⟨e180, e181, rfl, h182, h183⟩ := h178
 obtain rfl := h182
 obtain rfl := h183
 have ha179 : ∀ w', Lies w' A1_0 vs1_0 → w'.rangeAt g173 o174 [u6 x171.1, u6 x171.2] := ha179
 refine gu1 34 113 (.pointer (some ⟨g173, o174, none⟩)) rfl hS132 (fun w hSw => run_ixaddrN (E := 74) (s := 2) (k := .i64) (c := c1_0) rfl (by as_aux_lemma => kernel_rfl) (by as_aux_lemma => kernel_rfl) (by as_aux_lemma => kernel_rfl) (fun _ => by kernel_rfl) (ixg_in hx172).1 (ixg_in hx172).2.1 hA176) (gv1 35 114 (.pointer (some ⟨g173, o174, none⟩)) rfl hS132 (gu1 36 115 (u6 x171.1) rfl hS132 (fun w hSw => run_loadN1 0 rfl (by as_aux_lemma => kernel_rfl) (fun _ => by kernel_rfl) (ha179 _ (sl_lies (hSw.inn ho1_0 hv1_0))) rfl) ?_))
 rcases if_in hO137 with ⟨h184, hO137⟩ | ⟨h184, hO137⟩
 refine gu1 37 116 (.bool true) rfl hS132 (rbT h184) (gv1 38 117 (.bool true) rfl hS132 (gv1 39 118 (.bool true) rfl hS132 (gd_done (by as_aux_lemma => kernel_rfl) (gx_thenN (hK115 _ _ (gx_yes (by as_aux_lemma => kernel_rfl) (gx_seq (fun K185 hK186 => ?_))))))))
 refine gx_region (gx_kA (.bool false) w131 (gx_nil (gx_thenN (hK186 _ _ (gx_ret (gx_blkR (gx_thenR ?_)))))))
 refine gx_thenR (gx_blkR (gx_thenR ?_))
 obtain rfl := sj hO137
 try dsimp only at hO98
 refine gx_blkR (gx_thenR ?_)
 obtain rfl := sj hO98
 try dsimp only at hO79
 obtain rfl := sj hO79
 exact gxF (.bool false) ⟨_, rfl, rfl, (hS132.pick [] rfl rfl)⟩
 refine gu1 37 116 (.bool false) rfl hS132 (rbF h184) (gv1 38 117 (.bool false) rfl hS132 (gv1 39 118 (.bool false) rfl hS132 (gd_done (by as_aux_lemma => kernel_rfl) (gx_thenN (hK115 _ _ (gx_no (by as_aux_lemma => kernel_rfl) (gx_pass ?_)))))))
 refine gx_blkN (gx_thenN (hK113 _ _ (gx_region (gx_kA (i6 x104) w131 (gx_kA (i6 (iw (x104 + 1))) w131 (gx_kA (i6 (iw (x104 + 1))) w131 (gx_nil (gx_thenN ?_))))))))
 exact ⟨k105, Nat.lt_succ_self k105, (iw (x104 + 1)), selfX, hO137, hS132⟩
 refine gu1 22 101 (.bool false) rfl hS132 (rbF h157) (gv1 23 102 (.bool false) rfl hS132 (gz1 24 103 rfl hS132 (gz1 25 104 rfl hS132 (gz1 26 105 rfl hS132 (gz1 27 106 rfl hS132 (gz1 28 107 rfl hS132 (gz1 29 108 rfl hS132 ?_)))))))
 refine gz1 30 109 rfl hS132 (gz1 31 110 rfl hS132 (gz1 32 111 rfl hS132 (gz1 33 112 rfl hS132 (gz1 34 113 rfl hS132 (gz1 35 114 rfl hS132 (gz1 36 115 rfl hS132 (gz1 37 116 rfl hS132 ?_)))))))
 refine gv1 38 117 (.bool false) rfl hS132 (gv1 39 118 (.bool false) rfl hS132 (gd_done (by as_aux_lemma => kernel_rfl) (gx_thenN (hK115 _ _ (gx_no (by as_aux_lemma => kernel_rfl) (gx_pass (gx_blkN ?_)))))))
 refine gx_thenN (hK113 _ _ (gx_region (gx_kA (i6 x104) w131 (gx_kA (i6 (iw (x104 + 1))) w131 (gx_kA (i6 (iw (x104 + 1))) w131 (gx_nil (gx_thenN ?_)))))))
 exact ⟨k105, Nat.lt_succ_self k105, (iw (x104 + 1)), selfX, hO137, hS132⟩
 try dsimp only at hO137
 refine gz1 21 100 rfl hS132 (gz1 22 101 rfl hS132 (gz1 23 102 rfl hS132 (gz1 24 103 rfl hS132 (gz1 25 104 rfl hS132 (gz1 26 105 rfl hS132 (gz1 27 106 rfl hS132 (gz1 28 107 rfl hS132 ?_)))))))
 refine gz1 29 108 rfl hS132 (gz1 30 109 rfl hS132 (gz1 31 110 rfl hS132 (gz1 32 111 rfl hS132 (gz1 33 112 rfl hS132 (gz1 34 113 rfl hS132 (gz1 35 114 rfl hS132 (gz1 36 115 rfl hS132 ?_)))))))
 refine gz1 37 116 rfl hS132 (gz1 38 117 rfl hS132 (gv1 39 118 (.bool true) rfl hS132 (gd_done (by as_aux_lemma => kernel_rfl) (gx_thenN (hK115 _ _ (gx_yes (by as_aux_lemma => kernel_rfl) (gx_seq (fun K155 hK156 => ?_))))))))
 refine gx_region (gx_kA (.bool false) w131 (gx_nil (gx_thenN (hK156 _ _ (gx_ret (gx_blkR (gx_thenR ?_)))))))
 refine gx_thenR (gx_blkR (gx_thenR ?_))
 obtain rfl := sj hO137
 try dsimp only at hO98
 refine gx_blkR (gx_thenR ?_)
 obtain rfl := sj hO98
 try dsimp only at hO79
 obtain rfl := sj hO79
 exact gxF (.bool false) ⟨_, rfl, rfl, (hS132.pick [] rfl rfl)⟩
 intro hK139
 rcases if_in hE136 with ⟨h140, hE136⟩ | ⟨h140, hE136⟩
 refine gu1 8 87 (.bool true) rfl hS117 (rbT h140) (gv1 9 88 (.bool true) rfl hS117 (gz1 10 89 rfl hS117 (gz1 11 90 rfl hS117 (gz1 12 91 rfl hS117 (gz1 13 92 rfl hS117 (gz1 14 93 rfl hS117 (gz1 15 94 rfl hS117 ?_)))))))
 refine gz1 16 95 rfl hS117 (gz1 17 96 rfl hS117 (gz1 18 97 rfl hS117 (gv1 19 98 (.bool true) rfl hS117 ?_)))
 exact gd_to hK139 (by as_aux_lemma => kernel_rfl) ⟨true, selfX, (sj hE136), hS117⟩
 refine gu1 8 87 (.bool false) rfl hS117 (rbF h140) (gv1 9 88 (.bool false) rfl hS117 (gv1 10 89 (vP w0.heap.size) rfl hS117 (gu1 11 90 (.slice A1_0 p1_0.length c1_0) rfl hS117 (fun w hSw => rl1 (hSw.box 1 rfl 0 rfl)) (gv1 12 91 (i6 x104) rfl hS117 ?_))))
 obtain ⟨x141, hx142, hE136⟩ := bind_in hE136
 obtain ⟨g143, o144, e145, hA146, he147, h148, ha149⟩ := elem_at (e := (pairE (intE .u16) (intE .u16))) (sl_lies (hS117.inn ho1_0 hv1_0)) (sl_each hv1_0) hx142 (by decide)
 obtain ⟨e150, e151, rfl, h152, h153⟩ := h148
 obtain rfl := h152
 obtain rfl := h153
 have ha149 : ∀ w', Lies w' A1_0 vs1_0 → w'.rangeAt g143 o144 [u6 x141.1, u6 x141.2] := ha149
 refine gu1 13 92 (.pointer (some ⟨g143, o144, none⟩)) rfl hS117 (fun w hSw => run_ixaddrN (E := 74) (s := 2) (k := .i64) (c := c1_0) rfl (by as_aux_lemma => kernel_rfl) (by as_aux_lemma => kernel_rfl) (by as_aux_lemma => kernel_rfl) (fun _ => by kernel_rfl) (ixg_in hx142).1 (ixg_in hx142).2.1 hA146) (gv1 14 93 (.pointer (some ⟨g143, o144 + 1, none⟩)) rfl hS117 (gu1 15 94 (u6 x141.2) rfl hS117 (fun w hSw => run_loadN1 1 rfl (by as_aux_lemma => kernel_rfl) (fun _ => by kernel_rfl) (ha149 _ (sl_lies (hSw.inn ho1_0 hv1_0))) rfl) (gv1 16 95 (i6 (iw x141.2)) rfl hS117 (gv1 17 96 (i6 p2) rfl hS117 ?_))))
 rcases if_in hE136 with ⟨h154, hE136⟩ | ⟨h154, hE136⟩
 refine gu1 18 97 (.bool true) rfl hS117 (rbT h154) (gv1 19 98 (.bool true) rfl hS117 ?_)
 exact gd_to hK139 (by as_aux_lemma => kernel_rfl) ⟨true, selfX, (sj hE136), hS117⟩
 refine gu1 18 97 (.bool false) rfl hS117 (rbF h154) (gv1 19 98 (.bool false) rfl hS117 ?_)
 exact gd_to hK139 (by as_aux_lemma => kernel_rfl) ⟨false, selfX, (sj hE136), hS117⟩
 refine gx_vA (.bool false) w101 (rbE (decide_eq_false h111)) (gx_nil (gx_thenN (hK110 _ _ (gx_no (by as_aux_lemma => kernel_rfl) (gx_exit (gx_thenE (gx_thenE ?_)))))))
 refine gx_blkE (gx_thenN ?_)
 exact ⟨selfX, (sj hL106), hS102⟩
 rintro _ w93 ⟨hq190, rfl, hS94⟩
 obtain ⟨u95, rfl⟩ := selfA_u hq190
 try dsimp only at hO98
 refine gx_seq (fun K188 hK189 => gx_region (gx_kA (vP w0.heap.size) w93 (gx_vA (.slice A1_0 p1_0.length c1_0) w93 (rl1 (hS94.box 1 rfl 0 rfl)) (gx_kA (i6 ((p1_0.length : Nat) : Int)) w93 (gx_kA (.bool (decide (((p1_0.length : Nat) : Int) > 0))) w93 (gx_kA (.bool (decide (((p1_0.length : Nat) : Int) > 0))) w93 (gx_nil (gx_thenN (hK189 _ _ ?_)))))))))
 refine gx_ret (gx_blkR (gx_thenR ?_))
 obtain rfl := sj hO98
 try dsimp only at hO79
 obtain rfl := sj hO79
 exact gxF (.bool (decide (((p1_0.length : Nat) : Int) > 0))) ⟨_, rfl, rfl, (hS94.pick [] rfl rfl)⟩
 rintro _ w74 ⟨hq598, rfl, hS75⟩
 obtain ⟨u76, rfl⟩ := selfA_u hq598
 try dsimp only at hO79
 refine gx_seq (fun K596 hK597 => gx_region (gx_kA (.bool false) w74 (gx_nil (gx_thenN (hK597 _ _ (gx_ret ?_))))))
 obtain rfl := sj hO79
 exact gxF (.bool false) ⟨_, rfl, rfl, (hS75.pick [] rfl rfl)⟩
def kRightF_L2 (N : Nat) (p0 : List ((Int × Int × Int × Int) × List Int)) (p1 : Int) (x21 : Int) : Nat → Int → Option (Ctl (Unit) (Bool))
 | 0, _ => none
 | k41+1, x40 => ((ixg p0 x21).bind fun x47 => (if x40 < (((x47.2).length : Nat) : Int) then ((ixg p0 x21).bind fun x81 => ((ix x81.2 x40).bind fun x110 => (((if x110 < 0 then some (true) else (if x110 ≥ p1 then some (true) else some (false))) : Option (Bool)).bind fun b117 => (match b117 with | true => some (Ctl.ret false) | false => (if x40 > 0 then ((ixg p0 x21).bind fun x127 => ((ix x127.2 (IntKind.i64.wrap (x40 - 1))).bind fun x156 => (if x110 ≤ x156 then some (Ctl.ret false) else kRightF_L2 N p0 p1 x21 k41 (IntKind.i64.wrap (x40 + 1))))) else kRightF_L2 N p0 p1 x21 k41 (IntKind.i64.wrap (x40 + 1))))))) else some (Ctl.go ())))
def kRightF_L1 (N : Nat) (p0 : List ((Int × Int × Int × Int) × List Int)) (p1 : Int) : Nat → Int → Option (Ctl (Unit) (Bool))
 | 0, _ => none
 | k22+1, x21 => (if x21 < ((p0.length : Nat) : Int) then ((kRightF_L2 N p0 p1 x21 N 0 : Option (Ctl (Unit) (Bool))).bind fun | Ctl.go () => kRightF_L1 N p0 p1 k22 (IntKind.i64.wrap (x21 + 1)) | Ctl.ret r => some (Ctl.ret r)) else some (Ctl.go ()))
def kRightF (N : Nat) (p0 : List ((Int × Int × Int × Int) × List Int)) (p1 : Int) : Option (Bool) :=
 (if ((p0.length : Nat) : Int) > 512 then some false else ((kRightF_L1 N p0 p1 N 0 : Option (Ctl (Unit) (Bool))).bind fun | Ctl.go () => some true | Ctl.ret r => some r))
def kRightF_R (r : Bool) (w0 : World) (v : Value) (w : World) : Prop := v = .bool r ∧ St [] w0 w []
theorem kRightF_ok (N : Nat) (p0 : List ((Int × Int × Int × Int) × List Int)) (p1 : Int) (A0 : Option Addr) (c0 : Nat) (vs0 : List Value) (ft0 : List Nat) (r : Bool) (hF : kRightF N p0 p1 = some r) (w0 : World) (hv0 : (fSl (pairE encapiTag (rowOf (intE .i64))) A0 c0 vs0 p0).rd w0 ft0) (ho0 : Off [] w0 ft0) :
  Calls Try.prog 13 #[.slice A0 p0.length c0, .int .i64 p1] w0 fun e w => ∃ v, e = .returned v ∧ kRightF_R r w0 v w := by
 have hS0 := (St.start w0).pool0
 unfold kRightF at hF
 refine calls_of Try.func13 rfl ⟨((.slice A0 p0.length c0) :: (i6 p1) :: un 57 ([])).toArray, []⟩ (by kernel_rfl) (gx_seq (fun K1 hK2 => gx_region (gx_k (.bool false) w0 (gx_nil (gx_thenN (hK2 _ _ (gx_seq (fun K3 hK4 => ?_))))))))
 refine gx_seq (fun K5 hK6 => gx_region (gx_k (.slice A0 p0.length c0) w0 (gx_k (i6 ((p0.length : Nat) : Int)) w0 ?_)))
 rcases if_in hF with ⟨h7, hF⟩ | ⟨h7, hF⟩
 refine gx_v (.bool true) w0 (rbE (decide_eq_true h7)) (gx_nil (gx_thenN (hK6 _ _ (gx_yes (by kernel_rfl) (gx_seq (fun K8 hK9 => gx_region (gx_k (.bool false) w0 ?_)))))))
 refine gx_nil (gx_thenN (hK9 _ _ (gx_ret (gx_thenR ?_))))
 obtain rfl := sj hF
 exact gxF (.bool false) ⟨_, rfl, rfl, (hS0.pick [] rfl rfl)⟩
 refine gx_v (.bool false) w0 (rbE (decide_eq_false h7)) (gx_nil (gx_thenN (hK6 _ _ (gx_no (by kernel_rfl) (gx_pass (gx_thenN (hK4 _ _ ?_)))))))
 obtain ⟨c13, hE14, hO15⟩ := bind_in hF
 refine gx_cut (fun a w => selfA (fun u12 => ⟨((u12 0) :: (i6 p1) :: undef :: undef :: dd u12 4 5 ((i6 ((p0.length : Nat) : Int)) :: (.bool false) :: dd u12 11 48 ([]))).toArray, []⟩) a ∧ Ctl.go () = c13 ∧ St [] w0 w [poolE ([]) w0]) ?_ ?_
 refine gx_seq (fun K16 hK17 => gx_region (gx_k (i6 0) w0 (gx_nil (gx_thenN (hK17 _ _ (gx_block (gx_loop (fun k a w => ∃ (x21 : Int), selfA (fun u20 => ⟨((.slice A0 p0.length c0) :: (i6 p1) :: undef :: undef :: (u20 4) :: (i6 x21) :: dd u20 6 3 ((i6 ((p0.length : Nat) : Int)) :: (.bool false) :: dd u20 11 48 ([]))).toArray, []⟩) a ∧ kRightF_L1 N p0 p1 k x21 = some c13 ∧ St [] w0 w [poolE ([]) w0]) N ?_ ?_)))))))
 exact ⟨0, selfA_i (by kernel_rfl), hE14, hS0⟩
 rintro k22 _ w18 ⟨x21, hq163, hL23, hS19⟩
 obtain ⟨u20, rfl⟩ := selfA_u hq163
 rcases k22 with _ | k22
 cases hL23
 first | rw [kRightF_L1] at hL23 | unfold kRightF_L1 at hL23
 refine gx_seq (fun K24 hK25 => gx_seq (fun K26 hK27 => gx_region (gx_k (i6 x21) w18 (gx_k (.slice A0 p0.length c0) w18 (gx_k (i6 ((p0.length : Nat) : Int)) w18 ?_)))))
 rcases if_in hL23 with ⟨h28, hL23⟩ | ⟨h28, hL23⟩
 refine gx_v (.bool true) w18 (rbE (decide_eq_true h28)) (gx_nil (gx_thenN (hK27 _ _ (gx_yes (by kernel_rfl) (gx_pass (gx_thenN (hK25 _ _ ?_)))))))
 obtain ⟨c32, hE33, hO34⟩ := bind_in hL23
 refine gx_cut (fun a w => selfA (fun u31 => ⟨((.slice A0 p0.length c0) :: (i6 p1) :: undef :: undef :: (u31 4) :: (i6 x21) :: dd u31 6 2 ((u20 8) :: (i6 ((p0.length : Nat) : Int)) :: (.bool false) :: (i6 x21) :: (u31 12) :: (i6 ((p0.length : Nat) : Int)) :: (.bool true) :: dd u20 15 2 (dd u31 17 42 ([])))).toArray, []⟩) a ∧ Ctl.go () = c32 ∧ St [] w0 w [poolE ([]) w0]) ?_ ?_
 refine gx_block (gx_seq (fun K35 hK36 => gx_region (gx_k (i6 0) w18 (gx_nil (gx_thenN (hK36 _ _ (gx_block ?_)))))))
 refine gx_loop (fun k a w => ∃ (x40 : Int), selfA (fun u39 => ⟨((.slice A0 p0.length c0) :: (i6 p1) :: undef :: undef :: (u39 4) :: (i6 x21) :: (i6 x40) :: (u39 7) :: (u20 8) :: (i6 ((p0.length : Nat) : Int)) :: (.bool false) :: (i6 x21) :: (u39 12) :: (i6 ((p0.length : Nat) : Int)) :: (.bool true) :: dd u20 15 2 (dd u39 17 42 ([]))).toArray, []⟩) a ∧ kRightF_L2 N p0 p1 x21 k x40 = some c32 ∧ St [] w0 w [poolE ([]) w0]) N ?_ ?_
 exact ⟨0, selfA_i (by kernel_rfl), hE33, hS19⟩
 rintro k41 _ w37 ⟨x40, hq161, hL42, hS38⟩
 obtain ⟨u39, rfl⟩ := selfA_u hq161
 rcases k41 with _ | k41
 cases hL42
 first | rw [kRightF_L2] at hL42 | unfold kRightF_L2 at hL42
 refine gx_seq (fun K43 hK44 => gx_seq (fun K45 hK46 => gx_region (gx_k (i6 x40) w37 (gx_k (.slice A0 p0.length c0) w37 (gx_k (i6 x21) w37 ?_)))))
 obtain ⟨x47, hx48, hL42⟩ := bind_in hL42
 obtain ⟨g49, o50, e51, hA52, he53, h54, ha55⟩ := elem_at (e := (pairE encapiTag (rowOf (intE .i64)))) (sl_lies (hS38.inn ho0 hv0)) (sl_each hv0) hx48 (by decide)
 obtain ⟨e56, e57, rfl, h58, h59⟩ := h54
 obtain ⟨e60, e61, rfl, h62, h63⟩ := h58
 obtain rfl := h62
 obtain ⟨e64, e65, rfl, h66, h67⟩ := h63
 obtain rfl := h66
 obtain ⟨e68, e69, rfl, h70, h71⟩ := h67
 obtain rfl := h70
 obtain rfl := h71
 obtain ⟨A72, c73, vs74, rfl, hf75⟩ := h59
 have ha55 : ∀ w', Lies w' A0 vs0 → w'.rangeAt g49 o50 [.int .u8 x47.1.1, .int .u8 x47.1.2.1, .int .u8 x47.1.2.2.1, .int .u8 x47.1.2.2.2, .slice A72 ((x47.2).length) c73] := ha55
 refine gx_v (.pointer (some ⟨g49, o50, none⟩)) w37 (run_ixaddrN (E := 52) (s := 5) (k := .i64) (c := c0) rfl (by kernel_rfl) (by kernel_rfl) (by kernel_rfl) (fun _ => by kernel_rfl) (ixg_in hx48).1 (ixg_in hx48).2.1 hA52) (gx_k (.pointer (some ⟨g49, o50 + 4, none⟩)) w37 (gx_v (.slice A72 ((x47.2).length) c73) w37 (run_loadN1 4 rfl (by kernel_rfl) (fun _ => by kernel_rfl) (ha55 _ (sl_lies (hS38.inn ho0 hv0))) rfl) (gx_k (i6 (((x47.2).length : Nat) : Int)) w37 ?_)))
 rcases if_in hL42 with ⟨h76, hL42⟩ | ⟨h76, hL42⟩
 refine gx_v (.bool true) w37 (rbE (decide_eq_true h76)) (gx_nil (gx_thenN (hK46 _ _ (gx_yes (by kernel_rfl) (gx_pass (gx_thenN (hK44 _ _ ?_)))))))
 refine gx_seq (fun K77 hK78 => gx_block (gx_seq (fun K79 hK80 => gx_region (gx_k (.slice A0 p0.length c0) w37 (gx_k (i6 x21) w37 ?_)))))
 obtain ⟨x81, hx82, hL42⟩ := bind_in hL42
 obtain ⟨g83, o84, e85, hA86, he87, h88, ha89⟩ := elem_at (e := (pairE encapiTag (rowOf (intE .i64)))) (sl_lies (hS38.inn ho0 hv0)) (sl_each hv0) hx82 (by decide)
 obtain ⟨e90, e91, rfl, h92, h93⟩ := h88
 obtain ⟨e94, e95, rfl, h96, h97⟩ := h92
 obtain rfl := h96
 obtain ⟨e98, e99, rfl, h100, h101⟩ := h97
 obtain rfl := h100
 obtain ⟨e102, e103, rfl, h104, h105⟩ := h101
 obtain rfl := h104
 obtain rfl := h105
 obtain ⟨A106, c107, vs108, rfl, hf109⟩ := h93
 have ha89 : ∀ w', Lies w' A0 vs0 → w'.rangeAt g83 o84 [.int .u8 x81.1.1, .int .u8 x81.1.2.1, .int .u8 x81.1.2.2.1, .int .u8 x81.1.2.2.2, .slice A106 ((x81.2).length) c107] := ha89
 refine gx_v (.pointer (some ⟨g83, o84, none⟩)) w37 (run_ixaddrN (E := 52) (s := 5) (k := .i64) (c := c0) rfl (by kernel_rfl) (by kernel_rfl) (by kernel_rfl) (fun _ => by kernel_rfl) (ixg_in hx82).1 (ixg_in hx82).2.1 hA86) (gx_k (.pointer (some ⟨g83, o84 + 4, none⟩)) w37 (gx_v (.slice A106 ((x81.2).length) c107) w37 (run_loadN1 4 rfl (by kernel_rfl) (fun _ => by kernel_rfl) (ha89 _ (sl_lies (hS38.inn ho0 hv0))) rfl) (gx_k (i6 x40) w37 ?_)))
 obtain ⟨x110, hx111, hL42⟩ := bind_in hL42
 refine gx_v (pI x40 A106) w37 (rix 3 .i64 hx111 ((num_sl (hS38.inn ho0 hf109)))) (gx_v (i6 x110) w37 (rlx (num_sl (hS38.inn ho0 hf109)) hx111) (gx_k (i6 x110) w37 (gx_nil (gx_thenN (hK80 _ _ (gx_seq (fun K112 hK113 => gx_region ?_)))))))
 refine gx_k (i6 x110) w37 ?_
 obtain ⟨c118, hE119, hO120⟩ := bind_in hL42
 refine gx_part (l1 := [_, _, _, _, _, _]) (fun a w => ∃ (b117 : Bool), selfA (fun u116 => ⟨((.slice A0 p0.length c0) :: (i6 p1) :: undef :: undef :: (u39 4) :: (i6 x21) :: (i6 x40) :: (i6 x110) :: (u20 8) :: (i6 ((p0.length : Nat) : Int)) :: (.bool false) :: (i6 x21) :: (u39 12) :: (i6 ((p0.length : Nat) : Int)) :: (.bool true) :: dd u20 15 2 ((i6 x40) :: (u116 18) :: (i6 x21) :: dd u116 20 3 ((i6 (((x47.2).length : Nat) : Int)) :: (.bool true) :: dd u39 25 2 ((u116 27) :: (i6 x21) :: dd u116 29 3 ((i6 x40) :: (pI x40 A106) :: (i6 x110) :: (i6 x110) :: dd u116 36 5 ((.bool b117) :: dd u39 42 17 ([]))))))).toArray, []⟩) a ∧ b117 = c118 ∧ St [] w0 w [poolE ([]) w0]) rfl ?_ ?_
 rcases if_in hE119 with ⟨h122, hE119⟩ | ⟨h122, hE119⟩
 refine gx_v (.bool true) w37 (rbE (decide_eq_true h122)) (gx_k (.bool true) w37 (gx_o (gx_o (gx_o (gx_k (.bool true) w37 (gx_nil (gx_thenN ?_)))))))
 exact ⟨true, selfA_i (by kernel_rfl), (sj hE119), hS38⟩
 refine gx_v (.bool false) w37 (rbE (decide_eq_false h122)) (gx_k (.bool false) w37 (gx_k (i6 x110) w37 (gx_k (i6 p1) w37 ?_)))
 rcases if_in hE119 with ⟨h123, hE119⟩ | ⟨h123, hE119⟩
 refine gx_v (.bool true) w37 (rbE (decide_eq_true h123)) (gx_k (.bool true) w37 (gx_nil (gx_thenN ?_)))
 exact ⟨true, selfA_i (by kernel_rfl), (sj hE119), hS38⟩
 refine gx_v (.bool false) w37 (rbE (decide_eq_false h123)) (gx_k (.bool false) w37 (gx_nil (gx_thenN ?_)))
 exact ⟨false, selfA_i (by kernel_rfl), (sj hE119), hS38⟩
 rintro _ w114 ⟨b117, hq121, rfl, hS115⟩
 obtain ⟨u116, rfl⟩ := selfA_u hq121
 try dsimp only at hO120
 refine gx_k (.bool b117) w114 ?_
 rcases b117 with _ | _
 try dsimp only at hO120
 refine gx_k (i6 x40) w114 ?_
 rcases if_in hO120 with ⟨h126, hO120⟩ | ⟨h126, hO120⟩
 refine gx_v (.bool true) w114 (rbE (decide_eq_true h126)) (gx_k (.bool true) w114 (gx_k (i6 x110) w114 (gx_k (.slice A0 p0.length c0) w114 (gx_k (i6 x21) w114 ?_))))
 obtain ⟨x127, hx128, hO120⟩ := bind_in hO120
 obtain ⟨g129, o130, e131, hA132, he133, h134, ha135⟩ := elem_at (e := (pairE encapiTag (rowOf (intE .i64)))) (sl_lies (hS115.inn ho0 hv0)) (sl_each hv0) hx128 (by decide)
 obtain ⟨e136, e137, rfl, h138, h139⟩ := h134
 obtain ⟨e140, e141, rfl, h142, h143⟩ := h138
 obtain rfl := h142
 obtain ⟨e144, e145, rfl, h146, h147⟩ := h143
 obtain rfl := h146
 obtain ⟨e148, e149, rfl, h150, h151⟩ := h147
 obtain rfl := h150
 obtain rfl := h151
 obtain ⟨A152, c153, vs154, rfl, hf155⟩ := h139
 have ha135 : ∀ w', Lies w' A0 vs0 → w'.rangeAt g129 o130 [.int .u8 x127.1.1, .int .u8 x127.1.2.1, .int .u8 x127.1.2.2.1, .int .u8 x127.1.2.2.2, .slice A152 ((x127.2).length) c153] := ha135
 refine gx_v (.pointer (some ⟨g129, o130, none⟩)) w114 (run_ixaddrN (E := 52) (s := 5) (k := .i64) (c := c0) rfl (by kernel_rfl) (by kernel_rfl) (by kernel_rfl) (fun _ => by kernel_rfl) (ixg_in hx128).1 (ixg_in hx128).2.1 hA132) (gx_k (.pointer (some ⟨g129, o130 + 4, none⟩)) w114 (gx_v (.slice A152 ((x127.2).length) c153) w114 (run_loadN1 4 rfl (by kernel_rfl) (fun _ => by kernel_rfl) (ha135 _ (sl_lies (hS115.inn ho0 hv0))) rfl) (gx_k (i6 x40) w114 (gx_k (i6 (iw (x40 - 1))) w114 ?_))))
 obtain ⟨x156, hx157, hO120⟩ := bind_in hO120
 refine gx_v (pI (iw (x40 - 1)) A152) w114 (rix 3 .i64 hx157 ((num_sl (hS115.inn ho0 hf155)))) (gx_v (i6 x156) w114 (rlx (num_sl (hS115.inn ho0 hf155)) hx157) ?_)
 rcases if_in hO120 with ⟨h158, hO120⟩ | ⟨h158, hO120⟩
 refine gx_v (.bool true) w114 (rbE (decide_eq_true h158)) (gx_k (.bool true) w114 (gx_k (.bool true) w114 (gx_nil (gx_thenN (hK113 _ _ (gx_yes (by kernel_rfl) (gx_seq (fun K159 hK160 => gx_region ?_))))))))
 refine gx_k (.bool false) w114 (gx_nil (gx_thenN (hK160 _ _ (gx_ret (gx_blkR (gx_thenR (gx_thenR ?_)))))))
 refine gx_blkR (gx_blkR (gx_thenR ?_))
 obtain rfl := sj hO120
 try dsimp only at hO34
 refine gx_thenR (gx_blkR (gx_thenR ?_))
 obtain rfl := sj hO34
 try dsimp only at hO15
 obtain rfl := sj hO15
 exact gxF (.bool false) ⟨_, rfl, rfl, (hS115.pick [] rfl rfl)⟩
 refine gx_v (.bool false) w114 (rbE (decide_eq_false h158)) (gx_k (.bool false) w114 (gx_k (.bool false) w114 (gx_nil (gx_thenN (hK113 _ _ (gx_no (by kernel_rfl) (gx_pass (gx_blkN ?_))))))))
 refine gx_thenN (hK78 _ _ (gx_region (gx_k (i6 x40) w114 (gx_k (i6 (iw (x40 + 1))) w114 (gx_k (i6 (iw (x40 + 1))) w114 (gx_nil (gx_thenN ?_)))))))
 exact ⟨k41, Nat.lt_succ_self k41, (iw (x40 + 1)), selfA_i (by kernel_rfl), hO120, hS115⟩
 refine gx_v (.bool false) w114 (rbE (decide_eq_false h126)) (gx_k (.bool false) w114 (gx_o (gx_o (gx_o (gx_o (gx_o (gx_o (gx_o (gx_o (gx_o (gx_o (gx_o (gx_k (.bool false) w114 (gx_k (.bool false) w114 (gx_nil (gx_thenN (hK113 _ _ (gx_no (by kernel_rfl) (gx_pass ?_)))))))))))))))))))
 refine gx_blkN (gx_thenN (hK78 _ _ (gx_region (gx_k (i6 x40) w114 (gx_k (i6 (iw (x40 + 1))) w114 (gx_k (i6 (iw (x40 + 1))) w114 (gx_nil (gx_thenN ?_))))))))
 exact ⟨k41, Nat.lt_succ_self k41, (iw (x40 + 1)), selfA_i (by kernel_rfl), hO120, hS115⟩
 try dsimp only at hO120
 refine gx_o (gx_o (gx_o (gx_o (gx_o (gx_o (gx_o (gx_o (gx_o (gx_o (gx_o (gx_o (gx_o (gx_o (gx_o (gx_k (.bool true) w114 (gx_nil (gx_thenN (hK113 _ _ (gx_yes (by kernel_rfl) (gx_seq (fun K124 hK125 => gx_region ?_)))))))))))))))))))))
 refine gx_k (.bool false) w114 (gx_nil (gx_thenN (hK125 _ _ (gx_ret (gx_blkR (gx_thenR (gx_thenR ?_)))))))
 refine gx_blkR (gx_blkR (gx_thenR ?_))
 obtain rfl := sj hO120
 try dsimp only at hO34
 refine gx_thenR (gx_blkR (gx_thenR ?_))
 obtain rfl := sj hO34
 try dsimp only at hO15
 obtain rfl := sj hO15
 exact gxF (.bool false) ⟨_, rfl, rfl, (hS115.pick [] rfl rfl)⟩
 refine gx_v (.bool false) w37 (rbE (decide_eq_false h76)) (gx_nil (gx_thenN (hK46 _ _ (gx_no (by kernel_rfl) (gx_exit (gx_thenE (gx_thenE ?_)))))))
 refine gx_blkE (gx_blkN (gx_thenN ?_))
 exact ⟨selfA_i (by kernel_rfl), (sj hL42), hS38⟩
 rintro _ w29 ⟨hq162, rfl, hS30⟩
 obtain ⟨u31, rfl⟩ := selfA_u hq162
 try dsimp only at hO34
 refine gx_region (gx_k (i6 x21) w29 (gx_k (i6 (iw (x21 + 1))) w29 (gx_k (i6 (iw (x21 + 1))) w29 (gx_nil (gx_thenN ?_)))))
 exact ⟨k22, Nat.lt_succ_self k22, (iw (x21 + 1)), selfA_i (by kernel_rfl), hO34, hS30⟩
 refine gx_v (.bool false) w18 (rbE (decide_eq_false h28)) (gx_nil (gx_thenN (hK27 _ _ (gx_no (by kernel_rfl) (gx_exit (gx_thenE (gx_thenE ?_)))))))
 refine gx_blkE (gx_thenN ?_)
 exact ⟨selfA_i (by kernel_rfl), (sj hL23), hS19⟩
 rintro _ w10 ⟨hq166, rfl, hS11⟩
 obtain ⟨u12, rfl⟩ := selfA_u hq166
 try dsimp only at hO15
 refine gx_seq (fun K164 hK165 => gx_region (gx_k (.bool true) w10 (gx_nil (gx_thenN (hK165 _ _ (gx_ret ?_))))))
 obtain rfl := sj hO15
 exact gxF (.bool true) ⟨_, rfl, rfl, (hS11.pick [] rfl rfl)⟩
end Go.Proofs.Ytgjlpiljacecpaa
