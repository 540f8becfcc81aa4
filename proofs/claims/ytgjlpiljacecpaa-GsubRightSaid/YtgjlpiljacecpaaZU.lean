/-
  What is alike, walked.
-/
import Derived.Test.YtgjlpiljacecpaaZS
namespace Go.Proofs.Ytgjlpiljacecpaa
open Go Go.RowKit
set_option linter.unusedVariables false
set_option maxRecDepth 100000
set_option maxHeartbeats 4000000
def kSameW_L1 (N : Nat) (p0 : List Int) (p1 : List Int) : Nat → Int → Option (Ctl (Unit) (Bool))
 | 0, _ => none
 | k22+1, x21 => (if x21 < ((p0.length : Nat) : Int) then ((ix p0 x21).bind fun x35 => ((ix p1 x21).bind fun x37 => (if x35 ≠ x37 then some (Ctl.ret false) else kSameW_L1 N p0 p1 k22 (IntKind.i64.wrap (x21 + 1))))) else some (Ctl.go ()))
def kSameW (N : Nat) (p0 : List Int) (p1 : List Int) : Option (Bool) :=
 (if ((p0.length : Nat) : Int) ≠ ((p1.length : Nat) : Int) then some false else ((kSameW_L1 N p0 p1 N 0 : Option (Ctl (Unit) (Bool))).bind fun | Ctl.go () => some true | Ctl.ret r => some r))
def kSameW_R (r : Bool) (w0 : World) (v : Value) (w : World) : Prop := v = .bool r ∧ St [] w0 w []
theorem kSameW_ok (N : Nat) (p0 : List Int) (p1 : List Int) (A0 : Option Addr) (c0 : Nat) (A1 : Option Addr) (c1 : Nat) (r : Bool) (hF : kSameW N p0 p1 = some r) (w0 : World) (hv0 : Vw [] .u16 w0 A0 c0 p0) (hv1 : Vw [] .u16 w0 A1 c1 p1) :
  Calls Try.prog 23 #[.slice A0 p0.length c0, .slice A1 p1.length c1] w0 fun e w => ∃ v, e = .returned v ∧ kSameW_R r w0 v w := by
 have hS0 := St.start w0
 unfold kSameW at hF
 refine calls_of Try.func23 rfl ⟨((.slice A0 p0.length c0) :: (.slice A1 p1.length c1) :: un 24 ([])).toArray, []⟩ (by kernel_rfl) (gx_seq (fun K1 hK2 => gx_region (gx_k (.bool false) w0 (gx_nil (gx_thenN (hK2 _ _ (gx_seq (fun K3 hK4 => ?_))))))))
 refine gx_seq (fun K5 hK6 => gx_region (gx_k (.slice A0 p0.length c0) w0 (gx_k (i6 ((p0.length : Nat) : Int)) w0 (gx_k (.slice A1 p1.length c1) w0 (gx_k (i6 ((p1.length : Nat) : Int)) w0 ?_)))))
 rcases if_in hF with ⟨h7, hF⟩ | ⟨h7, hF⟩
 refine gx_v (.bool true) w0 (rbE (ne_yes h7)) (gx_nil (gx_thenN (hK6 _ _ (gx_yes (by kernel_rfl) (gx_seq (fun K8 hK9 => gx_region (gx_k (.bool false) w0 ?_)))))))
 refine gx_nil (gx_thenN (hK9 _ _ (gx_ret (gx_thenR ?_))))
 obtain rfl := sj hF
 exact gxF (.bool false) ⟨_, rfl, rfl, hS0⟩
 refine gx_v (.bool false) w0 (rbE (ne_no h7)) (gx_nil (gx_thenN (hK6 _ _ (gx_no (by kernel_rfl) (gx_pass (gx_thenN (hK4 _ _ ?_)))))))
 obtain ⟨c13, hE14, hO15⟩ := bind_in hF
 refine gx_cut (fun a w => selfA (fun u12 => ⟨(dd u12 0 2 (undef :: undef :: dd u12 4 3 ((i6 ((p0.length : Nat) : Int)) :: (u12 8) :: (i6 ((p1.length : Nat) : Int)) :: (.bool false) :: dd u12 11 15 ([])))).toArray, []⟩) a ∧ Ctl.go () = c13 ∧ St [] w0 w []) ?_ ?_
 refine gx_seq (fun K16 hK17 => gx_region (gx_k (i6 0) w0 (gx_nil (gx_thenN (hK17 _ _ (gx_block (gx_loop (fun k a w => ∃ (x21 : Int), selfA (fun u20 => ⟨((.slice A0 p0.length c0) :: (.slice A1 p1.length c1) :: undef :: undef :: (u20 4) :: (i6 x21) :: (u20 6) :: (i6 ((p0.length : Nat) : Int)) :: (u20 8) :: (i6 ((p1.length : Nat) : Int)) :: (.bool false) :: dd u20 11 15 ([])).toArray, []⟩) a ∧ kSameW_L1 N p0 p1 k x21 = some c13 ∧ St [] w0 w []) N ?_ ?_)))))))
 exact ⟨0, selfA_i (by kernel_rfl), hE14, hS0⟩
 rintro k22 _ w18 ⟨x21, hq42, hL23, hS19⟩
 obtain ⟨u20, rfl⟩ := selfA_u hq42
 rcases k22 with _ | k22
 cases hL23
 first | rw [kSameW_L1] at hL23 | unfold kSameW_L1 at hL23
 refine gx_seq (fun K24 hK25 => gx_seq (fun K26 hK27 => gx_region (gx_k (i6 x21) w18 (gx_k (.slice A0 p0.length c0) w18 (gx_k (i6 ((p0.length : Nat) : Int)) w18 ?_)))))
 rcases if_in hL23 with ⟨h28, hL23⟩ | ⟨h28, hL23⟩
 refine gx_v (.bool true) w18 (rbE (decide_eq_true h28)) (gx_nil (gx_thenN (hK27 _ _ (gx_yes (by kernel_rfl) (gx_pass (gx_thenN (hK25 _ _ ?_)))))))
 refine gx_seq (fun K29 hK30 => gx_block (gx_seq (fun K31 hK32 => gdst (fun w => St [] w0 w []) 9 ?_)))
 have hS34 := hS19.drew
 generalize w18.drew = w33 at hS34 ⊢
 refine gv1 0 17 (.slice A0 p0.length c0) rfl hS34 (gv1 1 18 (i6 x21) rfl hS34 ?_)
 obtain ⟨x35, hx36, hL23⟩ := bind_in hL23
 refine gu1 2 19 (pI x21 A0) rfl hS34 (fun w hSw => rix 31 .i64 hx36 ((hS34.view hv0))) (gu1 3 20 (u6 x35) rfl hS34 (fun w hSw => rlx (hSw.view hv0) hx36) (gv1 4 21 (.slice A1 p1.length c1) rfl hS34 (gv1 5 22 (i6 x21) rfl hS34 ?_)))
 obtain ⟨x37, hx38, hL23⟩ := bind_in hL23
 refine gu1 6 23 (pI x21 A1) rfl hS34 (fun w hSw => rix 31 .i64 hx38 ((hS34.view hv1))) (gu1 7 24 (u6 x37) rfl hS34 (fun w hSw => rlx (hSw.view hv1) hx38) ?_)
 rcases if_in hL23 with ⟨h39, hL23⟩ | ⟨h39, hL23⟩
 refine gu1 8 25 (.bool true) rfl hS34 (fun w hSw => rbE (ne_yes h39)) (gd_done (by kernel_rfl) (gx_thenN (hK32 _ _ (gx_yes (by kernel_rfl) (gx_seq (fun K40 hK41 => gx_region (gx_k (.bool false) w33 ?_)))))))
 refine gx_nil (gx_thenN (hK41 _ _ (gx_ret (gx_blkR (gx_thenR (gx_thenR (gx_blkR ?_)))))))
 refine gx_thenR ?_
 obtain rfl := sj hL23
 try dsimp only at hO15
 obtain rfl := sj hO15
 exact gxF (.bool false) ⟨_, rfl, rfl, hS34⟩
 refine gu1 8 25 (.bool false) rfl hS34 (fun w hSw => rbE (ne_no h39)) (gd_done (by kernel_rfl) (gx_thenN (hK32 _ _ (gx_no (by kernel_rfl) (gx_pass (gx_blkN (gx_thenN ?_)))))))
 refine hK30 _ _ (gx_region (gx_k (i6 x21) w33 (gx_k (i6 (iw (x21 + 1))) w33 (gx_k (i6 (iw (x21 + 1))) w33 (gx_nil (gx_thenN ?_))))))
 exact ⟨k22, Nat.lt_succ_self k22, (iw (x21 + 1)), selfA_i (by kernel_rfl), hL23, hS34⟩
 refine gx_v (.bool false) w18 (rbE (decide_eq_false h28)) (gx_nil (gx_thenN (hK27 _ _ (gx_no (by kernel_rfl) (gx_exit (gx_thenE (gx_thenE ?_)))))))
 refine gx_blkE (gx_thenN ?_)
 exact ⟨selfA_i (by kernel_rfl), (sj hL23), hS19⟩
 rintro _ w10 ⟨hq45, rfl, hS11⟩
 obtain ⟨u12, rfl⟩ := selfA_u hq45
 try dsimp only at hO15
 refine gx_seq (fun K43 hK44 => gx_region (gx_k (.bool true) w10 (gx_nil (gx_thenN (hK44 _ _ (gx_ret ?_))))))
 obtain rfl := sj hO15
 exact gxF (.bool true) ⟨_, rfl, rfl, hS11⟩
end Go.Proofs.Ytgjlpiljacecpaa
