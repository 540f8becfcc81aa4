/-
  The program, walked.
-/
import Derived.Test.YtdpcaidhpccaiaaR1
namespace Go.Proofs.Ytdpcaidhpccaiaa
open Go Go.RowKit
set_option linter.unusedVariables false

def pEdge (_N : Nat) (p0 : Int) : Option (Int) :=
 (if p0 = 2 then some 2 else some 1)

set_option linter.unusedVariables false in
def pEdge_R (r : Int) (w0 : World) (v : Value) (w : World) : Prop := v = .int .u8 r ∧ St [] w0 w []

set_option maxRecDepth 100000 in
set_option maxHeartbeats 4000000 in
theorem pEdge_ok (N : Nat) (p0 : Int)  (r : Int) (hF : pEdge N p0 = some r) (w0 : World)  :
  Calls Try.prog 28 #[.int .u8 p0] w0 fun e w => ∃ v, e = .returned v ∧ pEdge_R r w0 v w := by
 have hS0 := St.start w0
 unfold pEdge at hF
 refine calls_of Try.func28 rfl ⟨((.int .u8 p0) :: un 4 ([])).toArray, []⟩ (by kernel_rfl) ?_
 refine gx_seq (fun K1 hK2 => ?_)
 refine gx_region ?_
 refine gx_k (.int .u8 0) w0 ?_
 refine gx_nil ?_
 refine gx_thenN ?_
 refine hK2 _ _ ?_
 refine gx_seq (fun K3 hK4 => ?_)
 refine gx_seq (fun K5 hK6 => ?_)
 refine gx_region ?_
 refine gx_k (.int .u8 p0) w0 ?_
 rcases if_in hF with ⟨h7, hF⟩ | ⟨h7, hF⟩
 ·refine gx_v (.bool true) w0 (run_boolE (decide_eq_true h7) (by kernel_rfl)) ?_
  refine gx_nil ?_
  refine gx_thenN ?_
  refine hK6 _ _ ?_
  refine gx_yes (by kernel_rfl) ?_
  refine gx_seq (fun K8 hK9 => ?_)
  refine gx_region ?_
  refine gx_k (.int .u8 2) w0 ?_
  refine gx_nil ?_
  refine gx_thenN ?_
  refine hK9 _ _ ?_
  refine gx_ret ?_
  refine gx_thenR ?_
  obtain rfl := Option.some.inj hF
  exact gx_fin (.int .u8 2) (by kernel_rfl) (by kernel_rfl) ⟨_, rfl, rfl, hS0⟩
 ·refine gx_v (.bool false) w0 (run_boolE (decide_eq_false h7) (by kernel_rfl)) ?_
  refine gx_nil ?_
  refine gx_thenN ?_
  refine hK6 _ _ ?_
  refine gx_no (by kernel_rfl) ?_
  refine gx_pass ?_
  refine gx_thenN ?_
  refine hK4 _ _ ?_
  refine gx_seq (fun K10 hK11 => ?_)
  refine gx_region ?_
  refine gx_k (.int .u8 1) w0 ?_
  refine gx_nil ?_
  refine gx_thenN ?_
  refine hK11 _ _ ?_
  refine gx_ret ?_
  obtain rfl := Option.some.inj hF
  exact gx_fin (.int .u8 1) (by kernel_rfl) (by kernel_rfl) ⟨_, rfl, rfl, hS0⟩

def pSideOf (_N : Nat) (p0 : Int) : Option (Int) :=
 (if (Int.tmod p0 2) = 1 then some 2 else some 1)

set_option linter.unusedVariables false in
def pSideOf_R (r : Int) (w0 : World) (v : Value) (w : World) : Prop := v = .int .u8 r ∧ St [] w0 w []

set_option maxRecDepth 100000 in
set_option maxHeartbeats 4000000 in
theorem pSideOf_ok (N : Nat) (p0 : Int)  (r : Int) (hF : pSideOf N p0 = some r) (w0 : World)  :
  Calls Try.prog 39 #[.int .u8 p0] w0 fun e w => ∃ v, e = .returned v ∧ pSideOf_R r w0 v w := by
 have hS0 := St.start w0
 unfold pSideOf at hF
 refine calls_of Try.func39 rfl ⟨((.int .u8 p0) :: un 5 ([])).toArray, []⟩ (by kernel_rfl) ?_
 refine gx_seq (fun K1 hK2 => ?_)
 refine gx_region ?_
 refine gx_k (.int .u8 0) w0 ?_
 refine gx_nil ?_
 refine gx_thenN ?_
 refine hK2 _ _ ?_
 refine gx_seq (fun K3 hK4 => ?_)
 refine gx_seq (fun K5 hK6 => ?_)
 refine gx_region ?_
 refine gx_k (.int .u8 p0) w0 (gx_k (.int .u8 (Int.tmod p0 2)) w0 ?_)
 rcases if_in hF with ⟨h7, hF⟩ | ⟨h7, hF⟩
 ·refine gx_v (.bool true) w0 (run_boolE (decide_eq_true h7) (by kernel_rfl)) ?_
  refine gx_nil ?_
  refine gx_thenN ?_
  refine hK6 _ _ ?_
  refine gx_yes (by kernel_rfl) ?_
  refine gx_seq (fun K8 hK9 => ?_)
  refine gx_region ?_
  refine gx_k (.int .u8 2) w0 ?_
  refine gx_nil ?_
  refine gx_thenN ?_
  refine hK9 _ _ ?_
  refine gx_ret ?_
  refine gx_thenR ?_
  obtain rfl := Option.some.inj hF
  exact gx_fin (.int .u8 2) (by kernel_rfl) (by kernel_rfl) ⟨_, rfl, rfl, hS0⟩
 ·refine gx_v (.bool false) w0 (run_boolE (decide_eq_false h7) (by kernel_rfl)) ?_
  refine gx_nil ?_
  refine gx_thenN ?_
  refine hK6 _ _ ?_
  refine gx_no (by kernel_rfl) ?_
  refine gx_pass ?_
  refine gx_thenN ?_
  refine hK4 _ _ ?_
  refine gx_seq (fun K10 hK11 => ?_)
  refine gx_region ?_
  refine gx_k (.int .u8 1) w0 ?_
  refine gx_nil ?_
  refine gx_thenN ?_
  refine hK11 _ _ ?_
  refine gx_ret ?_
  obtain rfl := Option.some.inj hF
  exact gx_fin (.int .u8 1) (by kernel_rfl) (by kernel_rfl) ⟨_, rfl, rfl, hS0⟩

def pDir (_N : Nat) (p0 : Int) : Option (Int) :=
 (if p0 = 1 then some 1 else (if p0 = 2 then some 2 else (if p0 = 4 then some 2 else (if p0 = 7 then some 2 else some 0))))

set_option linter.unusedVariables false in
def pDir_R (r : Int) (w0 : World) (v : Value) (w : World) : Prop := v = .int .u8 r ∧ St [] w0 w []

set_option maxRecDepth 100000 in
set_option maxHeartbeats 4000000 in
theorem pDir_ok (N : Nat) (p0 : Int)  (r : Int) (hF : pDir N p0 = some r) (w0 : World)  :
  Calls Try.prog 52 #[.int .u8 p0] w0 fun e w => ∃ v, e = .returned v ∧ pDir_R r w0 v w := by
 have hS0 := St.start w0
 unfold pDir at hF
 refine calls_of Try.func52 rfl ⟨((.int .u8 p0) :: un 9 ([])).toArray, []⟩ (by kernel_rfl) ?_
 refine gx_seq (fun K1 hK2 => ?_)
 refine gx_region ?_
 refine gx_k (.int .u8 0) w0 ?_
 refine gx_nil ?_
 refine gx_thenN ?_
 refine hK2 _ _ ?_
 refine gx_seq (fun K3 hK4 => ?_)
 refine gx_seq (fun K5 hK6 => ?_)
 refine gx_region ?_
 refine gx_k (.int .u8 p0) w0 ?_
 refine gx_nil ?_
 refine gx_thenN ?_
 refine hK6 _ _ ?_
 refine gx_block ?_
 refine gx_seq (fun K7 hK8 => ?_)
 refine gx_region ?_
 rcases if_in hF with ⟨h9, hF⟩ | ⟨h9, hF⟩
 ·refine gx_v (.bool true) w0 (run_boolE (decide_eq_true h9) (by kernel_rfl)) ?_
  refine gx_k (.bool true) w0 ?_
  refine gx_nil ?_
  refine gx_thenN ?_
  refine hK8 _ _ ?_
  refine gx_yes (by kernel_rfl) ?_
  refine gx_seq (fun K10 hK11 => ?_)
  refine gx_region ?_
  refine gx_k (.int .u8 1) w0 ?_
  refine gx_nil ?_
  refine gx_thenN ?_
  refine hK11 _ _ ?_
  refine gx_ret ?_
  refine gx_blkR ?_
  refine gx_thenR ?_
  obtain rfl := Option.some.inj hF
  exact gx_fin (.int .u8 1) (by kernel_rfl) (by kernel_rfl) ⟨_, rfl, rfl, hS0⟩
 ·refine gx_v (.bool false) w0 (run_boolE (decide_eq_false h9) (by kernel_rfl)) ?_
  refine gx_k (.bool false) w0 ?_
  refine gx_nil ?_
  refine gx_thenN ?_
  refine hK8 _ _ ?_
  refine gx_no (by kernel_rfl) ?_
  refine gx_seq (fun K12 hK13 => ?_)
  refine gx_seq (fun K14 hK15 => ?_)
  refine gx_region ?_
  rcases if_in hF with ⟨h16, hF⟩ | ⟨h16, hF⟩
  ·refine gx_v (.bool true) w0 (run_boolE (decide_eq_true h16) (by kernel_rfl)) ?_
   refine gx_k (.bool true) w0 ?_
   refine gx_nil ?_
   refine gx_thenN ?_
   refine hK15 _ _ ?_
   refine gx_yes (by kernel_rfl) ?_
   refine gx_pass ?_
   refine gx_thenN ?_
   refine hK13 _ _ ?_
   refine gx_yes (by kernel_rfl) ?_
   refine gx_seq (fun K17 hK18 => ?_)
   refine gx_region ?_
   refine gx_k (.int .u8 2) w0 ?_
   refine gx_nil ?_
   refine gx_thenN ?_
   refine hK18 _ _ ?_
   refine gx_ret ?_
   refine gx_blkR ?_
   refine gx_thenR ?_
   obtain rfl := Option.some.inj hF
   exact gx_fin (.int .u8 2) (by kernel_rfl) (by kernel_rfl) ⟨_, rfl, rfl, hS0⟩
  ·refine gx_v (.bool false) w0 (run_boolE (decide_eq_false h16) (by kernel_rfl)) ?_
   refine gx_k (.bool false) w0 ?_
   refine gx_nil ?_
   refine gx_thenN ?_
   refine hK15 _ _ ?_
   refine gx_no (by kernel_rfl) ?_
   refine gx_seq (fun K19 hK20 => ?_)
   refine gx_region ?_
   rcases if_in hF with ⟨h21, hF⟩ | ⟨h21, hF⟩
   ·refine gx_v (.bool true) w0 (run_boolE (decide_eq_true h21) (by kernel_rfl)) ?_
    refine gx_k (.bool true) w0 ?_
    refine gx_nil ?_
    refine gx_thenN ?_
    refine hK20 _ _ ?_
    refine gx_yes (by kernel_rfl) ?_
    refine gx_pass ?_
    refine gx_thenN ?_
    refine hK13 _ _ ?_
    refine gx_yes (by kernel_rfl) ?_
    refine gx_seq (fun K22 hK23 => ?_)
    refine gx_region ?_
    refine gx_k (.int .u8 2) w0 ?_
    refine gx_nil ?_
    refine gx_thenN ?_
    refine hK23 _ _ ?_
    refine gx_ret ?_
    refine gx_blkR ?_
    refine gx_thenR ?_
    obtain rfl := Option.some.inj hF
    exact gx_fin (.int .u8 2) (by kernel_rfl) (by kernel_rfl) ⟨_, rfl, rfl, hS0⟩
   ·refine gx_v (.bool false) w0 (run_boolE (decide_eq_false h21) (by kernel_rfl)) ?_
    refine gx_k (.bool false) w0 ?_
    refine gx_nil ?_
    refine gx_thenN ?_
    refine hK20 _ _ ?_
    refine gx_no (by kernel_rfl) ?_
    refine gx_region ?_
    rcases if_in hF with ⟨h24, hF⟩ | ⟨h24, hF⟩
    ·refine gx_v (.bool true) w0 (run_boolE (decide_eq_true h24) (by kernel_rfl)) ?_
     refine gx_k (.bool true) w0 ?_
     refine gx_nil ?_
     refine gx_thenN ?_
     refine hK13 _ _ ?_
     refine gx_yes (by kernel_rfl) ?_
     refine gx_seq (fun K25 hK26 => ?_)
     refine gx_region ?_
     refine gx_k (.int .u8 2) w0 ?_
     refine gx_nil ?_
     refine gx_thenN ?_
     refine hK26 _ _ ?_
     refine gx_ret ?_
     refine gx_blkR ?_
     refine gx_thenR ?_
     obtain rfl := Option.some.inj hF
     exact gx_fin (.int .u8 2) (by kernel_rfl) (by kernel_rfl) ⟨_, rfl, rfl, hS0⟩
    ·refine gx_v (.bool false) w0 (run_boolE (decide_eq_false h24) (by kernel_rfl)) ?_
     refine gx_k (.bool false) w0 ?_
     refine gx_nil ?_
     refine gx_thenN ?_
     refine hK13 _ _ ?_
     refine gx_no (by kernel_rfl) ?_
     refine gx_pass ?_
     refine gx_blkN ?_
     refine gx_thenN ?_
     refine hK4 _ _ ?_
     refine gx_seq (fun K27 hK28 => ?_)
     refine gx_region ?_
     refine gx_k (.int .u8 0) w0 ?_
     refine gx_nil ?_
     refine gx_thenN ?_
     refine hK28 _ _ ?_
     refine gx_ret ?_
     obtain rfl := Option.some.inj hF
     exact gx_fin (.int .u8 0) (by kernel_rfl) (by kernel_rfl) ⟨_, rfl, rfl, hS0⟩

def pAbove (N : Nat) (p0 : Int) (p1 : Int) : Option (Int) :=
 (((if p0 = 4 then some (true) else (if p0 = 7 then some (true) else some (false))) : Option (Bool)).bind fun b8 => (match b8 with | true => some (IntKind.u8.wrap ((2 : Int) - (Int.tmod p1 2))) | false => ((pDir N p0).bind fun x20 => (if x20 = 0 then some 0 else ((pSideOf N p1).bind fun x29 => (if p0 = x29 then some 0 else some 1))))))

set_option linter.unusedVariables false in
def pAbove_R (r : Int) (w0 : World) (v : Value) (w : World) : Prop := v = .int .u8 r ∧ St [] w0 w []

set_option maxRecDepth 100000 in
set_option maxHeartbeats 4000000 in
theorem pAbove_ok (N : Nat) (p0 : Int) (p1 : Int)  (r : Int) (hF : pAbove N p0 p1 = some r) (w0 : World)  :
  Calls Try.prog 42 #[.int .u8 p0, .int .u8 p1] w0 fun e w => ∃ v, e = .returned v ∧ pAbove_R r w0 v w := by
 have hS0 := St.start w0
 unfold pAbove at hF
 refine calls_of Try.func42 rfl ⟨((.int .u8 p0) :: (.int .u8 p1) :: un 23 ([])).toArray, []⟩ (by kernel_rfl) ?_
 refine gx_seq (fun K1 hK2 => ?_)
 refine gx_region ?_
 refine gx_k (.int .u8 0) w0 ?_
 refine gx_nil ?_
 refine gx_thenN ?_
 refine hK2 _ _ ?_
 refine gx_seq (fun K3 hK4 => ?_)
 refine gx_block ?_
 obtain ⟨c9, hE10, hO11⟩ := bind_in hF
 refine gx_cut (fun a w => ∃ (b8 : Bool), selfA (fun u7 => ⟨((.int .u8 p0) :: (.int .u8 p1) :: undef :: undef :: (.int .u8 0) :: (.bool b8) :: dd u7 6 6 (un 13 ([]))).toArray, []⟩) a ∧ b8 = c9 ∧ St [] w0 w []) ?_ ?_
 ·refine gx_region ?_
  refine gx_k (.int .u8 p0) w0 ?_
  rcases if_in hE10 with ⟨h12, hE10⟩ | ⟨h12, hE10⟩
  ·refine gx_v (.bool true) w0 (run_boolE (decide_eq_true h12) (by kernel_rfl)) ?_
   refine gx_k (.bool true) w0 (gx_o (gx_o (gx_k (.bool true) w0 (gx_k (.bool true) w0 ?_))))
   refine gx_nil ?_
   refine gx_thenN ?_
   exact ⟨true, selfA_i (by kernel_rfl), (Option.some.inj hE10), hS0⟩
  ·refine gx_v (.bool false) w0 (run_boolE (decide_eq_false h12) (by kernel_rfl)) ?_
   refine gx_k (.bool false) w0 (gx_k (.int .u8 p0) w0 ?_)
   rcases if_in hE10 with ⟨h13, hE10⟩ | ⟨h13, hE10⟩
   ·refine gx_v (.bool true) w0 (run_boolE (decide_eq_true h13) (by kernel_rfl)) ?_
    refine gx_k (.bool true) w0 (gx_k (.bool true) w0 ?_)
    refine gx_nil ?_
    refine gx_thenN ?_
    exact ⟨true, selfA_i (by kernel_rfl), (Option.some.inj hE10), hS0⟩
   ·refine gx_v (.bool false) w0 (run_boolE (decide_eq_false h13) (by kernel_rfl)) ?_
    refine gx_k (.bool false) w0 (gx_k (.bool false) w0 ?_)
    refine gx_nil ?_
    refine gx_thenN ?_
    exact ⟨false, selfA_i (by kernel_rfl), (Option.some.inj hE10), hS0⟩
 ·rintro _ w5 ⟨b8, hq38, rfl, hS6⟩
  obtain ⟨u7, rfl⟩ := selfA_u hq38
  try dsimp only at hO11
  cases b8 with
  | true =>
   try dsimp only at hO11
   refine gx_yes (by kernel_rfl) ?_
   refine gx_seq (fun K14 hK15 => ?_)
   refine gx_region ?_
   refine gx_k (.int .u8 p1) w5 (gx_k (.int .u8 (Int.tmod p1 2)) w5 (gx_k (.int .u8 (IntKind.u8.wrap ((2 : Int) - (Int.tmod p1 2)))) w5 (gx_k (.int .u8 (IntKind.u8.wrap ((2 : Int) - (Int.tmod p1 2)))) w5 ?_)))
   refine gx_nil ?_
   refine gx_thenN ?_
   refine hK15 _ _ ?_
   refine gx_ret ?_
   refine gx_blkR ?_
   refine gx_thenR ?_
   obtain rfl := Option.some.inj hO11
   exact gx_fin (.int .u8 (IntKind.u8.wrap ((2 : Int) - (Int.tmod p1 2)))) (by kernel_rfl) (by kernel_rfl) ⟨_, rfl, rfl, hS6⟩
  | false =>
   try dsimp only at hO11
   refine gx_no (by kernel_rfl) ?_
   refine gx_seq (fun K16 hK17 => ?_)
   refine gx_region ?_
   refine gx_k (.int .u8 p0) w5 ?_
   have hP18 : St _ _ w5 ([] ++ []) := hS6
   obtain ⟨x20, hc19, hO11⟩ := bind_in hO11
   try dsimp only at hO11
   refine gx_c (pDir_R x20 w5) (pDir_ok N p0 _ hc19 w5 ) ?_
   rintro _ w21 ⟨rfl, hT23⟩
   have hS22 : St _ _ w21 [] := hS6.take _ hT23
   rcases if_in hO11 with ⟨h24, hO11⟩ | ⟨h24, hO11⟩
   ·refine gx_v (.bool true) w21 (run_boolE (decide_eq_true h24) (by kernel_rfl)) ?_
    refine gx_k (.bool true) w21 (gx_o (gx_o (gx_o (gx_o (gx_k (.bool true) w21 (gx_k (.bool true) w21 ?_))))))
    refine gx_nil ?_
    refine gx_thenN ?_
    refine hK17 _ _ ?_
    refine gx_yes (by kernel_rfl) ?_
    refine gx_seq (fun K25 hK26 => ?_)
    refine gx_region ?_
    refine gx_k (.int .u8 0) w21 ?_
    refine gx_nil ?_
    refine gx_thenN ?_
    refine hK26 _ _ ?_
    refine gx_ret ?_
    refine gx_blkR ?_
    refine gx_thenR ?_
    obtain rfl := Option.some.inj hO11
    exact gx_fin (.int .u8 0) (by kernel_rfl) (by kernel_rfl) ⟨_, rfl, rfl, hS22⟩
   ·refine gx_v (.bool false) w21 (run_boolE (decide_eq_false h24) (by kernel_rfl)) ?_
    refine gx_k (.bool false) w21 (gx_k (.int .u8 p0) w21 (gx_k (.int .u8 p1) w21 ?_))
    have hP27 : St _ _ w21 ([] ++ []) := hS22
    obtain ⟨x29, hc28, hO11⟩ := bind_in hO11
    try dsimp only at hO11
    refine gx_c (pSideOf_R x29 w21) (pSideOf_ok N p1 _ hc28 w21 ) ?_
    rintro _ w30 ⟨rfl, hT32⟩
    have hS31 : St _ _ w30 [] := hS22.take _ hT32
    rcases if_in hO11 with ⟨h33, hO11⟩ | ⟨h33, hO11⟩
    ·refine gx_v (.bool true) w30 (run_boolE (decide_eq_true h33) (by kernel_rfl)) ?_
     refine gx_k (.bool true) w30 (gx_k (.bool true) w30 ?_)
     refine gx_nil ?_
     refine gx_thenN ?_
     refine hK17 _ _ ?_
     refine gx_yes (by kernel_rfl) ?_
     refine gx_seq (fun K34 hK35 => ?_)
     refine gx_region ?_
     refine gx_k (.int .u8 0) w30 ?_
     refine gx_nil ?_
     refine gx_thenN ?_
     refine hK35 _ _ ?_
     refine gx_ret ?_
     refine gx_blkR ?_
     refine gx_thenR ?_
     obtain rfl := Option.some.inj hO11
     exact gx_fin (.int .u8 0) (by kernel_rfl) (by kernel_rfl) ⟨_, rfl, rfl, hS31⟩
    ·refine gx_v (.bool false) w30 (run_boolE (decide_eq_false h33) (by kernel_rfl)) ?_
     refine gx_k (.bool false) w30 (gx_k (.bool false) w30 ?_)
     refine gx_nil ?_
     refine gx_thenN ?_
     refine hK17 _ _ ?_
     refine gx_no (by kernel_rfl) ?_
     refine gx_pass ?_
     refine gx_blkN ?_
     refine gx_thenN ?_
     refine hK4 _ _ ?_
     refine gx_seq (fun K36 hK37 => ?_)
     refine gx_region ?_
     refine gx_k (.int .u8 1) w30 ?_
     refine gx_nil ?_
     refine gx_thenN ?_
     refine hK37 _ _ ?_
     refine gx_ret ?_
     obtain rfl := Option.some.inj hO11
     exact gx_fin (.int .u8 1) (by kernel_rfl) (by kernel_rfl) ⟨_, rfl, rfl, hS31⟩

def pIso (_N : Nat) (p0 : Int) : Option (Bool) :=
 (if p0 ≥ 20 then some (decide (p0 ≤ 23)) else some false)

set_option linter.unusedVariables false in
def pIso_R (r : Bool) (w0 : World) (v : Value) (w : World) : Prop := v = .bool r ∧ St [] w0 w []

set_option maxRecDepth 100000 in
set_option maxHeartbeats 4000000 in
theorem pIso_ok (N : Nat) (p0 : Int)  (r : Bool) (hF : pIso N p0 = some r) (w0 : World)  :
  Calls Try.prog 43 #[.int .u8 p0] w0 fun e w => ∃ v, e = .returned v ∧ pIso_R r w0 v w := by
 have hS0 := St.start w0
 unfold pIso at hF
 refine calls_of Try.func43 rfl ⟨((.int .u8 p0) :: un 8 ([])).toArray, []⟩ (by kernel_rfl) ?_
 refine gx_seq (fun K1 hK2 => ?_)
 refine gx_region ?_
 refine gx_k (.bool false) w0 ?_
 refine gx_nil ?_
 refine gx_thenN ?_
 refine hK2 _ _ ?_
 refine gx_seq (fun K3 hK4 => ?_)
 refine gx_region ?_
 refine gx_k (.int .u8 p0) w0 ?_
 rcases if_in hF with ⟨h5, hF⟩ | ⟨h5, hF⟩
 ·refine gx_v (.bool true) w0 (run_boolE (decide_eq_true h5) (by kernel_rfl)) ?_
  refine gx_k (.bool true) w0 (gx_k (.int .u8 p0) w0 (gx_k (.bool (decide (p0 ≤ 23))) w0 (gx_k (.bool (decide (p0 ≤ 23))) w0 (gx_k (.bool (decide (p0 ≤ 23))) w0 ?_))))
  refine gx_nil ?_
  refine gx_thenN ?_
  refine hK4 _ _ ?_
  refine gx_ret ?_
  obtain rfl := Option.some.inj hF
  exact gx_fin (.bool (decide (p0 ≤ 23))) (by kernel_rfl) (by kernel_rfl) ⟨_, rfl, rfl, hS0⟩
 ·refine gx_v (.bool false) w0 (run_boolE (decide_eq_false h5) (by kernel_rfl)) ?_
  refine gx_k (.bool false) w0 (gx_o (gx_o (gx_k (.bool false) w0 (gx_k (.bool false) w0 ?_))))
  refine gx_nil ?_
  refine gx_thenN ?_
  refine hK4 _ _ ?_
  refine gx_ret ?_
  obtain rfl := Option.some.inj hF
  exact gx_fin (.bool false) (by kernel_rfl) (by kernel_rfl) ⟨_, rfl, rfl, hS0⟩

def pNeu (N : Nat) (p0 : Int) : Option (Bool) :=
 (if p0 = 11 then some true else (if p0 = 12 then some true else (if p0 = 13 then some true else (if p0 = 14 then some true else ((pIso N p0).bind fun b31 => some b31)))))

set_option linter.unusedVariables false in
def pNeu_R (r : Bool) (w0 : World) (v : Value) (w : World) : Prop := v = .bool r ∧ St [] w0 w []

set_option maxRecDepth 100000 in
set_option maxHeartbeats 4000000 in
theorem pNeu_ok (N : Nat) (p0 : Int)  (r : Bool) (hF : pNeu N p0 = some r) (w0 : World)  :
  Calls Try.prog 51 #[.int .u8 p0] w0 fun e w => ∃ v, e = .returned v ∧ pNeu_R r w0 v w := by
 have hS0 := St.start w0
 unfold pNeu at hF
 refine calls_of Try.func51 rfl ⟨((.int .u8 p0) :: un 10 ([])).toArray, []⟩ (by kernel_rfl) ?_
 refine gx_seq (fun K1 hK2 => ?_)
 refine gx_region ?_
 refine gx_k (.bool false) w0 ?_
 refine gx_nil ?_
 refine gx_thenN ?_
 refine hK2 _ _ ?_
 refine gx_seq (fun K3 hK4 => ?_)
 refine gx_seq (fun K5 hK6 => ?_)
 refine gx_region ?_
 refine gx_k (.int .u8 p0) w0 ?_
 refine gx_nil ?_
 refine gx_thenN ?_
 refine hK6 _ _ ?_
 refine gx_block ?_
 refine gx_seq (fun K7 hK8 => ?_)
 refine gx_seq (fun K9 hK10 => ?_)
 refine gx_region ?_
 rcases if_in hF with ⟨h11, hF⟩ | ⟨h11, hF⟩
 ·refine gx_v (.bool true) w0 (run_boolE (decide_eq_true h11) (by kernel_rfl)) ?_
  refine gx_k (.bool true) w0 ?_
  refine gx_nil ?_
  refine gx_thenN ?_
  refine hK10 _ _ ?_
  refine gx_yes (by kernel_rfl) ?_
  refine gx_pass ?_
  refine gx_thenN ?_
  refine hK8 _ _ ?_
  refine gx_yes (by kernel_rfl) ?_
  refine gx_seq (fun K12 hK13 => ?_)
  refine gx_region ?_
  refine gx_k (.bool true) w0 ?_
  refine gx_nil ?_
  refine gx_thenN ?_
  refine hK13 _ _ ?_
  refine gx_ret ?_
  refine gx_blkR ?_
  refine gx_thenR ?_
  obtain rfl := Option.some.inj hF
  exact gx_fin (.bool true) (by kernel_rfl) (by kernel_rfl) ⟨_, rfl, rfl, hS0⟩
 ·refine gx_v (.bool false) w0 (run_boolE (decide_eq_false h11) (by kernel_rfl)) ?_
  refine gx_k (.bool false) w0 ?_
  refine gx_nil ?_
  refine gx_thenN ?_
  refine hK10 _ _ ?_
  refine gx_no (by kernel_rfl) ?_
  refine gx_seq (fun K14 hK15 => ?_)
  refine gx_region ?_
  rcases if_in hF with ⟨h16, hF⟩ | ⟨h16, hF⟩
  ·refine gx_v (.bool true) w0 (run_boolE (decide_eq_true h16) (by kernel_rfl)) ?_
   refine gx_k (.bool true) w0 ?_
   refine gx_nil ?_
   refine gx_thenN ?_
   refine hK15 _ _ ?_
   refine gx_yes (by kernel_rfl) ?_
   refine gx_pass ?_
   refine gx_thenN ?_
   refine hK8 _ _ ?_
   refine gx_yes (by kernel_rfl) ?_
   refine gx_seq (fun K17 hK18 => ?_)
   refine gx_region ?_
   refine gx_k (.bool true) w0 ?_
   refine gx_nil ?_
   refine gx_thenN ?_
   refine hK18 _ _ ?_
   refine gx_ret ?_
   refine gx_blkR ?_
   refine gx_thenR ?_
   obtain rfl := Option.some.inj hF
   exact gx_fin (.bool true) (by kernel_rfl) (by kernel_rfl) ⟨_, rfl, rfl, hS0⟩
  ·refine gx_v (.bool false) w0 (run_boolE (decide_eq_false h16) (by kernel_rfl)) ?_
   refine gx_k (.bool false) w0 ?_
   refine gx_nil ?_
   refine gx_thenN ?_
   refine hK15 _ _ ?_
   refine gx_no (by kernel_rfl) ?_
   refine gx_seq (fun K19 hK20 => ?_)
   refine gx_region ?_
   rcases if_in hF with ⟨h21, hF⟩ | ⟨h21, hF⟩
   ·refine gx_v (.bool true) w0 (run_boolE (decide_eq_true h21) (by kernel_rfl)) ?_
    refine gx_k (.bool true) w0 ?_
    refine gx_nil ?_
    refine gx_thenN ?_
    refine hK20 _ _ ?_
    refine gx_yes (by kernel_rfl) ?_
    refine gx_pass ?_
    refine gx_thenN ?_
    refine hK8 _ _ ?_
    refine gx_yes (by kernel_rfl) ?_
    refine gx_seq (fun K22 hK23 => ?_)
    refine gx_region ?_
    refine gx_k (.bool true) w0 ?_
    refine gx_nil ?_
    refine gx_thenN ?_
    refine hK23 _ _ ?_
    refine gx_ret ?_
    refine gx_blkR ?_
    refine gx_thenR ?_
    obtain rfl := Option.some.inj hF
    exact gx_fin (.bool true) (by kernel_rfl) (by kernel_rfl) ⟨_, rfl, rfl, hS0⟩
   ·refine gx_v (.bool false) w0 (run_boolE (decide_eq_false h21) (by kernel_rfl)) ?_
    refine gx_k (.bool false) w0 ?_
    refine gx_nil ?_
    refine gx_thenN ?_
    refine hK20 _ _ ?_
    refine gx_no (by kernel_rfl) ?_
    refine gx_region ?_
    rcases if_in hF with ⟨h24, hF⟩ | ⟨h24, hF⟩
    ·refine gx_v (.bool true) w0 (run_boolE (decide_eq_true h24) (by kernel_rfl)) ?_
     refine gx_k (.bool true) w0 ?_
     refine gx_nil ?_
     refine gx_thenN ?_
     refine hK8 _ _ ?_
     refine gx_yes (by kernel_rfl) ?_
     refine gx_seq (fun K25 hK26 => ?_)
     refine gx_region ?_
     refine gx_k (.bool true) w0 ?_
     refine gx_nil ?_
     refine gx_thenN ?_
     refine hK26 _ _ ?_
     refine gx_ret ?_
     refine gx_blkR ?_
     refine gx_thenR ?_
     obtain rfl := Option.some.inj hF
     exact gx_fin (.bool true) (by kernel_rfl) (by kernel_rfl) ⟨_, rfl, rfl, hS0⟩
    ·refine gx_v (.bool false) w0 (run_boolE (decide_eq_false h24) (by kernel_rfl)) ?_
     refine gx_k (.bool false) w0 ?_
     refine gx_nil ?_
     refine gx_thenN ?_
     refine hK8 _ _ ?_
     refine gx_no (by kernel_rfl) ?_
     refine gx_pass ?_
     refine gx_blkN ?_
     refine gx_thenN ?_
     refine hK4 _ _ ?_
     refine gx_seq (fun K27 hK28 => ?_)
     refine gx_region ?_
     refine gx_k (.int .u8 p0) w0 ?_
     have hP29 : St _ _ w0 ([] ++ []) := hS0
     obtain ⟨b31, hc30, hF⟩ := bind_in hF
     try dsimp only at hF
     refine gx_c (pIso_R b31 w0) (pIso_ok N p0 _ hc30 w0 ) ?_
     rintro _ w32 ⟨rfl, hT34⟩
     have hS33 : St _ _ w32 [] := hS0.take _ hT34
     refine gx_k (.bool b31) w32 ?_
     refine gx_nil ?_
     refine gx_thenN ?_
     refine hK28 _ _ ?_
     refine gx_ret ?_
     obtain rfl := Option.some.inj hF
     exact gx_fin (.bool b31) (by kernel_rfl) (by kernel_rfl) ⟨_, rfl, rfl, hS33⟩

def pTerm (_N : Nat) (p0 : Int) : Option (Bool) :=
 some (decide (p0 = 6))

set_option linter.unusedVariables false in
def pTerm_R (r : Bool) (w0 : World) (v : Value) (w : World) : Prop := v = .bool r ∧ St [] w0 w []

set_option maxRecDepth 100000 in
set_option maxHeartbeats 4000000 in
theorem pTerm_ok (N : Nat) (p0 : Int)  (r : Bool) (hF : pTerm N p0 = some r) (w0 : World)  :
  Calls Try.prog 47 #[.int .u8 p0] w0 fun e w => ∃ v, e = .returned v ∧ pTerm_R r w0 v w := by
 have hS0 := St.start w0
 unfold pTerm at hF
 refine calls_of Try.func47 rfl ⟨((.int .u8 p0) :: un 4 ([])).toArray, []⟩ (by kernel_rfl) ?_
 refine gx_seq (fun K1 hK2 => ?_)
 refine gx_region ?_
 refine gx_k (.bool false) w0 ?_
 refine gx_nil ?_
 refine gx_thenN ?_
 refine hK2 _ _ ?_
 refine gx_seq (fun K3 hK4 => ?_)
 refine gx_region ?_
 refine gx_k (.int .u8 p0) w0 (gx_k (.bool (decide (p0 = 6))) w0 (gx_k (.bool (decide (p0 = 6))) w0 ?_))
 refine gx_nil ?_
 refine gx_thenN ?_
 refine hK4 _ _ ?_
 refine gx_ret ?_
 obtain rfl := Option.some.inj hF
 exact gx_fin (.bool (decide (p0 = 6))) (by kernel_rfl) (by kernel_rfl) ⟨_, rfl, rfl, hS0⟩

def pSep (_N : Nat) (p0 : Int) (p1 : Int) (p2 : Int) : Option (Int) :=
 (if p0 ≠ p2 then some p1 else (if p0 = 4 then some p0 else (if p0 = 7 then (if p1 = 8 then some p0 else some p1) else some p1)))

set_option linter.unusedVariables false in
def pSep_R (r : Int) (w0 : World) (v : Value) (w : World) : Prop := v = .int .u8 r ∧ St [] w0 w []

set_option maxRecDepth 100000 in
set_option maxHeartbeats 4000000 in
theorem pSep_ok (N : Nat) (p0 : Int) (p1 : Int) (p2 : Int)  (r : Int) (hF : pSep N p0 p1 p2 = some r) (w0 : World)  :
  Calls Try.prog 44 #[.int .u8 p0, .int .u8 p1, .int .u8 p2] w0 fun e w => ∃ v, e = .returned v ∧ pSep_R r w0 v w := by
 have hS0 := St.start w0
 unfold pSep at hF
 refine calls_of Try.func44 rfl ⟨((.int .u8 p0) :: (.int .u8 p1) :: (.int .u8 p2) :: un 20 ([])).toArray, []⟩ (by kernel_rfl) ?_
 refine gx_seq (fun K1 hK2 => ?_)
 refine gx_region ?_
 refine gx_k (.int .u8 0) w0 ?_
 refine gx_nil ?_
 refine gx_thenN ?_
 refine hK2 _ _ ?_
 refine gx_seq (fun K3 hK4 => ?_)
 refine gx_block ?_
 refine gx_seq (fun K5 hK6 => ?_)
 refine gx_region ?_
 refine gx_k (.int .u8 p0) w0 (gx_k (.int .u8 p2) w0 ?_)
 rcases if_in hF with ⟨h7, hF⟩ | ⟨h7, hF⟩
 ·refine gx_v (.bool true) w0 (run_boolE (ne_yes h7) (by kernel_rfl)) ?_
  refine gx_k (.bool true) w0 ?_
  refine gx_nil ?_
  refine gx_thenN ?_
  refine hK6 _ _ ?_
  refine gx_yes (by kernel_rfl) ?_
  refine gx_seq (fun K8 hK9 => ?_)
  refine gx_region ?_
  refine gx_k (.int .u8 p1) w0 (gx_k (.int .u8 p1) w0 ?_)
  refine gx_nil ?_
  refine gx_thenN ?_
  refine hK9 _ _ ?_
  refine gx_ret ?_
  refine gx_blkR ?_
  refine gx_thenR ?_
  obtain rfl := Option.some.inj hF
  exact gx_fin (.int .u8 p1) (by kernel_rfl) (by kernel_rfl) ⟨_, rfl, rfl, hS0⟩
 ·refine gx_v (.bool false) w0 (run_boolE (ne_no h7) (by kernel_rfl)) ?_
  refine gx_k (.bool false) w0 ?_
  refine gx_nil ?_
  refine gx_thenN ?_
  refine hK6 _ _ ?_
  refine gx_no (by kernel_rfl) ?_
  refine gx_seq (fun K10 hK11 => ?_)
  refine gx_seq (fun K12 hK13 => ?_)
  refine gx_region ?_
  refine gx_k (.int .u8 p0) w0 ?_
  rcases if_in hF with ⟨h14, hF⟩ | ⟨h14, hF⟩
  ·refine gx_v (.bool true) w0 (run_boolE (decide_eq_true h14) (by kernel_rfl)) ?_
   refine gx_k (.bool true) w0 ?_
   refine gx_nil ?_
   refine gx_thenN ?_
   refine hK13 _ _ ?_
   refine gx_yes (by kernel_rfl) ?_
   refine gx_pass ?_
   refine gx_thenN ?_
   refine hK11 _ _ ?_
   refine gx_yes (by kernel_rfl) ?_
   refine gx_seq (fun K15 hK16 => ?_)
   refine gx_region ?_
   refine gx_k (.int .u8 p0) w0 (gx_k (.int .u8 p0) w0 ?_)
   refine gx_nil ?_
   refine gx_thenN ?_
   refine hK16 _ _ ?_
   refine gx_ret ?_
   refine gx_blkR ?_
   refine gx_thenR ?_
   obtain rfl := Option.some.inj hF
   exact gx_fin (.int .u8 p0) (by kernel_rfl) (by kernel_rfl) ⟨_, rfl, rfl, hS0⟩
  ·refine gx_v (.bool false) w0 (run_boolE (decide_eq_false h14) (by kernel_rfl)) ?_
   refine gx_k (.bool false) w0 ?_
   refine gx_nil ?_
   refine gx_thenN ?_
   refine hK13 _ _ ?_
   refine gx_no (by kernel_rfl) ?_
   refine gx_region ?_
   refine gx_k (.int .u8 p0) w0 ?_
   rcases if_in hF with ⟨h17, hF⟩ | ⟨h17, hF⟩
   ·refine gx_v (.bool true) w0 (run_boolE (decide_eq_true h17) (by kernel_rfl)) ?_
    refine gx_k (.bool true) w0 (gx_k (.int .u8 p1) w0 ?_)
    rcases if_in hF with ⟨h18, hF⟩ | ⟨h18, hF⟩
    ·refine gx_v (.bool true) w0 (run_boolE (decide_eq_true h18) (by kernel_rfl)) ?_
     refine gx_k (.bool true) w0 (gx_k (.bool true) w0 ?_)
     refine gx_nil ?_
     refine gx_thenN ?_
     refine hK11 _ _ ?_
     refine gx_yes (by kernel_rfl) ?_
     refine gx_seq (fun K19 hK20 => ?_)
     refine gx_region ?_
     refine gx_k (.int .u8 p0) w0 (gx_k (.int .u8 p0) w0 ?_)
     refine gx_nil ?_
     refine gx_thenN ?_
     refine hK20 _ _ ?_
     refine gx_ret ?_
     refine gx_blkR ?_
     refine gx_thenR ?_
     obtain rfl := Option.some.inj hF
     exact gx_fin (.int .u8 p0) (by kernel_rfl) (by kernel_rfl) ⟨_, rfl, rfl, hS0⟩
    ·refine gx_v (.bool false) w0 (run_boolE (decide_eq_false h18) (by kernel_rfl)) ?_
     refine gx_k (.bool false) w0 (gx_k (.bool false) w0 ?_)
     refine gx_nil ?_
     refine gx_thenN ?_
     refine hK11 _ _ ?_
     refine gx_no (by kernel_rfl) ?_
     refine gx_pass ?_
     refine gx_blkN ?_
     refine gx_thenN ?_
     refine hK4 _ _ ?_
     refine gx_seq (fun K21 hK22 => ?_)
     refine gx_region ?_
     refine gx_k (.int .u8 p1) w0 (gx_k (.int .u8 p1) w0 ?_)
     refine gx_nil ?_
     refine gx_thenN ?_
     refine hK22 _ _ ?_
     refine gx_ret ?_
     obtain rfl := Option.some.inj hF
     exact gx_fin (.int .u8 p1) (by kernel_rfl) (by kernel_rfl) ⟨_, rfl, rfl, hS0⟩
   ·refine gx_v (.bool false) w0 (run_boolE (decide_eq_false h17) (by kernel_rfl)) ?_
    refine gx_k (.bool false) w0 (gx_o (gx_o (gx_k (.bool false) w0 (gx_k (.bool false) w0 ?_))))
    refine gx_nil ?_
    refine gx_thenN ?_
    refine hK11 _ _ ?_
    refine gx_no (by kernel_rfl) ?_
    refine gx_pass ?_
    refine gx_blkN ?_
    refine gx_thenN ?_
    refine hK4 _ _ ?_
    refine gx_seq (fun K23 hK24 => ?_)
    refine gx_region ?_
    refine gx_k (.int .u8 p1) w0 (gx_k (.int .u8 p1) w0 ?_)
    refine gx_nil ?_
    refine gx_thenN ?_
    refine hK24 _ _ ?_
    refine gx_ret ?_
    obtain rfl := Option.some.inj hF
    exact gx_fin (.int .u8 p1) (by kernel_rfl) (by kernel_rfl) ⟨_, rfl, rfl, hS0⟩

def pSett (_N : Nat) (p0 : Int) (p1 : Int) : Option (Int) :=
 (if p0 = 5 then some 14 else (if p0 = 6 then some 14 else (if p0 = 8 then some 14 else (if p0 = 4 then (if p1 = 1 then some 1 else some p0) else some p0))))

set_option linter.unusedVariables false in
def pSett_R (r : Int) (w0 : World) (v : Value) (w : World) : Prop := v = .int .u8 r ∧ St [] w0 w []

set_option maxRecDepth 100000 in
set_option maxHeartbeats 4000000 in
theorem pSett_ok (N : Nat) (p0 : Int) (p1 : Int)  (r : Int) (hF : pSett N p0 p1 = some r) (w0 : World)  :
  Calls Try.prog 49 #[.int .u8 p0, .int .u8 p1] w0 fun e w => ∃ v, e = .returned v ∧ pSett_R r w0 v w := by
 have hS0 := St.start w0
 unfold pSett at hF
 refine calls_of Try.func49 rfl ⟨((.int .u8 p0) :: (.int .u8 p1) :: un 13 ([])).toArray, []⟩ (by kernel_rfl) ?_
 refine gx_seq (fun K1 hK2 => ?_)
 refine gx_region ?_
 refine gx_k (.int .u8 0) w0 ?_
 refine gx_nil ?_
 refine gx_thenN ?_
 refine hK2 _ _ ?_
 refine gx_seq (fun K3 hK4 => ?_)
 refine gx_seq (fun K5 hK6 => ?_)
 refine gx_region ?_
 refine gx_k (.int .u8 p0) w0 ?_
 refine gx_nil ?_
 refine gx_thenN ?_
 refine hK6 _ _ ?_
 refine gx_block ?_
 refine gx_seq (fun K7 hK8 => ?_)
 refine gx_seq (fun K9 hK10 => ?_)
 refine gx_region ?_
 rcases if_in hF with ⟨h11, hF⟩ | ⟨h11, hF⟩
 ·refine gx_v (.bool true) w0 (run_boolE (decide_eq_true h11) (by kernel_rfl)) ?_
  refine gx_k (.bool true) w0 ?_
  refine gx_nil ?_
  refine gx_thenN ?_
  refine hK10 _ _ ?_
  refine gx_yes (by kernel_rfl) ?_
  refine gx_pass ?_
  refine gx_thenN ?_
  refine hK8 _ _ ?_
  refine gx_yes (by kernel_rfl) ?_
  refine gx_seq (fun K12 hK13 => ?_)
  refine gx_region ?_
  refine gx_k (.int .u8 14) w0 ?_
  refine gx_nil ?_
  refine gx_thenN ?_
  refine hK13 _ _ ?_
  refine gx_ret ?_
  refine gx_blkR ?_
  refine gx_thenR ?_
  obtain rfl := Option.some.inj hF
  exact gx_fin (.int .u8 14) (by kernel_rfl) (by kernel_rfl) ⟨_, rfl, rfl, hS0⟩
 ·refine gx_v (.bool false) w0 (run_boolE (decide_eq_false h11) (by kernel_rfl)) ?_
  refine gx_k (.bool false) w0 ?_
  refine gx_nil ?_
  refine gx_thenN ?_
  refine hK10 _ _ ?_
  refine gx_no (by kernel_rfl) ?_
  refine gx_seq (fun K14 hK15 => ?_)
  refine gx_region ?_
  rcases if_in hF with ⟨h16, hF⟩ | ⟨h16, hF⟩
  ·refine gx_v (.bool true) w0 (run_boolE (decide_eq_true h16) (by kernel_rfl)) ?_
   refine gx_k (.bool true) w0 ?_
   refine gx_nil ?_
   refine gx_thenN ?_
   refine hK15 _ _ ?_
   refine gx_yes (by kernel_rfl) ?_
   refine gx_pass ?_
   refine gx_thenN ?_
   refine hK8 _ _ ?_
   refine gx_yes (by kernel_rfl) ?_
   refine gx_seq (fun K17 hK18 => ?_)
   refine gx_region ?_
   refine gx_k (.int .u8 14) w0 ?_
   refine gx_nil ?_
   refine gx_thenN ?_
   refine hK18 _ _ ?_
   refine gx_ret ?_
   refine gx_blkR ?_
   refine gx_thenR ?_
   obtain rfl := Option.some.inj hF
   exact gx_fin (.int .u8 14) (by kernel_rfl) (by kernel_rfl) ⟨_, rfl, rfl, hS0⟩
  ·refine gx_v (.bool false) w0 (run_boolE (decide_eq_false h16) (by kernel_rfl)) ?_
   refine gx_k (.bool false) w0 ?_
   refine gx_nil ?_
   refine gx_thenN ?_
   refine hK15 _ _ ?_
   refine gx_no (by kernel_rfl) ?_
   refine gx_region ?_
   rcases if_in hF with ⟨h19, hF⟩ | ⟨h19, hF⟩
   ·refine gx_v (.bool true) w0 (run_boolE (decide_eq_true h19) (by kernel_rfl)) ?_
    refine gx_k (.bool true) w0 ?_
    refine gx_nil ?_
    refine gx_thenN ?_
    refine hK8 _ _ ?_
    refine gx_yes (by kernel_rfl) ?_
    refine gx_seq (fun K20 hK21 => ?_)
    refine gx_region ?_
    refine gx_k (.int .u8 14) w0 ?_
    refine gx_nil ?_
    refine gx_thenN ?_
    refine hK21 _ _ ?_
    refine gx_ret ?_
    refine gx_blkR ?_
    refine gx_thenR ?_
    obtain rfl := Option.some.inj hF
    exact gx_fin (.int .u8 14) (by kernel_rfl) (by kernel_rfl) ⟨_, rfl, rfl, hS0⟩
   ·refine gx_v (.bool false) w0 (run_boolE (decide_eq_false h19) (by kernel_rfl)) ?_
    refine gx_k (.bool false) w0 ?_
    refine gx_nil ?_
    refine gx_thenN ?_
    refine hK8 _ _ ?_
    refine gx_no (by kernel_rfl) ?_
    refine gx_seq (fun K22 hK23 => ?_)
    refine gx_region ?_
    rcases if_in hF with ⟨h24, hF⟩ | ⟨h24, hF⟩
    ·refine gx_v (.bool true) w0 (run_boolE (decide_eq_true h24) (by kernel_rfl)) ?_
     refine gx_k (.bool true) w0 ?_
     refine gx_nil ?_
     refine gx_thenN ?_
     refine hK23 _ _ ?_
     refine gx_yes (by kernel_rfl) ?_
     refine gx_seq (fun K25 hK26 => ?_)
     refine gx_region ?_
     refine gx_k (.int .u8 p1) w0 ?_
     rcases if_in hF with ⟨h27, hF⟩ | ⟨h27, hF⟩
     ·refine gx_v (.bool true) w0 (run_boolE (decide_eq_true h27) (by kernel_rfl)) ?_
      refine gx_nil ?_
      refine gx_thenN ?_
      refine hK26 _ _ ?_
      refine gx_yes (by kernel_rfl) ?_
      refine gx_seq (fun K28 hK29 => ?_)
      refine gx_region ?_
      refine gx_k (.int .u8 1) w0 ?_
      refine gx_nil ?_
      refine gx_thenN ?_
      refine hK29 _ _ ?_
      refine gx_ret ?_
      refine gx_blkR ?_
      refine gx_thenR ?_
      obtain rfl := Option.some.inj hF
      exact gx_fin (.int .u8 1) (by kernel_rfl) (by kernel_rfl) ⟨_, rfl, rfl, hS0⟩
     ·refine gx_v (.bool false) w0 (run_boolE (decide_eq_false h27) (by kernel_rfl)) ?_
      refine gx_nil ?_
      refine gx_thenN ?_
      refine hK26 _ _ ?_
      refine gx_no (by kernel_rfl) ?_
      refine gx_pass ?_
      refine gx_blkN ?_
      refine gx_thenN ?_
      refine hK4 _ _ ?_
      refine gx_seq (fun K30 hK31 => ?_)
      refine gx_region ?_
      refine gx_k (.int .u8 p0) w0 (gx_k (.int .u8 p0) w0 ?_)
      refine gx_nil ?_
      refine gx_thenN ?_
      refine hK31 _ _ ?_
      refine gx_ret ?_
      obtain rfl := Option.some.inj hF
      exact gx_fin (.int .u8 p0) (by kernel_rfl) (by kernel_rfl) ⟨_, rfl, rfl, hS0⟩
    ·refine gx_v (.bool false) w0 (run_boolE (decide_eq_false h24) (by kernel_rfl)) ?_
     refine gx_k (.bool false) w0 ?_
     refine gx_nil ?_
     refine gx_thenN ?_
     refine hK23 _ _ ?_
     refine gx_no (by kernel_rfl) ?_
     refine gx_pass ?_
     refine gx_blkN ?_
     refine gx_thenN ?_
     refine hK4 _ _ ?_
     refine gx_seq (fun K32 hK33 => ?_)
     refine gx_region ?_
     refine gx_k (.int .u8 p0) w0 (gx_k (.int .u8 p0) w0 ?_)
     refine gx_nil ?_
     refine gx_thenN ?_
     refine hK33 _ _ ?_
     refine gx_ret ?_
     obtain rfl := Option.some.inj hF
     exact gx_fin (.int .u8 p0) (by kernel_rfl) (by kernel_rfl) ⟨_, rfl, rfl, hS0⟩

def pClassAt (_N : Nat) (p0 : List Int) (p1 : Int) : Option (Int) :=
 (if p1 < ((p0.length : Nat) : Int) then ((ix p0 p1).bind fun x10 => some x10) else some 0)

set_option linter.unusedVariables false in
def pClassAt_R (r : Int) (w0 : World) (v : Value) (w : World) : Prop := v = .int .u8 r ∧ St [] w0 w []

set_option maxRecDepth 100000 in
set_option maxHeartbeats 4000000 in
theorem pClassAt_ok (N : Nat) (p0 : List Int) (p1 : Int) (A0 : Option Addr) (c0 : Nat) (r : Int) (hF : pClassAt N p0 p1 = some r) (w0 : World) (hv0 : Vw [] .u8 w0 A0 c0 p0) :
  Calls Try.prog 45 #[.slice A0 p0.length c0, .int .i64 p1] w0 fun e w => ∃ v, e = .returned v ∧ pClassAt_R r w0 v w := by
 have hS0 := St.start w0
 unfold pClassAt at hF
 refine calls_of Try.func45 rfl ⟨((.slice A0 p0.length c0) :: (.int .i64 p1) :: un 11 ([])).toArray, []⟩ (by kernel_rfl) ?_
 refine gx_seq (fun K1 hK2 => ?_)
 refine gx_region ?_
 refine gx_k (.int .u8 0) w0 ?_
 refine gx_nil ?_
 refine gx_thenN ?_
 refine hK2 _ _ ?_
 refine gx_seq (fun K3 hK4 => ?_)
 refine gx_seq (fun K5 hK6 => ?_)
 refine gx_region ?_
 refine gx_k (.int .i64 p1) w0 (gx_k (.slice A0 p0.length c0) w0 (gx_k (.int .i64 ((p0.length : Nat) : Int)) w0 ?_))
 rcases if_in hF with ⟨h7, hF⟩ | ⟨h7, hF⟩
 ·refine gx_v (.bool true) w0 (run_boolE (decide_eq_true h7) (by kernel_rfl)) ?_
  refine gx_nil ?_
  refine gx_thenN ?_
  refine hK6 _ _ ?_
  refine gx_yes (by kernel_rfl) ?_
  refine gx_seq (fun K8 hK9 => ?_)
  refine gx_region ?_
  refine gx_k (.slice A0 p0.length c0) w0 (gx_k (.int .i64 p1) w0 ?_)
  obtain ⟨x10, hx11, hF⟩ := bind_in hF
  refine gx_v (.pointer (Option.map (fun (p : Addr) => p.add (Int.toNat p1 * 1)) A0)) w0 (run_ixaddr (E := 23) (s := 1) (k := .i64) (c := c0) rfl (by kernel_rfl) (by kernel_rfl) (by kernel_rfl) (fun _ => by kernel_rfl) (ix_in hx11).1 (ix_in hx11).2.1 (num_nil (hS0.view hv0))) ?_
  refine gx_v (.int .u8 x10) w0 (run_loadix rfl (by kernel_rfl) (fun _ => by kernel_rfl) (hS0.view hv0) hx11) ?_
  refine gx_k (.int .u8 x10) w0 ?_
  refine gx_nil ?_
  refine gx_thenN ?_
  refine hK9 _ _ ?_
  refine gx_ret ?_
  refine gx_thenR ?_
  obtain rfl := Option.some.inj hF
  exact gx_fin (.int .u8 x10) (by kernel_rfl) (by kernel_rfl) ⟨_, rfl, rfl, hS0⟩
 ·refine gx_v (.bool false) w0 (run_boolE (decide_eq_false h7) (by kernel_rfl)) ?_
  refine gx_nil ?_
  refine gx_thenN ?_
  refine hK6 _ _ ?_
  refine gx_no (by kernel_rfl) ?_
  refine gx_pass ?_
  refine gx_thenN ?_
  refine hK4 _ _ ?_
  refine gx_seq (fun K12 hK13 => ?_)
  refine gx_region ?_
  refine gx_k (.int .u8 0) w0 ?_
  refine gx_nil ?_
  refine gx_thenN ?_
  refine hK13 _ _ ?_
  refine gx_ret ?_
  obtain rfl := Option.some.inj hF
  exact gx_fin (.int .u8 0) (by kernel_rfl) (by kernel_rfl) ⟨_, rfl, rfl, hS0⟩

def pBetw (_N : Nat) (p0 : Int) (p1 : Int) (p2 : Int) : Option (Int) :=
 (if p0 = p1 then (if p0 ≠ 0 then some p0 else some p2) else some p2)

set_option linter.unusedVariables false in
def pBetw_R (r : Int) (w0 : World) (v : Value) (w : World) : Prop := v = .int .u8 r ∧ St [] w0 w []

set_option maxRecDepth 100000 in
set_option maxHeartbeats 4000000 in
theorem pBetw_ok (N : Nat) (p0 : Int) (p1 : Int) (p2 : Int)  (r : Int) (hF : pBetw N p0 p1 p2 = some r) (w0 : World)  :
  Calls Try.prog 53 #[.int .u8 p0, .int .u8 p1, .int .u8 p2] w0 fun e w => ∃ v, e = .returned v ∧ pBetw_R r w0 v w := by
 have hS0 := St.start w0
 unfold pBetw at hF
 refine calls_of Try.func53 rfl ⟨((.int .u8 p0) :: (.int .u8 p1) :: (.int .u8 p2) :: un 13 ([])).toArray, []⟩ (by kernel_rfl) ?_
 refine gx_seq (fun K1 hK2 => ?_)
 refine gx_region ?_
 refine gx_k (.int .u8 0) w0 ?_
 refine gx_nil ?_
 refine gx_thenN ?_
 refine hK2 _ _ ?_
 refine gx_seq (fun K3 hK4 => ?_)
 refine gx_seq (fun K5 hK6 => ?_)
 refine gx_region ?_
 refine gx_k (.int .u8 p0) w0 (gx_k (.int .u8 p1) w0 ?_)
 rcases if_in hF with ⟨h7, hF⟩ | ⟨h7, hF⟩
 ·refine gx_v (.bool true) w0 (run_boolE (decide_eq_true h7) (by kernel_rfl)) ?_
  refine gx_k (.bool true) w0 (gx_k (.int .u8 p0) w0 ?_)
  rcases if_in hF with ⟨h8, hF⟩ | ⟨h8, hF⟩
  ·refine gx_v (.bool true) w0 (run_boolE (ne_yes h8) (by kernel_rfl)) ?_
   refine gx_k (.bool true) w0 ?_
   refine gx_nil ?_
   refine gx_thenN ?_
   refine hK6 _ _ ?_
   refine gx_yes (by kernel_rfl) ?_
   refine gx_seq (fun K9 hK10 => ?_)
   refine gx_region ?_
   refine gx_k (.int .u8 p0) w0 (gx_k (.int .u8 p0) w0 ?_)
   refine gx_nil ?_
   refine gx_thenN ?_
   refine hK10 _ _ ?_
   refine gx_ret ?_
   refine gx_thenR ?_
   obtain rfl := Option.some.inj hF
   exact gx_fin (.int .u8 p0) (by kernel_rfl) (by kernel_rfl) ⟨_, rfl, rfl, hS0⟩
  ·refine gx_v (.bool false) w0 (run_boolE (ne_no h8) (by kernel_rfl)) ?_
   refine gx_k (.bool false) w0 ?_
   refine gx_nil ?_
   refine gx_thenN ?_
   refine hK6 _ _ ?_
   refine gx_no (by kernel_rfl) ?_
   refine gx_pass ?_
   refine gx_thenN ?_
   refine hK4 _ _ ?_
   refine gx_seq (fun K11 hK12 => ?_)
   refine gx_region ?_
   refine gx_k (.int .u8 p2) w0 (gx_k (.int .u8 p2) w0 ?_)
   refine gx_nil ?_
   refine gx_thenN ?_
   refine hK12 _ _ ?_
   refine gx_ret ?_
   obtain rfl := Option.some.inj hF
   exact gx_fin (.int .u8 p2) (by kernel_rfl) (by kernel_rfl) ⟨_, rfl, rfl, hS0⟩
 ·refine gx_v (.bool false) w0 (run_boolE (decide_eq_false h7) (by kernel_rfl)) ?_
  refine gx_k (.bool false) w0 (gx_o (gx_o (gx_k (.bool false) w0 ?_)))
  refine gx_nil ?_
  refine gx_thenN ?_
  refine hK6 _ _ ?_
  refine gx_no (by kernel_rfl) ?_
  refine gx_pass ?_
  refine gx_thenN ?_
  refine hK4 _ _ ?_
  refine gx_seq (fun K13 hK14 => ?_)
  refine gx_region ?_
  refine gx_k (.int .u8 p2) w0 (gx_k (.int .u8 p2) w0 ?_)
  refine gx_nil ?_
  refine gx_thenN ?_
  refine hK14 _ _ ?_
  refine gx_ret ?_
  obtain rfl := Option.some.inj hF
  exact gx_fin (.int .u8 p2) (by kernel_rfl) (by kernel_rfl) ⟨_, rfl, rfl, hS0⟩

def pDense_L1 (N : Nat) (p0 : List Int) : Nat → (List Int) → Int → Option (List Int)
 | 0, _, _ => none
 | k28+1, l26, x27 => (if x27 < ((p0.length : Nat) : Int) then ((ix p0 x27).bind fun x39 => (if x39 ≠ 10 then ((apx l26 ([x39])).bind fun l46 => pDense_L1 N p0 k28 l46 (IntKind.i64.wrap (x27 + 1))) else pDense_L1 N p0 k28 l26 (IntKind.i64.wrap (x27 + 1)))) else some (l26))
def pDense (N : Nat) (p0 : List Int) : Option (List Int) :=
 ((mk0 ((p0.length : Nat) : Int)).bind fun _ => ((pDense_L1 N p0 N ([]) 0 : Option (List Int)).bind fun l15 => some l15))

set_option linter.unusedVariables false in
def pDense_R (r : List Int) (w0 : World) (v : Value) (w : World) : Prop := ∃ (A0' : Option Addr) (c0' : Nat), v = .slice A0' r.length c0' ∧ St [] w0 w [rowE .u8 23 A0' c0' r]

set_option maxRecDepth 100000 in
set_option maxHeartbeats 4000000 in
theorem pDense_ok (N : Nat) (p0 : List Int) (A0 : Option Addr) (c0 : Nat) (r : List Int) (hF : pDense N p0 = some r) (w0 : World) (hv0 : Vw [] .u8 w0 A0 c0 p0) :
  Calls Try.prog 27 #[.slice A0 p0.length c0] w0 fun e w => ∃ v, e = .returned v ∧ pDense_R r w0 v w := by
 have hS0 := St.start w0
 unfold pDense at hF
 refine calls_of Try.func27 rfl ⟨((.slice A0 p0.length c0) :: un 22 ([])).toArray, []⟩ (by kernel_rfl) ?_
 refine gx_seq (fun K1 hK2 => ?_)
 refine gx_region ?_
 refine gx_k (.slice none 0 0) w0 ?_
 refine gx_nil ?_
 refine gx_thenN ?_
 refine hK2 _ _ ?_
 refine gx_seq (fun K3 hK4 => ?_)
 refine gx_region ?_
 refine gx_k (.slice A0 p0.length c0) w0 (gx_k (.int .i64 ((p0.length : Nat) : Int)) w0 ?_)
 obtain ⟨_, hm5, hF⟩ := bind_in hF
 refine gx_r (st_makeC (k1 := .i64) (k2 := .i64) (T := 23) (sz := 1) (by_ := 1) (z := .int .u8 0) rfl (by kernel_rfl) (by kernel_rfl) (by kernel_rfl) (by kernel_rfl) (by kernel_rfl) hS0 (mk0_in hm5)) ?_
 rintro _ w6 ⟨A8, c9, rfl, hS7⟩
 have hS7 : St _ _ w6 [rowE .u8 23 A8 c9 ([])] := hS7
 refine gx_k (.slice A8 (([] : List Int).length) c9) w6 ?_
 refine gx_nil ?_
 refine gx_thenN ?_
 refine hK4 _ _ ?_
 obtain ⟨c16, hE17, hO18⟩ := bind_in hF
 refine gx_cut (fun a w => ∃ (l15 : List Int) (A13 : Option Addr) (c14 : Nat), selfA (fun u12 => ⟨((u12 0) :: undef :: (.slice none 0 0) :: (.slice A13 l15.length c14) :: undef :: dd u12 5 2 ((.int .i64 ((p0.length : Nat) : Int)) :: dd u12 8 14 (undef :: []))).toArray, []⟩) a ∧ l15 = c16 ∧ St [] w0 w [rowE .u8 23 A13 c14 l15]) ?_ ?_
 ·refine gx_seq (fun K19 hK20 => ?_)
  refine gx_region ?_
  refine gx_k (.slice A0 p0.length c0) w6 (gx_k (.int .i64 ((p0.length : Nat) : Int)) w6 (gx_k (.int .i64 0) w6 ?_))
  refine gx_nil ?_
  refine gx_thenN ?_
  refine hK20 _ _ ?_
  refine gx_block ?_
  refine gx_loop (fun k a w => ∃ (l26 : List Int) (x27 : Int) (A24 : Option Addr) (c25 : Nat), selfA (fun u23 => ⟨((u23 0) :: undef :: (.slice none 0 0) :: (.slice A24 l26.length c25) :: undef :: dd u23 5 2 ((.int .i64 ((p0.length : Nat) : Int)) :: (u23 8) :: (.slice A0 p0.length c0) :: (.int .i64 ((p0.length : Nat) : Int)) :: (.int .i64 x27) :: dd u23 12 10 (undef :: []))).toArray, []⟩) a ∧ pDense_L1 N p0 k l26 x27 = some c16 ∧ St [] w0 w [rowE .u8 23 A24 c25 l26]) N ?_ ?_
  ·exact ⟨([]), 0, A8, c9, selfA_i (by kernel_rfl), hE17, hS7⟩
  ·rintro k28 _ w21 ⟨l26, x27, A24, c25, hq55, hL29, hS22⟩
   obtain ⟨u23, rfl⟩ := selfA_u hq55
   cases k28 with
   | zero => cases hL29
   | succ k28 =>
    first | rw [pDense_L1] at hL29 | unfold pDense_L1 at hL29
    refine gx_seq (fun K30 hK31 => ?_)
    refine gx_region ?_
    rcases if_in hL29 with ⟨h32, hL29⟩ | ⟨h32, hL29⟩
    ·refine gx_v (.bool true) w21 (run_boolE (decide_eq_true h32) (by kernel_rfl)) ?_
     refine gx_nil ?_
     refine gx_thenN ?_
     refine hK31 _ _ ?_
     refine gx_seq (fun K33 hK34 => ?_)
     refine gx_yes (by kernel_rfl) ?_
     refine gx_pass ?_
     refine gx_thenN ?_
     refine hK34 _ _ ?_
     refine gx_seq (fun K35 hK36 => ?_)
     refine gx_block ?_
     refine gx_seq (fun K37 hK38 => ?_)
     refine gx_region ?_
     obtain ⟨x39, hx40, hL29⟩ := bind_in hL29
     refine gx_v (.pointer (Option.map (fun (p : Addr) => p.add (Int.toNat x27 * 1)) A0)) w21 (run_ixaddr (E := 23) (s := 1) (k := .i64) (c := c0) rfl (by kernel_rfl) (by kernel_rfl) (by kernel_rfl) (fun _ => by kernel_rfl) (ix_in hx40).1 (ix_in hx40).2.1 (num_nil (hS22.view hv0))) ?_
     refine gx_v (.int .u8 x39) w21 (run_loadix rfl (by kernel_rfl) (fun _ => by kernel_rfl) (hS22.view hv0) hx40) ?_
     refine gx_k (.int .u8 x39) w21 ?_
     refine gx_nil ?_
     refine gx_thenN ?_
     refine hK38 _ _ ?_
     refine gx_seq (fun K41 hK42 => ?_)
     refine gx_region ?_
     refine gx_k (.int .u8 x39) w21 ?_
     rcases if_in hL29 with ⟨h43, hL29⟩ | ⟨h43, hL29⟩
     ·refine gx_v (.bool true) w21 (run_boolE (ne_yes h43) (by kernel_rfl)) ?_
      refine gx_nil ?_
      refine gx_thenN ?_
      refine hK42 _ _ ?_
      refine gx_yes (by kernel_rfl) ?_
      refine gx_region ?_
      refine gx_k (.slice A24 l26.length c25) w21 (gx_k (.int .u8 x39) w21 ?_)
      refine gx_r (st_made .u8 23 [x39] hS22 (by show 1 ≤ 1000000000; decide) (by kernel_rfl)) ?_
      rintro _ w44 ⟨rfl, hS45⟩
      have hS45 : St _ _ w44 [rowE .u8 23 A24 c25 l26, rowE .u8 23 (some ⟨w21.heap.size, 0, none⟩) 1 ([x39])] := hS45
      obtain ⟨l46, ha47, hL29⟩ := bind_in hL29
      obtain ⟨ha47, hq48⟩ := apx_in ha47
      refine gx_r (st_append rfl (by kernel_rfl) (by kernel_rfl) hS45 0 rfl (hS45.row 1 rfl).1 (hS45.row 1 rfl).2 ha47 (by kernel_rfl) (by kernel_rfl)) ?_
      rintro _ w51 ⟨A49, c50, rfl, hS52⟩
      rw [← hq48] at hS52 ⊢
      have hS52 : St _ _ w51 [rowE .u8 23 A49 c50 l46, rowE .u8 23 (some ⟨w21.heap.size, 0, none⟩) 1 ([x39])] := hS52
      refine gx_k (.slice A49 l46.length c50) w51 ?_
      refine gx_nil ?_
      refine gx_blkN ?_
      refine gx_thenN ?_
      refine hK36 _ _ ?_
      refine gx_region ?_
      refine gx_k (.int .i64 (IntKind.i64.wrap (x27 + 1))) w51 (gx_k (.int .i64 (IntKind.i64.wrap (x27 + 1))) w51 ?_)
      refine gx_nil ?_
      refine gx_thenN ?_
      exact ⟨k28, Nat.lt_succ_self k28, l46, (IntKind.i64.wrap (x27 + 1)), A49, c50, selfA_i (by kernel_rfl), hL29, (hS52.pick [0] rfl rfl)⟩
     ·refine gx_v (.bool false) w21 (run_boolE (ne_no h43) (by kernel_rfl)) ?_
      refine gx_nil ?_
      refine gx_thenN ?_
      refine hK42 _ _ ?_
      refine gx_no (by kernel_rfl) ?_
      refine gx_pass ?_
      refine gx_blkN ?_
      refine gx_thenN ?_
      refine hK36 _ _ ?_
      refine gx_region ?_
      refine gx_k (.int .i64 (IntKind.i64.wrap (x27 + 1))) w21 (gx_k (.int .i64 (IntKind.i64.wrap (x27 + 1))) w21 ?_)
      refine gx_nil ?_
      refine gx_thenN ?_
      exact ⟨k28, Nat.lt_succ_self k28, l26, (IntKind.i64.wrap (x27 + 1)), A24, c25, selfA_i (by kernel_rfl), hL29, hS22⟩
    ·refine gx_v (.bool false) w21 (run_boolE (decide_eq_false h32) (by kernel_rfl)) ?_
     refine gx_nil ?_
     refine gx_thenN ?_
     refine hK31 _ _ ?_
     refine gx_seq (fun K53 hK54 => ?_)
     refine gx_no (by kernel_rfl) ?_
     refine gx_exit ?_
     refine gx_thenE ?_
     refine gx_thenE ?_
     refine gx_blkE ?_
     refine gx_thenN ?_
     exact ⟨l26, A24, c25, selfA_i (by kernel_rfl), (Option.some.inj hL29), hS22⟩
 ·rintro _ w10 ⟨l15, A13, c14, hq58, rfl, hS11⟩
  obtain ⟨u12, rfl⟩ := selfA_u hq58
  try dsimp only at hO18
  refine gx_seq (fun K56 hK57 => ?_)
  refine gx_region ?_
  refine gx_k (.slice A13 l15.length c14) w10 (gx_k (.slice A13 l15.length c14) w10 ?_)
  refine gx_nil ?_
  refine gx_thenN ?_
  refine hK57 _ _ ?_
  refine gx_ret ?_
  obtain rfl := Option.some.inj hO18
  exact gx_fin (.slice A13 l15.length c14) (by kernel_rfl) (by kernel_rfl) ⟨_, rfl, A13, c14, rfl, hS11⟩

def pSpread_L1 (N : Nat) (p0 : List Int) (p1 : List Int) : Nat → (List Int) → Int → Int → Option (List Int)
 | 0, _, _, _ => none
 | k30+1, l27, x28, x29 => (if x29 < ((p0.length : Nat) : Int) then ((ix p0 x29).bind fun x41 => (if x41 = 10 then ((ix l27 x29).bind fun _x50 => ((setx l27 x29 x41).bind fun l54 => pSpread_L1 N p0 p1 k30 l54 x28 (IntKind.i64.wrap (x29 + 1)))) else ((ix p1 x28).bind fun x58 => ((ix l27 x29).bind fun _x60 => ((setx l27 x29 x58).bind fun l64 => pSpread_L1 N p0 p1 k30 l64 (IntKind.i64.wrap (x28 + 1)) (IntKind.i64.wrap (x29 + 1))))))) else some (l27))
def pSpread (N : Nat) (p0 : List Int) (p1 : List Int) : Option (List Int) :=
 ((mkx ((p0.length : Nat) : Int)).bind fun l5 => ((pSpread_L1 N p0 p1 N l5 0 0 : Option (List Int)).bind fun l17 => some l17))

set_option linter.unusedVariables false in
def pSpread_R (r : List Int) (w0 : World) (v : Value) (w : World) : Prop := ∃ (A0' : Option Addr) (c0' : Nat), v = .slice A0' r.length c0' ∧ St [] w0 w [rowE .u8 23 A0' c0' r]

set_option maxRecDepth 100000 in
set_option maxHeartbeats 4000000 in
theorem pSpread_ok (N : Nat) (p0 : List Int) (p1 : List Int) (A0 : Option Addr) (c0 : Nat) (A1 : Option Addr) (c1 : Nat) (r : List Int) (hF : pSpread N p0 p1 = some r) (w0 : World) (hv0 : Vw [] .u8 w0 A0 c0 p0) (hv1 : Vw [] .u8 w0 A1 c1 p1) :
  Calls Try.prog 32 #[.slice A0 p0.length c0, .slice A1 p1.length c1] w0 fun e w => ∃ v, e = .returned v ∧ pSpread_R r w0 v w := by
 have hS0 := St.start w0
 unfold pSpread at hF
 refine calls_of Try.func32 rfl ⟨((.slice A0 p0.length c0) :: (.slice A1 p1.length c1) :: un 34 ([])).toArray, []⟩ (by kernel_rfl) ?_
 refine gx_seq (fun K1 hK2 => ?_)
 refine gx_region ?_
 refine gx_k (.slice none 0 0) w0 ?_
 refine gx_nil ?_
 refine gx_thenN ?_
 refine hK2 _ _ ?_
 refine gx_seq (fun K3 hK4 => ?_)
 refine gx_region ?_
 refine gx_k (.slice A0 p0.length c0) w0 (gx_k (.int .i64 ((p0.length : Nat) : Int)) w0 ?_)
 obtain ⟨l5, hm6, hF⟩ := bind_in hF
 refine gx_r (st_make (T := 23) (k := .u8) (by_ := 1) rfl (by kernel_rfl) (by kernel_rfl) (by kernel_rfl) (by kernel_rfl) (by kernel_rfl) hS0 hm6) ?_
 rintro _ w7 ⟨A9, c10, rfl, hS8⟩
 have hS8 : St _ _ w7 [rowE .u8 23 A9 c10 l5] := hS8
 refine gx_k (.slice A9 l5.length c10) w7 ?_
 refine gx_nil ?_
 refine gx_thenN ?_
 refine hK4 _ _ ?_
 refine gx_seq (fun K11 hK12 => ?_)
 refine gx_region ?_
 refine gx_k (.int .i64 0) w7 ?_
 refine gx_nil ?_
 refine gx_thenN ?_
 refine hK12 _ _ ?_
 obtain ⟨c18, hE19, hO20⟩ := bind_in hF
 refine gx_cut (fun a w => ∃ (l17 : List Int), selfA (fun u15 => ⟨(dd u15 0 2 (undef :: undef :: (.slice none 0 0) :: (.slice A9 l5.length c10) :: dd u15 6 4 ((.int .i64 ((p0.length : Nat) : Int)) :: dd u15 11 24 (undef :: [])))).toArray, []⟩) a ∧ l17 = c18 ∧ St [] w0 w [rowE .u8 23 A9 c10 l17] ∧ l5.length = l17.length) ?_ ?_
 ·refine gx_seq (fun K21 hK22 => ?_)
  refine gx_region ?_
  refine gx_k (.slice A0 p0.length c0) w7 (gx_k (.int .i64 ((p0.length : Nat) : Int)) w7 (gx_k (.int .i64 0) w7 ?_))
  refine gx_nil ?_
  refine gx_thenN ?_
  refine hK22 _ _ ?_
  refine gx_block ?_
  refine gx_loop (fun k a w => ∃ (l27 : List Int) (x28 : Int) (x29 : Int), selfA (fun u25 => ⟨((u25 0) :: (.slice A1 p1.length c1) :: undef :: undef :: (.slice none 0 0) :: (.slice A9 l5.length c10) :: (.int .i64 x28) :: dd u25 7 3 ((.int .i64 ((p0.length : Nat) : Int)) :: (u25 11) :: (.slice A0 p0.length c0) :: (.int .i64 ((p0.length : Nat) : Int)) :: (.int .i64 x29) :: dd u25 15 20 (undef :: []))).toArray, []⟩) a ∧ pSpread_L1 N p0 p1 k l27 x28 x29 = some c18 ∧ St [] w0 w [rowE .u8 23 A9 c10 l27] ∧ l5.length = l27.length) N ?_ ?_
  ·exact ⟨l5, 0, 0, selfA_i (by kernel_rfl), hE19, hS8, rfl⟩
  ·rintro k30 _ w23 ⟨l27, x28, x29, hq68, hL31, hS24, hn26⟩
   obtain ⟨u25, rfl⟩ := selfA_u hq68
   cases k30 with
   | zero => cases hL31
   | succ k30 =>
    first | rw [pSpread_L1] at hL31 | unfold pSpread_L1 at hL31
    refine gx_seq (fun K32 hK33 => ?_)
    refine gx_region ?_
    rcases if_in hL31 with ⟨h34, hL31⟩ | ⟨h34, hL31⟩
    ·refine gx_v (.bool true) w23 (run_boolE (decide_eq_true h34) (by kernel_rfl)) ?_
     refine gx_nil ?_
     refine gx_thenN ?_
     refine hK33 _ _ ?_
     refine gx_seq (fun K35 hK36 => ?_)
     refine gx_yes (by kernel_rfl) ?_
     refine gx_pass ?_
     refine gx_thenN ?_
     refine hK36 _ _ ?_
     refine gx_seq (fun K37 hK38 => ?_)
     refine gx_block ?_
     refine gx_seq (fun K39 hK40 => ?_)
     refine gx_region ?_
     refine gx_k (.int .i64 x29) w23 ?_
     obtain ⟨x41, hx42, hL31⟩ := bind_in hL31
     refine gx_v (.pointer (Option.map (fun (p : Addr) => p.add (Int.toNat x29 * 1)) A0)) w23 (run_ixaddr (E := 23) (s := 1) (k := .i64) (c := c0) rfl (by kernel_rfl) (by kernel_rfl) (by kernel_rfl) (fun _ => by kernel_rfl) (ix_in hx42).1 (ix_in hx42).2.1 (num_nil (hS24.view hv0))) ?_
     refine gx_v (.int .u8 x41) w23 (run_loadix rfl (by kernel_rfl) (fun _ => by kernel_rfl) (hS24.view hv0) hx42) ?_
     refine gx_k (.int .i64 x29) w23 (gx_k (.int .u8 x41) w23 ?_)
     refine gx_nil ?_
     refine gx_thenN ?_
     refine hK40 _ _ ?_
     refine gx_seq (fun K43 hK44 => ?_)
     refine gx_seq (fun K45 hK46 => ?_)
     refine gx_region ?_
     refine gx_k (.int .u8 x41) w23 ?_
     rcases if_in hL31 with ⟨h47, hL31⟩ | ⟨h47, hL31⟩
     ·refine gx_v (.bool true) w23 (run_boolE (decide_eq_true h47) (by kernel_rfl)) ?_
      refine gx_nil ?_
      refine gx_thenN ?_
      refine hK46 _ _ ?_
      refine gx_yes (by kernel_rfl) ?_
      refine gx_seq (fun K48 hK49 => ?_)
      refine gx_region ?_
      refine gx_k (.slice A9 l5.length c10) w23 (gx_k (.int .i64 x29) w23 (gx_k (.int .u8 x41) w23 ?_))
      obtain ⟨x50, hx51, hL31⟩ := bind_in hL31
      refine gx_v (.pointer (Option.map (fun (p : Addr) => p.add (Int.toNat x29 * 1)) A9)) w23 (run_ixaddr (E := 23) (s := 1) (k := .i64) (c := c10) rfl (by kernel_rfl) (by kernel_rfl) (by kernel_rfl) (fun _ => by kernel_rfl) (ix_in hx51).1 (lt_len hn26 (ix_in hx51).2.1) (nil_len hn26 (num_nil (hS24.row 0 rfl).1))) ?_
      obtain ⟨l54, hx55, hL31⟩ := bind_in hL31
      refine gx_s (st_storeix rfl (by kernel_rfl) (by kernel_rfl) (fun _ => by kernel_rfl) hS24 0 rfl hx55) ?_
      rintro w52 hS53
      have hS53 : St _ _ w52 [rowE .u8 23 A9 c10 l54] := hS53
      refine gx_nil ?_
      refine gx_thenN ?_
      refine hK49 _ _ ?_
      refine gx_exit ?_
      refine gx_thenE ?_
      refine gx_blkE ?_
      refine gx_thenN ?_
      refine hK38 _ _ ?_
      refine gx_region ?_
      refine gx_k (.int .i64 (IntKind.i64.wrap (x29 + 1))) w52 (gx_k (.int .i64 (IntKind.i64.wrap (x29 + 1))) w52 ?_)
      refine gx_nil ?_
      refine gx_thenN ?_
      exact ⟨k30, Nat.lt_succ_self k30, l54, x28, (IntKind.i64.wrap (x29 + 1)), selfA_i (by kernel_rfl), hL31, hS53, (hn26.trans (setx_len hx55).symm)⟩
     ·refine gx_v (.bool false) w23 (run_boolE (decide_eq_false h47) (by kernel_rfl)) ?_
      refine gx_nil ?_
      refine gx_thenN ?_
      refine hK46 _ _ ?_
      refine gx_no (by kernel_rfl) ?_
      refine gx_pass ?_
      refine gx_thenN ?_
      refine hK44 _ _ ?_
      refine gx_seq (fun K56 hK57 => ?_)
      refine gx_region ?_
      refine gx_k (.slice A9 l5.length c10) w23 (gx_k (.int .i64 x29) w23 (gx_k (.slice A1 p1.length c1) w23 (gx_k (.int .i64 x28) w23 ?_)))
      obtain ⟨x58, hx59, hL31⟩ := bind_in hL31
      refine gx_v (.pointer (Option.map (fun (p : Addr) => p.add (Int.toNat x28 * 1)) A1)) w23 (run_ixaddr (E := 23) (s := 1) (k := .i64) (c := c1) rfl (by kernel_rfl) (by kernel_rfl) (by kernel_rfl) (fun _ => by kernel_rfl) (ix_in hx59).1 (ix_in hx59).2.1 (num_nil (hS24.view hv1))) ?_
      refine gx_v (.int .u8 x58) w23 (run_loadix rfl (by kernel_rfl) (fun _ => by kernel_rfl) (hS24.view hv1) hx59) ?_
      obtain ⟨x60, hx61, hL31⟩ := bind_in hL31
      refine gx_v (.pointer (Option.map (fun (p : Addr) => p.add (Int.toNat x29 * 1)) A9)) w23 (run_ixaddr (E := 23) (s := 1) (k := .i64) (c := c10) rfl (by kernel_rfl) (by kernel_rfl) (by kernel_rfl) (fun _ => by kernel_rfl) (ix_in hx61).1 (lt_len hn26 (ix_in hx61).2.1) (nil_len hn26 (num_nil (hS24.row 0 rfl).1))) ?_
      obtain ⟨l64, hx65, hL31⟩ := bind_in hL31
      refine gx_s (st_storeix rfl (by kernel_rfl) (by kernel_rfl) (fun _ => by kernel_rfl) hS24 0 rfl hx65) ?_
      rintro w62 hS63
      have hS63 : St _ _ w62 [rowE .u8 23 A9 c10 l64] := hS63
      refine gx_nil ?_
      refine gx_thenN ?_
      refine hK57 _ _ ?_
      refine gx_region ?_
      refine gx_k (.int .i64 x28) w62 (gx_k (.int .i64 (IntKind.i64.wrap (x28 + 1))) w62 (gx_k (.int .i64 (IntKind.i64.wrap (x28 + 1))) w62 ?_))
      refine gx_nil ?_
      refine gx_blkN ?_
      refine gx_thenN ?_
      refine hK38 _ _ ?_
      refine gx_region ?_
      refine gx_k (.int .i64 (IntKind.i64.wrap (x29 + 1))) w62 (gx_k (.int .i64 (IntKind.i64.wrap (x29 + 1))) w62 ?_)
      refine gx_nil ?_
      refine gx_thenN ?_
      exact ⟨k30, Nat.lt_succ_self k30, l64, (IntKind.i64.wrap (x28 + 1)), (IntKind.i64.wrap (x29 + 1)), selfA_i (by kernel_rfl), hL31, hS63, (hn26.trans (setx_len hx65).symm)⟩
    ·refine gx_v (.bool false) w23 (run_boolE (decide_eq_false h34) (by kernel_rfl)) ?_
     refine gx_nil ?_
     refine gx_thenN ?_
     refine hK33 _ _ ?_
     refine gx_seq (fun K66 hK67 => ?_)
     refine gx_no (by kernel_rfl) ?_
     refine gx_exit ?_
     refine gx_thenE ?_
     refine gx_thenE ?_
     refine gx_blkE ?_
     refine gx_thenN ?_
     exact ⟨l27, selfA_i (by kernel_rfl), (Option.some.inj hL31), hS24, hn26⟩
 ·rintro _ w13 ⟨l17, hq71, rfl, hS14, hn16⟩
  obtain ⟨u15, rfl⟩ := selfA_u hq71
  try dsimp only at hO20
  refine gx_seq (fun K69 hK70 => ?_)
  refine gx_region ?_
  refine gx_k (.slice A9 l5.length c10) w13 (gx_k (.slice A9 l5.length c10) w13 ?_)
  refine gx_nil ?_
  refine gx_thenN ?_
  refine hK70 _ _ ?_
  refine gx_ret ?_
  obtain rfl := Option.some.inj hO20
  exact gx_fin (.slice A9 l5.length c10) (by kernel_rfl) (by kernel_rfl) ⟨_, rfl, A9, c10, by rw [← hn16] <;> kernel_rfl, hS14⟩

def pFill_L1 (N : Nat) (p0 : List Int) (p1 : Int) : Nat → (List Int) → Int → Option (List Int)
 | 0, _, _ => none
 | k9+1, l7, x8 => (if x8 < ((p0.length : Nat) : Int) then ((ix l7 x8).bind fun _x20 => ((setx l7 x8 p1).bind fun l24 => pFill_L1 N p0 p1 k9 l24 (IntKind.i64.wrap (x8 + 1)))) else some l7)
def pFill (N : Nat) (p0 : List Int) (p1 : Int) : Option (List Int) :=
 pFill_L1 N p0 p1 N p0 0

set_option linter.unusedVariables false in
def pFill_R (p0 : List Int) (p1 : Int) (A0 : Option Addr) (c0 : Nat) (B0 : Option Addr) (d0 : Nat) (pre0 post0 : List Int) (r : List Int) (w0 : World) (v : Value) (w : World) : Prop := v = .tuple #[] ∧ St (foots [pceE .u8 23 A0 c0 pre0 post0 p0]) w0 w [pceE .u8 23 A0 c0 pre0 post0 r] ∧ r.length = p0.length

set_option maxRecDepth 100000 in
set_option maxHeartbeats 4000000 in
theorem pFill_ok (N : Nat) (p0 : List Int) (p1 : Int) (A0 : Option Addr) (c0 : Nat) (B0 : Option Addr) (d0 : Nat) (pre0 post0 : List Int) (r : List Int) (hF : pFill N p0 p1 = some r) (w0 : World) (hp0 : PceAt A0 c0 pre0 p0 B0 d0) (hl : St (foots [pceE .u8 23 A0 c0 pre0 post0 p0]) w0 w0 [pceE .u8 23 A0 c0 pre0 post0 p0]) :
  Calls Try.prog 48 #[.slice B0 p0.length d0, .int .u8 p1] w0 fun e w => ∃ v, e = .returned v ∧ pFill_R p0 p1 A0 c0 B0 d0 pre0 post0 r w0 v w := by
 have hS0 := hl
 unfold pFill at hF
 refine calls_of Try.func48 rfl ⟨((.slice B0 p0.length d0) :: (.int .u8 p1) :: un 13 ([])).toArray, []⟩ (by kernel_rfl) ?_
 refine gx_seq (fun K1 hK2 => ?_)
 refine gx_region ?_
 refine gx_k (.slice B0 p0.length d0) w0 (gx_k (.int .i64 ((p0.length : Nat) : Int)) w0 (gx_k (.int .i64 0) w0 ?_))
 refine gx_nil ?_
 refine gx_thenN ?_
 refine hK2 _ _ ?_
 refine gx_block ?_
 refine gx_loop (fun k a w => ∃ (l7 : List Int) (x8 : Int), selfA (fun u5 => ⟨((.slice B0 p0.length d0) :: (.int .u8 p1) :: undef :: undef :: dd u5 4 2 ((.int .i64 ((p0.length : Nat) : Int)) :: (.int .i64 x8) :: dd u5 8 7 ([]))).toArray, []⟩) a ∧ pFill_L1 N p0 p1 k l7 x8 = some r ∧ St (foots [pceE .u8 23 A0 c0 pre0 post0 p0]) w0 w [pceE .u8 23 A0 c0 pre0 post0 l7] ∧ p0.length = l7.length) N ?_ ?_
 ·exact ⟨p0, 0, selfA_i (by kernel_rfl), hF, hS0, rfl⟩
 ·rintro k9 _ w3 ⟨l7, x8, hq28, hL10, hS4, hn6⟩
  obtain ⟨u5, rfl⟩ := selfA_u hq28
  cases k9 with
  | zero => cases hL10
  | succ k9 =>
   first | rw [pFill_L1] at hL10 | unfold pFill_L1 at hL10
   refine gx_seq (fun K11 hK12 => ?_)
   refine gx_region ?_
   rcases if_in hL10 with ⟨h13, hL10⟩ | ⟨h13, hL10⟩
   ·refine gx_v (.bool true) w3 (run_boolE (decide_eq_true h13) (by kernel_rfl)) ?_
    refine gx_nil ?_
    refine gx_thenN ?_
    refine hK12 _ _ ?_
    refine gx_seq (fun K14 hK15 => ?_)
    refine gx_yes (by kernel_rfl) ?_
    refine gx_pass ?_
    refine gx_thenN ?_
    refine hK15 _ _ ?_
    refine gx_seq (fun K16 hK17 => ?_)
    refine gx_block ?_
    refine gx_seq (fun K18 hK19 => ?_)
    refine gx_region ?_
    refine gx_k (.int .i64 x8) w3 (gx_k (.int .i64 x8) w3 ?_)
    refine gx_nil ?_
    refine gx_thenN ?_
    refine hK19 _ _ ?_
    refine gx_region ?_
    refine gx_k (.slice B0 p0.length d0) w3 (gx_k (.int .i64 x8) w3 (gx_k (.int .u8 p1) w3 ?_))
    obtain ⟨x20, hx21, hL10⟩ := bind_in hL10
    refine gx_v (.pointer (Option.map (fun (p : Addr) => p.add (Int.toNat x8 * 1)) B0)) w3 (run_ixaddr (E := 23) (s := 1) (k := .i64) (c := d0) rfl (by kernel_rfl) (by kernel_rfl) (by kernel_rfl) (fun _ => by kernel_rfl) (ix_in hx21).1 (lt_len hn6 (ix_in hx21).2.1) (nil_len hn6 (num_nil (hS4.pce 0 rfl (hp0.keep (hn6).symm)).1))) ?_
    obtain ⟨l24, hx25, hL10⟩ := bind_in hL10
    refine gx_s (st_storepc rfl (by kernel_rfl) (by kernel_rfl) (fun _ => by kernel_rfl) (hp0.keep (hn6).symm) hS4 0 rfl hx25) ?_
    rintro w22 hS23
    have hS23 : St _ _ w22 [pceE .u8 23 A0 c0 pre0 post0 l24] := hS23
    refine gx_nil ?_
    refine gx_blkN ?_
    refine gx_thenN ?_
    refine hK17 _ _ ?_
    refine gx_region ?_
    refine gx_k (.int .i64 (IntKind.i64.wrap (x8 + 1))) w22 (gx_k (.int .i64 (IntKind.i64.wrap (x8 + 1))) w22 ?_)
    refine gx_nil ?_
    refine gx_thenN ?_
    exact ⟨k9, Nat.lt_succ_self k9, l24, (IntKind.i64.wrap (x8 + 1)), selfA_i (by kernel_rfl), hL10, hS23, (hn6.trans (setx_len hx25).symm)⟩
   ·refine gx_v (.bool false) w3 (run_boolE (decide_eq_false h13) (by kernel_rfl)) ?_
    refine gx_nil ?_
    refine gx_thenN ?_
    refine hK12 _ _ ?_
    refine gx_seq (fun K26 hK27 => ?_)
    refine gx_no (by kernel_rfl) ?_
    refine gx_exit ?_
    refine gx_thenE ?_
    refine gx_thenE ?_
    refine gx_blkE ?_
    obtain rfl := Option.some.inj hL10
    exact gx_finN (.tuple #[]) (by kernel_rfl) (by kernel_rfl) ⟨_, rfl, rfl, hS4, (hn6).symm⟩

def pEndT_L1 (N : Nat) (p0 : List Int) : Nat → Int → Option (Int)
 | 0, _ => none
 | k16+1, x15 => (if x15 < ((p0.length : Nat) : Int) then ((ix p0 x15).bind fun x23 => ((pTerm N x23).bind fun b27 => (match b27 with | true => pEndT_L1 N p0 k16 (IntKind.i64.wrap (x15 + 1)) | false => some (x15)))) else some (x15))
def pEndT (N : Nat) (p0 : List Int) (p1 : Int) : Option (Int) :=
 ((pEndT_L1 N p0 N p1 : Option (Int)).bind fun x8 => some x8)

set_option linter.unusedVariables false in
def pEndT_R (r : Int) (w0 : World) (v : Value) (w : World) : Prop := v = .int .i64 r ∧ St [] w0 w []

set_option maxRecDepth 100000 in
set_option maxHeartbeats 4000000 in
theorem pEndT_ok (N : Nat) (p0 : List Int) (p1 : Int) (A0 : Option Addr) (c0 : Nat) (r : Int) (hF : pEndT N p0 p1 = some r) (w0 : World) (hv0 : Vw [] .u8 w0 A0 c0 p0) :
  Calls Try.prog 46 #[.slice A0 p0.length c0, .int .i64 p1, .func (.func 47) #[] #[]] w0 fun e w => ∃ v, e = .returned v ∧ pEndT_R r w0 v w := by
 have hS0 := St.start w0
 unfold pEndT at hF
 refine calls_of Try.func46 rfl ⟨((.slice A0 p0.length c0) :: (.int .i64 p1) :: (.func (.func 47) #[] #[]) :: un 21 ([])).toArray, []⟩ (by kernel_rfl) ?_
 refine gx_seq (fun K1 hK2 => ?_)
 refine gx_region ?_
 refine gx_k (.int .i64 0) w0 ?_
 refine gx_nil ?_
 refine gx_thenN ?_
 refine hK2 _ _ ?_
 refine gx_seq (fun K3 hK4 => ?_)
 refine gx_region ?_
 refine gx_k (.int .i64 p1) w0 (gx_k (.int .i64 p1) w0 ?_)
 refine gx_nil ?_
 refine gx_thenN ?_
 refine hK4 _ _ ?_
 obtain ⟨c9, hE10, hO11⟩ := bind_in hF
 refine gx_cut (fun a w => ∃ (x8 : Int), selfA (fun u7 => ⟨((u7 0) :: (.int .i64 p1) :: (.func (.func 47) #[] #[]) :: un 3 ((.int .i64 0) :: (.int .i64 x8) :: (.int .i64 p1) :: dd u7 9 14 (undef :: []))).toArray, []⟩) a ∧ x8 = c9 ∧ St [] w0 w []) ?_ ?_
 ·refine gx_block ?_
  refine gx_loop (fun k a w => ∃ (x15 : Int), selfA (fun u14 => ⟨((.slice A0 p0.length c0) :: (.int .i64 p1) :: (.func (.func 47) #[] #[]) :: un 3 ((.int .i64 0) :: (.int .i64 x15) :: (.int .i64 p1) :: dd u14 9 14 (undef :: []))).toArray, []⟩) a ∧ pEndT_L1 N p0 k x15 = some c9 ∧ St [] w0 w []) N ?_ ?_
  ·exact ⟨p1, selfA_i (by kernel_rfl), hE10, hS0⟩
  ·rintro k16 _ w12 ⟨x15, hq31, hL17, hS13⟩
   obtain ⟨u14, rfl⟩ := selfA_u hq31
   cases k16 with
   | zero => cases hL17
   | succ k16 =>
    first | rw [pEndT_L1] at hL17 | unfold pEndT_L1 at hL17
    refine gx_seq (fun K18 hK19 => ?_)
    refine gx_seq (fun K20 hK21 => ?_)
    refine gx_region ?_
    refine gx_k (.int .i64 x15) w12 (gx_k (.slice A0 p0.length c0) w12 (gx_k (.int .i64 ((p0.length : Nat) : Int)) w12 ?_))
    rcases if_in hL17 with ⟨h22, hL17⟩ | ⟨h22, hL17⟩
    ·refine gx_v (.bool true) w12 (run_boolE (decide_eq_true h22) (by kernel_rfl)) ?_
     refine gx_k (.bool true) w12 (gx_k (.func (.func 47) #[] #[]) w12 (gx_k (.slice A0 p0.length c0) w12 (gx_k (.int .i64 x15) w12 ?_)))
     obtain ⟨x23, hx24, hL17⟩ := bind_in hL17
     refine gx_v (.pointer (Option.map (fun (p : Addr) => p.add (Int.toNat x15 * 1)) A0)) w12 (run_ixaddr (E := 23) (s := 1) (k := .i64) (c := c0) rfl (by kernel_rfl) (by kernel_rfl) (by kernel_rfl) (fun _ => by kernel_rfl) (ix_in hx24).1 (ix_in hx24).2.1 (num_nil (hS13.view hv0))) ?_
     refine gx_v (.int .u8 x23) w12 (run_loadix rfl (by kernel_rfl) (fun _ => by kernel_rfl) (hS13.view hv0) hx24) ?_
     have hP25 : St _ _ w12 ([] ++ []) := hS13
     obtain ⟨b27, hc26, hL17⟩ := bind_in hL17
     try dsimp only at hL17
     refine gx_c (pTerm_R b27 w12) (pTerm_ok N x23 _ hc26 w12 ) ?_
     rintro _ w28 ⟨rfl, hT30⟩
     have hS29 : St _ _ w28 [] := hS13.take _ hT30
     refine gx_k (.bool b27) w28 ?_
     refine gx_nil ?_
     refine gx_thenN ?_
     refine hK21 _ _ ?_
     cases b27 with
     | true =>
      try dsimp only at hL17
      refine gx_yes (by kernel_rfl) ?_
      refine gx_pass ?_
      refine gx_thenN ?_
      refine hK19 _ _ ?_
      refine gx_block ?_
      refine gx_region ?_
      refine gx_k (.int .i64 x15) w28 (gx_k (.int .i64 (IntKind.i64.wrap (x15 + 1))) w28 (gx_k (.int .i64 (IntKind.i64.wrap (x15 + 1))) w28 ?_))
      refine gx_nil ?_
      refine gx_blkN ?_
      refine gx_thenN ?_
      exact ⟨k16, Nat.lt_succ_self k16, (IntKind.i64.wrap (x15 + 1)), selfA_i (by kernel_rfl), hL17, hS29⟩
     | false =>
      try dsimp only at hL17
      refine gx_no (by kernel_rfl) ?_
      refine gx_exit ?_
      refine gx_thenE ?_
      refine gx_thenE ?_
      refine gx_blkE ?_
      refine gx_thenN ?_
      exact ⟨x15, selfA_i (by kernel_rfl), (Option.some.inj hL17), hS29⟩
    ·refine gx_v (.bool false) w12 (run_boolE (decide_eq_false h22) (by kernel_rfl)) ?_
     refine gx_k (.bool false) w12 (gx_o (gx_o (gx_o (gx_o (gx_o (gx_o (gx_k (.bool false) w12 ?_)))))))
     refine gx_nil ?_
     refine gx_thenN ?_
     refine hK21 _ _ ?_
     refine gx_no (by kernel_rfl) ?_
     refine gx_exit ?_
     refine gx_thenE ?_
     refine gx_thenE ?_
     refine gx_blkE ?_
     refine gx_thenN ?_
     exact ⟨x15, selfA_i (by kernel_rfl), (Option.some.inj hL17), hS13⟩
 ·rintro _ w5 ⟨x8, hq34, rfl, hS6⟩
  obtain ⟨u7, rfl⟩ := selfA_u hq34
  try dsimp only at hO11
  refine gx_seq (fun K32 hK33 => ?_)
  refine gx_region ?_
  refine gx_k (.int .i64 x8) w5 (gx_k (.int .i64 x8) w5 ?_)
  refine gx_nil ?_
  refine gx_thenN ?_
  refine hK33 _ _ ?_
  refine gx_ret ?_
  obtain rfl := Option.some.inj hO11
  exact gx_fin (.int .i64 x8) (by kernel_rfl) (by kernel_rfl) ⟨_, rfl, rfl, hS6⟩

def pEndN_L1 (N : Nat) (p0 : List Int) : Nat → Int → Option (Int)
 | 0, _ => none
 | k16+1, x15 => (if x15 < ((p0.length : Nat) : Int) then ((ix p0 x15).bind fun x23 => ((pNeu N x23).bind fun b27 => (match b27 with | true => pEndN_L1 N p0 k16 (IntKind.i64.wrap (x15 + 1)) | false => some (x15)))) else some (x15))
def pEndN (N : Nat) (p0 : List Int) (p1 : Int) : Option (Int) :=
 ((pEndN_L1 N p0 N p1 : Option (Int)).bind fun x8 => some x8)

set_option linter.unusedVariables false in
def pEndN_R (r : Int) (w0 : World) (v : Value) (w : World) : Prop := v = .int .i64 r ∧ St [] w0 w []

set_option maxRecDepth 100000 in
set_option maxHeartbeats 4000000 in
theorem pEndN_ok (N : Nat) (p0 : List Int) (p1 : Int) (A0 : Option Addr) (c0 : Nat) (r : Int) (hF : pEndN N p0 p1 = some r) (w0 : World) (hv0 : Vw [] .u8 w0 A0 c0 p0) :
  Calls Try.prog 46 #[.slice A0 p0.length c0, .int .i64 p1, .func (.func 51) #[] #[]] w0 fun e w => ∃ v, e = .returned v ∧ pEndN_R r w0 v w := by
 have hS0 := St.start w0
 unfold pEndN at hF
 refine calls_of Try.func46 rfl ⟨((.slice A0 p0.length c0) :: (.int .i64 p1) :: (.func (.func 51) #[] #[]) :: un 21 ([])).toArray, []⟩ (by kernel_rfl) ?_
 refine gx_seq (fun K1 hK2 => ?_)
 refine gx_region ?_
 refine gx_k (.int .i64 0) w0 ?_
 refine gx_nil ?_
 refine gx_thenN ?_
 refine hK2 _ _ ?_
 refine gx_seq (fun K3 hK4 => ?_)
 refine gx_region ?_
 refine gx_k (.int .i64 p1) w0 (gx_k (.int .i64 p1) w0 ?_)
 refine gx_nil ?_
 refine gx_thenN ?_
 refine hK4 _ _ ?_
 obtain ⟨c9, hE10, hO11⟩ := bind_in hF
 refine gx_cut (fun a w => ∃ (x8 : Int), selfA (fun u7 => ⟨((u7 0) :: (.int .i64 p1) :: (.func (.func 51) #[] #[]) :: un 3 ((.int .i64 0) :: (.int .i64 x8) :: (.int .i64 p1) :: dd u7 9 14 (undef :: []))).toArray, []⟩) a ∧ x8 = c9 ∧ St [] w0 w []) ?_ ?_
 ·refine gx_block ?_
  refine gx_loop (fun k a w => ∃ (x15 : Int), selfA (fun u14 => ⟨((.slice A0 p0.length c0) :: (.int .i64 p1) :: (.func (.func 51) #[] #[]) :: un 3 ((.int .i64 0) :: (.int .i64 x15) :: (.int .i64 p1) :: dd u14 9 14 (undef :: []))).toArray, []⟩) a ∧ pEndN_L1 N p0 k x15 = some c9 ∧ St [] w0 w []) N ?_ ?_
  ·exact ⟨p1, selfA_i (by kernel_rfl), hE10, hS0⟩
  ·rintro k16 _ w12 ⟨x15, hq31, hL17, hS13⟩
   obtain ⟨u14, rfl⟩ := selfA_u hq31
   cases k16 with
   | zero => cases hL17
   | succ k16 =>
    first | rw [pEndN_L1] at hL17 | unfold pEndN_L1 at hL17
    refine gx_seq (fun K18 hK19 => ?_)
    refine gx_seq (fun K20 hK21 => ?_)
    refine gx_region ?_
    refine gx_k (.int .i64 x15) w12 (gx_k (.slice A0 p0.length c0) w12 (gx_k (.int .i64 ((p0.length : Nat) : Int)) w12 ?_))
    rcases if_in hL17 with ⟨h22, hL17⟩ | ⟨h22, hL17⟩
    ·refine gx_v (.bool true) w12 (run_boolE (decide_eq_true h22) (by kernel_rfl)) ?_
     refine gx_k (.bool true) w12 (gx_k (.func (.func 51) #[] #[]) w12 (gx_k (.slice A0 p0.length c0) w12 (gx_k (.int .i64 x15) w12 ?_)))
     obtain ⟨x23, hx24, hL17⟩ := bind_in hL17
     refine gx_v (.pointer (Option.map (fun (p : Addr) => p.add (Int.toNat x15 * 1)) A0)) w12 (run_ixaddr (E := 23) (s := 1) (k := .i64) (c := c0) rfl (by kernel_rfl) (by kernel_rfl) (by kernel_rfl) (fun _ => by kernel_rfl) (ix_in hx24).1 (ix_in hx24).2.1 (num_nil (hS13.view hv0))) ?_
     refine gx_v (.int .u8 x23) w12 (run_loadix rfl (by kernel_rfl) (fun _ => by kernel_rfl) (hS13.view hv0) hx24) ?_
     have hP25 : St _ _ w12 ([] ++ []) := hS13
     obtain ⟨b27, hc26, hL17⟩ := bind_in hL17
     try dsimp only at hL17
     refine gx_c (pNeu_R b27 w12) (pNeu_ok N x23 _ hc26 w12 ) ?_
     rintro _ w28 ⟨rfl, hT30⟩
     have hS29 : St _ _ w28 [] := hS13.take _ hT30
     refine gx_k (.bool b27) w28 ?_
     refine gx_nil ?_
     refine gx_thenN ?_
     refine hK21 _ _ ?_
     cases b27 with
     | true =>
      try dsimp only at hL17
      refine gx_yes (by kernel_rfl) ?_
      refine gx_pass ?_
      refine gx_thenN ?_
      refine hK19 _ _ ?_
      refine gx_block ?_
      refine gx_region ?_
      refine gx_k (.int .i64 x15) w28 (gx_k (.int .i64 (IntKind.i64.wrap (x15 + 1))) w28 (gx_k (.int .i64 (IntKind.i64.wrap (x15 + 1))) w28 ?_))
      refine gx_nil ?_
      refine gx_blkN ?_
      refine gx_thenN ?_
      exact ⟨k16, Nat.lt_succ_self k16, (IntKind.i64.wrap (x15 + 1)), selfA_i (by kernel_rfl), hL17, hS29⟩
     | false =>
      try dsimp only at hL17
      refine gx_no (by kernel_rfl) ?_
      refine gx_exit ?_
      refine gx_thenE ?_
      refine gx_thenE ?_
      refine gx_blkE ?_
      refine gx_thenN ?_
      exact ⟨x15, selfA_i (by kernel_rfl), (Option.some.inj hL17), hS29⟩
    ·refine gx_v (.bool false) w12 (run_boolE (decide_eq_false h22) (by kernel_rfl)) ?_
     refine gx_k (.bool false) w12 (gx_o (gx_o (gx_o (gx_o (gx_o (gx_o (gx_k (.bool false) w12 ?_)))))))
     refine gx_nil ?_
     refine gx_thenN ?_
     refine hK21 _ _ ?_
     refine gx_no (by kernel_rfl) ?_
     refine gx_exit ?_
     refine gx_thenE ?_
     refine gx_thenE ?_
     refine gx_blkE ?_
     refine gx_thenN ?_
     exact ⟨x15, selfA_i (by kernel_rfl), (Option.some.inj hL17), hS13⟩
 ·rintro _ w5 ⟨x8, hq34, rfl, hS6⟩
  obtain ⟨u7, rfl⟩ := selfA_u hq34
  try dsimp only at hO11
  refine gx_seq (fun K32 hK33 => ?_)
  refine gx_region ?_
  refine gx_k (.int .i64 x8) w5 (gx_k (.int .i64 x8) w5 ?_)
  refine gx_nil ?_
  refine gx_thenN ?_
  refine hK33 _ _ ?_
  refine gx_ret ?_
  obtain rfl := Option.some.inj hO11
  exact gx_fin (.int .i64 x8) (by kernel_rfl) (by kernel_rfl) ⟨_, rfl, rfl, hS6⟩

end Go.Proofs.Ytdpcaidhpccaiaa
