/-
  The document's weak rules, walked.
-/
import Derived.Test.YtdpcaidhpccaiaaGs
namespace Go.Proofs.Ytdpcaidhpccaiaa
open Go Go.RowKit
set_option linter.unusedVariables false

def rIso (_N : Nat) (p0 : Int) : Option (Bool) :=
 (if p0 ≥ 20 then some (decide (p0 ≤ 23)) else some false)

set_option linter.unusedVariables false in
def rIso_R (r : Bool) (w0 : World) (v : Value) (w : World) : Prop := v = .bool r ∧ St [] w0 w []

set_option maxRecDepth 100000 in
set_option maxHeartbeats 4000000 in
theorem rIso_ok (N : Nat) (p0 : Int)  (r : Bool) (hF : rIso N p0 = some r) (w0 : World)  :
  Calls Try.prog 50 #[.int .u8 p0] w0 fun e w => ∃ v, e = .returned v ∧ rIso_R r w0 v w := by
 have hS0 := St.start w0
 unfold rIso at hF
 refine calls_of Try.func50 rfl ⟨((.int .u8 p0) :: un 8 ([])).toArray, []⟩ (by kernel_rfl) ?_
 refine gx_seq (fun K1 hK2 => ?_)
 refine gx_region ?_
 refine gx_k (.bool false) w0 ?_
 refine gx_nil ?_
 refine gx_thenN ?_
 refine hK2 _ _ ?_
 refine gx_seq (fun K3 hK4 => ?_)
 refine gx_region ?_
 refine gx_k (.int .u8 p0) w0 ?_
 rcases if_in hF with ⟨h5, hF⟩ | ⟨h5, hF⟩
 ·refine gx_v (.bool true) w0 (run_boolE (decide_eq_true h5) (by kernel_rfl)) ?_
  refine gx_k (.bool true) w0 (gx_k (.int .u8 p0) w0 (gx_k (.bool (decide (p0 ≤ 23))) w0 (gx_k (.bool (decide (p0 ≤ 23))) w0 (gx_k (.bool (decide (p0 ≤ 23))) w0 ?_))))
  refine gx_nil ?_
  refine gx_thenN ?_
  refine hK4 _ _ ?_
  refine gx_ret ?_
  obtain rfl := Option.some.inj hF
  exact gx_fin (.bool (decide (p0 ≤ 23))) (by kernel_rfl) (by kernel_rfl) ⟨_, rfl, rfl, hS0⟩
 ·refine gx_v (.bool false) w0 (run_boolE (decide_eq_false h5) (by kernel_rfl)) ?_
  refine gx_k (.bool false) w0 (gx_o (gx_o (gx_k (.bool false) w0 (gx_k (.bool false) w0 ?_))))
  refine gx_nil ?_
  refine gx_thenN ?_
  refine hK4 _ _ ?_
  refine gx_ret ?_
  obtain rfl := Option.some.inj hF
  exact gx_fin (.bool false) (by kernel_rfl) (by kernel_rfl) ⟨_, rfl, rfl, hS0⟩

def rNeu (_N : Nat) (p0 : Int) : Option (Bool) :=
 (((if p0 ≥ 11 then (if p0 ≤ 14 then some (true) else some (false)) else some (false)) : Option (Bool)).bind fun b8 => (match b8 with | true => some true | false => (if p0 ≥ 20 then some (decide (p0 ≤ 23)) else some false)))

set_option linter.unusedVariables false in
def rNeu_R (r : Bool) (w0 : World) (v : Value) (w : World) : Prop := v = .bool r ∧ St [] w0 w []

set_option maxRecDepth 100000 in
set_option maxHeartbeats 4000000 in
theorem rNeu_ok (N : Nat) (p0 : Int)  (r : Bool) (hF : rNeu N p0 = some r) (w0 : World)  :
  Calls Try.prog 26 #[.int .u8 p0] w0 fun e w => ∃ v, e = .returned v ∧ rNeu_R r w0 v w := by
 have hS0 := St.start w0
 unfold rNeu at hF
 refine calls_of Try.func26 rfl ⟨((.int .u8 p0) :: un 16 ([])).toArray, []⟩ (by kernel_rfl) ?_
 refine gx_seq (fun K1 hK2 => ?_)
 refine gx_region ?_
 refine gx_k (.bool false) w0 ?_
 refine gx_nil ?_
 refine gx_thenN ?_
 refine hK2 _ _ ?_
 refine gx_seq (fun K3 hK4 => ?_)
 refine gx_region ?_
 refine gx_k (.int .u8 p0) w0 ?_
 obtain ⟨c9, hE10, hO11⟩ := bind_in hF
 refine gx_part (l1 := [_, _, _, _, _]) (fun a w => ∃ (b8 : Bool), selfA (fun u7 => ⟨((.int .u8 p0) :: undef :: (.bool false) :: (.int .u8 p0) :: dd u7 4 4 ((.bool b8) :: un 8 ([]))).toArray, []⟩) a ∧ b8 = c9 ∧ St [] w0 w []) rfl ?_ ?_
 ·rcases if_in hE10 with ⟨h13, hE10⟩ | ⟨h13, hE10⟩
  ·refine gx_v (.bool true) w0 (run_boolE (decide_eq_true h13) (by kernel_rfl)) ?_
   refine gx_k (.bool true) w0 (gx_k (.int .u8 p0) w0 ?_)
   rcases if_in hE10 with ⟨h14, hE10⟩ | ⟨h14, hE10⟩
   ·refine gx_v (.bool true) w0 (run_boolE (decide_eq_true h14) (by kernel_rfl)) ?_
    refine gx_k (.bool true) w0 ?_
    refine gx_nil ?_
    refine gx_thenN ?_
    exact ⟨true, selfA_i (by kernel_rfl), (Option.some.inj hE10), hS0⟩
   ·refine gx_v (.bool false) w0 (run_boolE (decide_eq_false h14) (by kernel_rfl)) ?_
    refine gx_k (.bool false) w0 ?_
    refine gx_nil ?_
    refine gx_thenN ?_
    exact ⟨false, selfA_i (by kernel_rfl), (Option.some.inj hE10), hS0⟩
  ·refine gx_v (.bool false) w0 (run_boolE (decide_eq_false h13) (by kernel_rfl)) ?_
   refine gx_k (.bool false) w0 (gx_o (gx_o (gx_k (.bool false) w0 ?_)))
   refine gx_nil ?_
   refine gx_thenN ?_
   exact ⟨false, selfA_i (by kernel_rfl), (Option.some.inj hE10), hS0⟩
 ·rintro _ w5 ⟨b8, hq12, rfl, hS6⟩
  obtain ⟨u7, rfl⟩ := selfA_u hq12
  try dsimp only at hO11
  refine gx_k (.bool b8) w5 ?_
  cases b8 with
  | true =>
   try dsimp only at hO11
   refine gx_o (gx_o (gx_o (gx_o (gx_o (gx_o (gx_k (.bool true) w5 (gx_k (.bool true) w5 ?_)))))))
   refine gx_nil ?_
   refine gx_thenN ?_
   refine hK4 _ _ ?_
   refine gx_ret ?_
   obtain rfl := Option.some.inj hO11
   exact gx_fin (.bool true) (by kernel_rfl) (by kernel_rfl) ⟨_, rfl, rfl, hS6⟩
  | false =>
   try dsimp only at hO11
   refine gx_k (.int .u8 p0) w5 ?_
   rcases if_in hO11 with ⟨h15, hO11⟩ | ⟨h15, hO11⟩
   ·refine gx_v (.bool true) w5 (run_boolE (decide_eq_true h15) (by kernel_rfl)) ?_
    refine gx_k (.bool true) w5 (gx_k (.int .u8 p0) w5 (gx_k (.bool (decide (p0 ≤ 23))) w5 (gx_k (.bool (decide (p0 ≤ 23))) w5 (gx_k (.bool (decide (p0 ≤ 23))) w5 (gx_k (.bool (decide (p0 ≤ 23))) w5 ?_)))))
    refine gx_nil ?_
    refine gx_thenN ?_
    refine hK4 _ _ ?_
    refine gx_ret ?_
    obtain rfl := Option.some.inj hO11
    exact gx_fin (.bool (decide (p0 ≤ 23))) (by kernel_rfl) (by kernel_rfl) ⟨_, rfl, rfl, hS6⟩
   ·refine gx_v (.bool false) w5 (run_boolE (decide_eq_false h15) (by kernel_rfl)) ?_
    refine gx_k (.bool false) w5 (gx_o (gx_o (gx_k (.bool false) w5 (gx_k (.bool false) w5 (gx_k (.bool false) w5 ?_)))))
    refine gx_nil ?_
    refine gx_thenN ?_
    refine hK4 _ _ ?_
    refine gx_ret ?_
    obtain rfl := Option.some.inj hO11
    exact gx_fin (.bool false) (by kernel_rfl) (by kernel_rfl) ⟨_, rfl, rfl, hS6⟩

def rSide (_N : Nat) (p0 : Int) : Option (Int) :=
 (if p0 = 1 then some 1 else (if p0 = 2 then some 2 else (if p0 = 4 then some 2 else (if p0 = 7 then some 2 else some 0))))

set_option linter.unusedVariables false in
def rSide_R (r : Int) (w0 : World) (v : Value) (w : World) : Prop := v = .int .u8 r ∧ St [] w0 w []

set_option maxRecDepth 100000 in
set_option maxHeartbeats 4000000 in
theorem rSide_ok (N : Nat) (p0 : Int)  (r : Int) (hF : rSide N p0 = some r) (w0 : World)  :
  Calls Try.prog 41 #[.int .u8 p0] w0 fun e w => ∃ v, e = .returned v ∧ rSide_R r w0 v w := by
 have hS0 := St.start w0
 unfold rSide at hF
 refine calls_of Try.func41 rfl ⟨((.int .u8 p0) :: un 9 ([])).toArray, []⟩ (by kernel_rfl) ?_
 refine gx_seq (fun K1 hK2 => ?_)
 refine gx_region ?_
 refine gx_k (.int .u8 0) w0 ?_
 refine gx_nil ?_
 refine gx_thenN ?_
 refine hK2 _ _ ?_
 refine gx_seq (fun K3 hK4 => ?_)
 refine gx_seq (fun K5 hK6 => ?_)
 refine gx_region ?_
 refine gx_k (.int .u8 p0) w0 ?_
 refine gx_nil ?_
 refine gx_thenN ?_
 refine hK6 _ _ ?_
 refine gx_block ?_
 refine gx_seq (fun K7 hK8 => ?_)
 refine gx_region ?_
 rcases if_in hF with ⟨h9, hF⟩ | ⟨h9, hF⟩
 ·refine gx_v (.bool true) w0 (run_boolE (decide_eq_true h9) (by kernel_rfl)) ?_
  refine gx_k (.bool true) w0 ?_
  refine gx_nil ?_
  refine gx_thenN ?_
  refine hK8 _ _ ?_
  refine gx_yes (by kernel_rfl) ?_
  refine gx_seq (fun K10 hK11 => ?_)
  refine gx_region ?_
  refine gx_k (.int .u8 1) w0 ?_
  refine gx_nil ?_
  refine gx_thenN ?_
  refine hK11 _ _ ?_
  refine gx_ret ?_
  refine gx_blkR ?_
  refine gx_thenR ?_
  obtain rfl := Option.some.inj hF
  exact gx_fin (.int .u8 1) (by kernel_rfl) (by kernel_rfl) ⟨_, rfl, rfl, hS0⟩
 ·refine gx_v (.bool false) w0 (run_boolE (decide_eq_false h9) (by kernel_rfl)) ?_
  refine gx_k (.bool false) w0 ?_
  refine gx_nil ?_
  refine gx_thenN ?_
  refine hK8 _ _ ?_
  refine gx_no (by kernel_rfl) ?_
  refine gx_seq (fun K12 hK13 => ?_)
  refine gx_seq (fun K14 hK15 => ?_)
  refine gx_region ?_
  rcases if_in hF with ⟨h16, hF⟩ | ⟨h16, hF⟩
  ·refine gx_v (.bool true) w0 (run_boolE (decide_eq_true h16) (by kernel_rfl)) ?_
   refine gx_k (.bool true) w0 ?_
   refine gx_nil ?_
   refine gx_thenN ?_
   refine hK15 _ _ ?_
   refine gx_yes (by kernel_rfl) ?_
   refine gx_pass ?_
   refine gx_thenN ?_
   refine hK13 _ _ ?_
   refine gx_yes (by kernel_rfl) ?_
   refine gx_seq (fun K17 hK18 => ?_)
   refine gx_region ?_
   refine gx_k (.int .u8 2) w0 ?_
   refine gx_nil ?_
   refine gx_thenN ?_
   refine hK18 _ _ ?_
   refine gx_ret ?_
   refine gx_blkR ?_
   refine gx_thenR ?_
   obtain rfl := Option.some.inj hF
   exact gx_fin (.int .u8 2) (by kernel_rfl) (by kernel_rfl) ⟨_, rfl, rfl, hS0⟩
  ·refine gx_v (.bool false) w0 (run_boolE (decide_eq_false h16) (by kernel_rfl)) ?_
   refine gx_k (.bool false) w0 ?_
   refine gx_nil ?_
   refine gx_thenN ?_
   refine hK15 _ _ ?_
   refine gx_no (by kernel_rfl) ?_
   refine gx_seq (fun K19 hK20 => ?_)
   refine gx_region ?_
   rcases if_in hF with ⟨h21, hF⟩ | ⟨h21, hF⟩
   ·refine gx_v (.bool true) w0 (run_boolE (decide_eq_true h21) (by kernel_rfl)) ?_
    refine gx_k (.bool true) w0 ?_
    refine gx_nil ?_
    refine gx_thenN ?_
    refine hK20 _ _ ?_
    refine gx_yes (by kernel_rfl) ?_
    refine gx_pass ?_
    refine gx_thenN ?_
    refine hK13 _ _ ?_
    refine gx_yes (by kernel_rfl) ?_
    refine gx_seq (fun K22 hK23 => ?_)
    refine gx_region ?_
    refine gx_k (.int .u8 2) w0 ?_
    refine gx_nil ?_
    refine gx_thenN ?_
    refine hK23 _ _ ?_
    refine gx_ret ?_
    refine gx_blkR ?_
    refine gx_thenR ?_
    obtain rfl := Option.some.inj hF
    exact gx_fin (.int .u8 2) (by kernel_rfl) (by kernel_rfl) ⟨_, rfl, rfl, hS0⟩
   ·refine gx_v (.bool false) w0 (run_boolE (decide_eq_false h21) (by kernel_rfl)) ?_
    refine gx_k (.bool false) w0 ?_
    refine gx_nil ?_
    refine gx_thenN ?_
    refine hK20 _ _ ?_
    refine gx_no (by kernel_rfl) ?_
    refine gx_region ?_
    rcases if_in hF with ⟨h24, hF⟩ | ⟨h24, hF⟩
    ·refine gx_v (.bool true) w0 (run_boolE (decide_eq_true h24) (by kernel_rfl)) ?_
     refine gx_k (.bool true) w0 ?_
     refine gx_nil ?_
     refine gx_thenN ?_
     refine hK13 _ _ ?_
     refine gx_yes (by kernel_rfl) ?_
     refine gx_seq (fun K25 hK26 => ?_)
     refine gx_region ?_
     refine gx_k (.int .u8 2) w0 ?_
     refine gx_nil ?_
     refine gx_thenN ?_
     refine hK26 _ _ ?_
     refine gx_ret ?_
     refine gx_blkR ?_
     refine gx_thenR ?_
     obtain rfl := Option.some.inj hF
     exact gx_fin (.int .u8 2) (by kernel_rfl) (by kernel_rfl) ⟨_, rfl, rfl, hS0⟩
    ·refine gx_v (.bool false) w0 (run_boolE (decide_eq_false h24) (by kernel_rfl)) ?_
     refine gx_k (.bool false) w0 ?_
     refine gx_nil ?_
     refine gx_thenN ?_
     refine hK13 _ _ ?_
     refine gx_no (by kernel_rfl) ?_
     refine gx_pass ?_
     refine gx_blkN ?_
     refine gx_thenN ?_
     refine hK4 _ _ ?_
     refine gx_seq (fun K27 hK28 => ?_)
     refine gx_region ?_
     refine gx_k (.int .u8 0) w0 ?_
     refine gx_nil ?_
     refine gx_thenN ?_
     refine hK28 _ _ ?_
     refine gx_ret ?_
     obtain rfl := Option.some.inj hF
     exact gx_fin (.int .u8 0) (by kernel_rfl) (by kernel_rfl) ⟨_, rfl, rfl, hS0⟩

def rEnds (_N : Nat) (p0 : Int) : Option (Int) :=
 (if p0 = 2 then some 2 else some 1)

set_option linter.unusedVariables false in
def rEnds_R (r : Int) (w0 : World) (v : Value) (w : World) : Prop := v = .int .u8 r ∧ St [] w0 w []

set_option maxRecDepth 100000 in
set_option maxHeartbeats 4000000 in
theorem rEnds_ok (N : Nat) (p0 : Int)  (r : Int) (hF : rEnds N p0 = some r) (w0 : World)  :
  Calls Try.prog 40 #[.int .u8 p0] w0 fun e w => ∃ v, e = .returned v ∧ rEnds_R r w0 v w := by
 have hS0 := St.start w0
 unfold rEnds at hF
 refine calls_of Try.func40 rfl ⟨((.int .u8 p0) :: un 4 ([])).toArray, []⟩ (by kernel_rfl) ?_
 refine gx_seq (fun K1 hK2 => ?_)
 refine gx_region ?_
 refine gx_k (.int .u8 0) w0 ?_
 refine gx_nil ?_
 refine gx_thenN ?_
 refine hK2 _ _ ?_
 refine gx_seq (fun K3 hK4 => ?_)
 refine gx_seq (fun K5 hK6 => ?_)
 refine gx_region ?_
 refine gx_k (.int .u8 p0) w0 ?_
 rcases if_in hF with ⟨h7, hF⟩ | ⟨h7, hF⟩
 ·refine gx_v (.bool true) w0 (run_boolE (decide_eq_true h7) (by kernel_rfl)) ?_
  refine gx_nil ?_
  refine gx_thenN ?_
  refine hK6 _ _ ?_
  refine gx_yes (by kernel_rfl) ?_
  refine gx_seq (fun K8 hK9 => ?_)
  refine gx_region ?_
  refine gx_k (.int .u8 2) w0 ?_
  refine gx_nil ?_
  refine gx_thenN ?_
  refine hK9 _ _ ?_
  refine gx_ret ?_
  refine gx_thenR ?_
  obtain rfl := Option.some.inj hF
  exact gx_fin (.int .u8 2) (by kernel_rfl) (by kernel_rfl) ⟨_, rfl, rfl, hS0⟩
 ·refine gx_v (.bool false) w0 (run_boolE (decide_eq_false h7) (by kernel_rfl)) ?_
  refine gx_nil ?_
  refine gx_thenN ?_
  refine hK6 _ _ ?_
  refine gx_no (by kernel_rfl) ?_
  refine gx_pass ?_
  refine gx_thenN ?_
  refine hK4 _ _ ?_
  refine gx_seq (fun K10 hK11 => ?_)
  refine gx_region ?_
  refine gx_k (.int .u8 1) w0 ?_
  refine gx_nil ?_
  refine gx_thenN ?_
  refine hK11 _ _ ?_
  refine gx_ret ?_
  obtain rfl := Option.some.inj hF
  exact gx_fin (.int .u8 1) (by kernel_rfl) (by kernel_rfl) ⟨_, rfl, rfl, hS0⟩

def rW1_L1 (N : Nat) (p0 : List Int) : Nat → (List Int) → Int → Int → Option (List Int)
 | 0, _, _, _ => none
 | k12+1, l9, x10, x11 => (if x11 < ((p0.length : Nat) : Int) then ((((ix l9 x11).bind fun x31 => (if x31 = 9 then ((ix l9 x11).bind fun _x34 => ((setx l9 x11 x10).bind fun l38 => some (l38))) else some (l9))) : Option (List Int)).bind fun l25 => ((ix l25 x11).bind fun x42 => ((rIso N x42).bind fun b48 => (match b48 with | true => rW1_L1 N p0 k12 l25 14 (IntKind.i64.wrap (x11 + 1)) | false => rW1_L1 N p0 k12 l25 x42 (IntKind.i64.wrap (x11 + 1)))))) else some l9)
def rW1 (N : Nat) (p0 : List Int) (p1 : Int) : Option (List Int) :=
 rW1_L1 N p0 N p0 p1 0

set_option linter.unusedVariables false in
def rW1_R (p0 : List Int) (p1 : Int) (A0 : Option Addr) (c0 : Nat) (r : List Int) (w0 : World) (v : Value) (w : World) : Prop := v = .tuple #[] ∧ St (foots [rowE .u8 23 A0 c0 p0]) w0 w [rowE .u8 23 A0 c0 r] ∧ r.length = p0.length

set_option maxRecDepth 100000 in
set_option maxHeartbeats 4000000 in
theorem rW1_ok (N : Nat) (p0 : List Int) (p1 : Int) (A0 : Option Addr) (c0 : Nat) (r : List Int) (hF : rW1 N p0 p1 = some r) (w0 : World) (hl : St (foots [rowE .u8 23 A0 c0 p0]) w0 w0 [rowE .u8 23 A0 c0 p0]) :
  Calls Try.prog 33 #[.slice A0 p0.length c0, .int .u8 p1] w0 fun e w => ∃ v, e = .returned v ∧ rW1_R p0 p1 A0 c0 r w0 v w := by
 have hS0 := hl
 unfold rW1 at hF
 refine calls_of Try.func33 rfl ⟨((.slice A0 p0.length c0) :: (.int .u8 p1) :: un 26 ([])).toArray, []⟩ (by kernel_rfl) ?_
 refine gx_seq (fun K1 hK2 => ?_)
 refine gx_region ?_
 refine gx_k (.int .u8 p1) w0 (gx_k (.int .u8 p1) w0 ?_)
 refine gx_nil ?_
 refine gx_thenN ?_
 refine hK2 _ _ ?_
 refine gx_seq (fun K3 hK4 => ?_)
 refine gx_region ?_
 refine gx_k (.int .i64 0) w0 ?_
 refine gx_nil ?_
 refine gx_thenN ?_
 refine hK4 _ _ ?_
 refine gx_block ?_
 refine gx_loop (fun k a w => ∃ (l9 : List Int) (x10 : Int) (x11 : Int), selfA (fun u7 => ⟨((.slice A0 p0.length c0) :: (.int .u8 p1) :: undef :: undef :: (.int .u8 x10) :: (.int .i64 x11) :: (.int .u8 p1) :: dd u7 7 21 ([])).toArray, []⟩) a ∧ rW1_L1 N p0 k l9 x10 x11 = some r ∧ St (foots [rowE .u8 23 A0 c0 p0]) w0 w [rowE .u8 23 A0 c0 l9] ∧ p0.length = l9.length) N ?_ ?_
 ·exact ⟨p0, p1, 0, selfA_i (by kernel_rfl), hF, hS0, rfl⟩
 ·rintro k12 _ w5 ⟨l9, x10, x11, hq53, hL13, hS6, hn8⟩
  obtain ⟨u7, rfl⟩ := selfA_u hq53
  cases k12 with
  | zero => cases hL13
  | succ k12 =>
   first | rw [rW1_L1] at hL13 | unfold rW1_L1 at hL13
   refine gx_seq (fun K14 hK15 => ?_)
   refine gx_seq (fun K16 hK17 => ?_)
   refine gx_region ?_
   refine gx_k (.int .i64 x11) w5 (gx_k (.slice A0 p0.length c0) w5 (gx_k (.int .i64 ((p0.length : Nat) : Int)) w5 ?_))
   rcases if_in hL13 with ⟨h18, hL13⟩ | ⟨h18, hL13⟩
   ·refine gx_v (.bool true) w5 (run_boolE (decide_eq_true h18) (by kernel_rfl)) ?_
    refine gx_nil ?_
    refine gx_thenN ?_
    refine hK17 _ _ ?_
    refine gx_yes (by kernel_rfl) ?_
    refine gx_pass ?_
    refine gx_thenN ?_
    refine hK15 _ _ ?_
    refine gx_seq (fun K19 hK20 => ?_)
    refine gx_block ?_
    obtain ⟨c26, hE27, hO28⟩ := bind_in hL13
    refine gx_cut (fun a w => ∃ (l25 : List Int), selfA (fun u23 => ⟨((.slice A0 p0.length c0) :: (.int .u8 p1) :: undef :: undef :: (.int .u8 x10) :: (.int .i64 x11) :: (.int .u8 p1) :: (.int .i64 x11) :: (u23 8) :: (.int .i64 ((p0.length : Nat) : Int)) :: (.bool true) :: dd u7 11 2 (dd u23 13 9 (dd u7 22 6 ([])))).toArray, []⟩) a ∧ l25 = c26 ∧ St (foots [rowE .u8 23 A0 c0 p0]) w0 w [rowE .u8 23 A0 c0 l25] ∧ p0.length = l25.length) ?_ ?_
    ·refine gx_seq (fun K29 hK30 => ?_)
     refine gx_region ?_
     refine gx_k (.slice A0 p0.length c0) w5 (gx_k (.int .i64 x11) w5 ?_)
     obtain ⟨x31, hx32, hE27⟩ := bind_in hE27
     refine gx_v (.pointer (Option.map (fun (p : Addr) => p.add (Int.toNat x11 * 1)) A0)) w5 (run_ixaddr (E := 23) (s := 1) (k := .i64) (c := c0) rfl (by kernel_rfl) (by kernel_rfl) (by kernel_rfl) (fun _ => by kernel_rfl) (ix_in hx32).1 (lt_len hn8 (ix_in hx32).2.1) (nil_len hn8 (num_nil (hS6.row 0 rfl).1))) ?_
     refine gx_v (.int .u8 x31) w5 (run_loadix rfl (by kernel_rfl) (fun _ => by kernel_rfl) (hS6.row 0 rfl).1 hx32) ?_
     rcases if_in hE27 with ⟨h33, hE27⟩ | ⟨h33, hE27⟩
     ·refine gx_v (.bool true) w5 (run_boolE (decide_eq_true h33) (by kernel_rfl)) ?_
      refine gx_nil ?_
      refine gx_thenN ?_
      refine hK30 _ _ ?_
      refine gx_yes (by kernel_rfl) ?_
      refine gx_region ?_
      refine gx_k (.slice A0 p0.length c0) w5 (gx_k (.int .i64 x11) w5 (gx_k (.int .u8 x10) w5 ?_))
      obtain ⟨x34, hx35, hE27⟩ := bind_in hE27
      refine gx_v (.pointer (Option.map (fun (p : Addr) => p.add (Int.toNat x11 * 1)) A0)) w5 (run_ixaddr (E := 23) (s := 1) (k := .i64) (c := c0) rfl (by kernel_rfl) (by kernel_rfl) (by kernel_rfl) (fun _ => by kernel_rfl) (ix_in hx35).1 (lt_len hn8 (ix_in hx35).2.1) (nil_len hn8 (num_nil (hS6.row 0 rfl).1))) ?_
      obtain ⟨l38, hx39, hE27⟩ := bind_in hE27
      refine gx_s (st_storeix rfl (by kernel_rfl) (by kernel_rfl) (fun _ => by kernel_rfl) hS6 0 rfl hx39) ?_
      rintro w36 hS37
      have hS37 : St _ _ w36 [rowE .u8 23 A0 c0 l38] := hS37
      refine gx_nil ?_
      refine gx_thenN ?_
      exact ⟨l38, selfA_i (by kernel_rfl), (Option.some.inj hE27), hS37, (hn8.trans (setx_len hx39).symm)⟩
     ·refine gx_v (.bool false) w5 (run_boolE (decide_eq_false h33) (by kernel_rfl)) ?_
      refine gx_nil ?_
      refine gx_thenN ?_
      refine hK30 _ _ ?_
      refine gx_no (by kernel_rfl) ?_
      refine gx_pass ?_
      refine gx_thenN ?_
      exact ⟨l9, selfA_i (by kernel_rfl), (Option.some.inj hE27), hS6, hn8⟩
    ·rintro _ w21 ⟨l25, hq52, rfl, hS22, hn24⟩
     obtain ⟨u23, rfl⟩ := selfA_u hq52
     try dsimp only at hO28
     refine gx_seq (fun K40 hK41 => ?_)
     refine gx_region ?_
     refine gx_k (.slice A0 p0.length c0) w21 (gx_k (.int .i64 x11) w21 ?_)
     obtain ⟨x42, hx43, hO28⟩ := bind_in hO28
     refine gx_v (.pointer (Option.map (fun (p : Addr) => p.add (Int.toNat x11 * 1)) A0)) w21 (run_ixaddr (E := 23) (s := 1) (k := .i64) (c := c0) rfl (by kernel_rfl) (by kernel_rfl) (by kernel_rfl) (fun _ => by kernel_rfl) (ix_in hx43).1 (lt_len hn24 (ix_in hx43).2.1) (nil_len hn24 (num_nil (hS22.row 0 rfl).1))) ?_
     refine gx_v (.int .u8 x42) w21 (run_loadix rfl (by kernel_rfl) (fun _ => by kernel_rfl) (hS22.row 0 rfl).1 hx43) ?_
     refine gx_k (.int .u8 x42) w21 ?_
     refine gx_nil ?_
     refine gx_thenN ?_
     refine hK41 _ _ ?_
     refine gx_seq (fun K44 hK45 => ?_)
     refine gx_region ?_
     refine gx_k (.int .u8 x42) w21 ?_
     have hP46 : St _ _ w21 ([] ++ [rowE .u8 23 A0 c0 l25]) := hS22
     obtain ⟨b48, hc47, hO28⟩ := bind_in hO28
     try dsimp only at hO28
     refine gx_c (rIso_R b48 w21) (rIso_ok N x42 _ hc47 w21 ) ?_
     rintro _ w49 ⟨rfl, hT51⟩
     have hS50 : St _ _ w49 [rowE .u8 23 A0 c0 l25] := hS22.take _ hT51
     refine gx_nil ?_
     refine gx_thenN ?_
     refine hK45 _ _ ?_
     cases b48 with
     | true =>
      try dsimp only at hO28
      refine gx_yes (by kernel_rfl) ?_
      refine gx_region ?_
      refine gx_k (.int .u8 14) w49 ?_
      refine gx_nil ?_
      refine gx_blkN ?_
      refine gx_thenN ?_
      refine hK20 _ _ ?_
      refine gx_region ?_
      refine gx_k (.int .i64 x11) w49 (gx_k (.int .i64 (IntKind.i64.wrap (x11 + 1))) w49 (gx_k (.int .i64 (IntKind.i64.wrap (x11 + 1))) w49 ?_))
      refine gx_nil ?_
      refine gx_thenN ?_
      exact ⟨k12, Nat.lt_succ_self k12, l25, 14, (IntKind.i64.wrap (x11 + 1)), selfA_i (by kernel_rfl), hO28, hS50, hn24⟩
     | false =>
      try dsimp only at hO28
      refine gx_no (by kernel_rfl) ?_
      refine gx_pass ?_
      refine gx_blkN ?_
      refine gx_thenN ?_
      refine hK20 _ _ ?_
      refine gx_region ?_
      refine gx_k (.int .i64 x11) w49 (gx_k (.int .i64 (IntKind.i64.wrap (x11 + 1))) w49 (gx_k (.int .i64 (IntKind.i64.wrap (x11 + 1))) w49 ?_))
      refine gx_nil ?_
      refine gx_thenN ?_
      exact ⟨k12, Nat.lt_succ_self k12, l25, x42, (IntKind.i64.wrap (x11 + 1)), selfA_i (by kernel_rfl), hO28, hS50, hn24⟩
   ·refine gx_v (.bool false) w5 (run_boolE (decide_eq_false h18) (by kernel_rfl)) ?_
    refine gx_nil ?_
    refine gx_thenN ?_
    refine hK17 _ _ ?_
    refine gx_no (by kernel_rfl) ?_
    refine gx_exit ?_
    refine gx_thenE ?_
    refine gx_thenE ?_
    refine gx_blkE ?_
    obtain rfl := Option.some.inj hL13
    exact gx_finN (.tuple #[]) (by kernel_rfl) (by kernel_rfl) ⟨_, rfl, rfl, hS6, (hn8).symm⟩

def rW2_L1 (N : Nat) (p0 : List Int) : Nat → (List Int) → Int → Int → Option (List Int)
 | 0, _, _, _ => none
 | k20+1, l17, x18, x19 => (if x19 < ((p0.length : Nat) : Int) then ((ix l17 x19).bind fun x31 => (((if x31 = 1 then some (true) else (if x31 = 2 then some (true) else (if x31 = 3 then some (true) else some (false)))) : Option (Bool)).bind fun b36 => (match b36 with | true => ((ix l17 x19).bind fun x47 => rW2_L1 N p0 k20 l17 x47 (IntKind.i64.wrap (x19 + 1))) | false => (if x31 = 4 then (if x18 = 3 then ((ix l17 x19).bind fun _x55 => ((setx l17 x19 7).bind fun l59 => rW2_L1 N p0 k20 l59 x18 (IntKind.i64.wrap (x19 + 1)))) else rW2_L1 N p0 k20 l17 x18 (IntKind.i64.wrap (x19 + 1))) else rW2_L1 N p0 k20 l17 x18 (IntKind.i64.wrap (x19 + 1)))))) else some (l17))
def rW2_L2 (N : Nat) (p0 : List Int) : Nat → (List Int) → Int → Option (List Int)
 | 0, _, _ => none
 | k71+1, l69, x70 => (if x70 < ((p0.length : Nat) : Int) then ((ix l69 x70).bind fun x82 => (if x82 = 3 then ((ix l69 x70).bind fun _x85 => ((setx l69 x70 2).bind fun l89 => rW2_L2 N p0 k71 l89 (IntKind.i64.wrap (x70 + 1)))) else rW2_L2 N p0 k71 l69 (IntKind.i64.wrap (x70 + 1)))) else some l69)
def rW2 (N : Nat) (p0 : List Int) (p1 : Int) : Option (List Int) :=
 ((rW2_L1 N p0 N p0 p1 0 : Option (List Int)).bind fun l7 => rW2_L2 N p0 N l7 0)

set_option linter.unusedVariables false in
def rW2_R (p0 : List Int) (p1 : Int) (A0 : Option Addr) (c0 : Nat) (r : List Int) (w0 : World) (v : Value) (w : World) : Prop := v = .tuple #[] ∧ St (foots [rowE .u8 23 A0 c0 p0]) w0 w [rowE .u8 23 A0 c0 r] ∧ r.length = p0.length

set_option maxRecDepth 100000 in
set_option maxHeartbeats 4000000 in
theorem rW2_ok (N : Nat) (p0 : List Int) (p1 : Int) (A0 : Option Addr) (c0 : Nat) (r : List Int) (hF : rW2 N p0 p1 = some r) (w0 : World) (hl : St (foots [rowE .u8 23 A0 c0 p0]) w0 w0 [rowE .u8 23 A0 c0 p0]) :
  Calls Try.prog 34 #[.slice A0 p0.length c0, .int .u8 p1] w0 fun e w => ∃ v, e = .returned v ∧ rW2_R p0 p1 A0 c0 r w0 v w := by
 have hS0 := hl
 unfold rW2 at hF
 refine calls_of Try.func34 rfl ⟨((.slice A0 p0.length c0) :: (.int .u8 p1) :: un 45 ([])).toArray, []⟩ (by kernel_rfl) ?_
 refine gx_seq (fun K1 hK2 => ?_)
 refine gx_region ?_
 refine gx_k (.int .u8 p1) w0 (gx_k (.int .u8 p1) w0 ?_)
 refine gx_nil ?_
 refine gx_thenN ?_
 refine hK2 _ _ ?_
 obtain ⟨c8, hE9, hO10⟩ := bind_in hF
 refine gx_cut (fun a w => ∃ (l7 : List Int), selfA (fun u5 => ⟨((.slice A0 p0.length c0) :: (.int .u8 p1) :: undef :: undef :: dd u5 4 2 (undef :: (.int .u8 p1) :: dd u5 8 25 (un 14 ([])))).toArray, []⟩) a ∧ l7 = c8 ∧ St (foots [rowE .u8 23 A0 c0 p0]) w0 w [rowE .u8 23 A0 c0 l7] ∧ p0.length = l7.length) ?_ ?_
 ·refine gx_seq (fun K11 hK12 => ?_)
  refine gx_region ?_
  refine gx_k (.int .i64 0) w0 ?_
  refine gx_nil ?_
  refine gx_thenN ?_
  refine hK12 _ _ ?_
  refine gx_block ?_
  refine gx_loop (fun k a w => ∃ (l17 : List Int) (x18 : Int) (x19 : Int), selfA (fun u15 => ⟨((.slice A0 p0.length c0) :: (.int .u8 p1) :: undef :: undef :: (.int .u8 x18) :: (.int .i64 x19) :: undef :: (.int .u8 p1) :: dd u15 8 25 (un 14 ([]))).toArray, []⟩) a ∧ rW2_L1 N p0 k l17 x18 x19 = some c8 ∧ St (foots [rowE .u8 23 A0 c0 p0]) w0 w [rowE .u8 23 A0 c0 l17] ∧ p0.length = l17.length) N ?_ ?_
  ·exact ⟨p0, p1, 0, selfA_i (by kernel_rfl), hE9, hS0, rfl⟩
  ·rintro k20 _ w13 ⟨l17, x18, x19, hq62, hL21, hS14, hn16⟩
   obtain ⟨u15, rfl⟩ := selfA_u hq62
   cases k20 with
   | zero => cases hL21
   | succ k20 =>
    first | rw [rW2_L1] at hL21 | unfold rW2_L1 at hL21
    refine gx_seq (fun K22 hK23 => ?_)
    refine gx_seq (fun K24 hK25 => ?_)
    refine gx_region ?_
    refine gx_k (.int .i64 x19) w13 (gx_k (.slice A0 p0.length c0) w13 (gx_k (.int .i64 ((p0.length : Nat) : Int)) w13 ?_))
    rcases if_in hL21 with ⟨h26, hL21⟩ | ⟨h26, hL21⟩
    ·refine gx_v (.bool true) w13 (run_boolE (decide_eq_true h26) (by kernel_rfl)) ?_
     refine gx_nil ?_
     refine gx_thenN ?_
     refine hK25 _ _ ?_
     refine gx_yes (by kernel_rfl) ?_
     refine gx_pass ?_
     refine gx_thenN ?_
     refine hK23 _ _ ?_
     refine gx_seq (fun K27 hK28 => ?_)
     refine gx_block ?_
     refine gx_seq (fun K29 hK30 => ?_)
     refine gx_region ?_
     refine gx_k (.slice A0 p0.length c0) w13 (gx_k (.int .i64 x19) w13 ?_)
     obtain ⟨x31, hx32, hL21⟩ := bind_in hL21
     refine gx_v (.pointer (Option.map (fun (p : Addr) => p.add (Int.toNat x19 * 1)) A0)) w13 (run_ixaddr (E := 23) (s := 1) (k := .i64) (c := c0) rfl (by kernel_rfl) (by kernel_rfl) (by kernel_rfl) (fun _ => by kernel_rfl) (ix_in hx32).1 (lt_len hn16 (ix_in hx32).2.1) (nil_len hn16 (num_nil (hS14.row 0 rfl).1))) ?_
     refine gx_v (.int .u8 x31) w13 (run_loadix rfl (by kernel_rfl) (fun _ => by kernel_rfl) (hS14.row 0 rfl).1 hx32) ?_
     refine gx_nil ?_
     refine gx_thenN ?_
     refine hK30 _ _ ?_
     refine gx_block ?_
     obtain ⟨c37, hE38, hO39⟩ := bind_in hL21
     refine gx_cut (fun a w => ∃ (b36 : Bool), selfA (fun u35 => ⟨((.slice A0 p0.length c0) :: (.int .u8 p1) :: undef :: undef :: (.int .u8 x18) :: (.int .i64 x19) :: undef :: (.int .u8 p1) :: (.int .i64 x19) :: (u35 9) :: (.int .i64 ((p0.length : Nat) : Int)) :: (.bool true) :: dd u15 12 2 ((u35 14) :: (.int .i64 x19) :: (.pointer (Option.map (fun (p : Addr) => p.add (Int.toNat x19 * 1)) A0)) :: (.int .u8 x31) :: (.bool b36) :: dd u35 19 3 (dd u15 22 11 (un 14 ([]))))).toArray, []⟩) a ∧ b36 = c37 ∧ St (foots [rowE .u8 23 A0 c0 p0]) w0 w [rowE .u8 23 A0 c0 l17]) ?_ ?_
     ·refine gx_seq (fun K40 hK41 => ?_)
      refine gx_region ?_
      rcases if_in hE38 with ⟨h42, hE38⟩ | ⟨h42, hE38⟩
      ·refine gx_v (.bool true) w13 (run_boolE (decide_eq_true h42) (by kernel_rfl)) ?_
       refine gx_k (.bool true) w13 ?_
       refine gx_nil ?_
       refine gx_thenN ?_
       refine hK41 _ _ ?_
       refine gx_yes (by kernel_rfl) ?_
       refine gx_pass ?_
       refine gx_thenN ?_
       exact ⟨true, selfA_i (by kernel_rfl), (Option.some.inj hE38), hS14⟩
      ·refine gx_v (.bool false) w13 (run_boolE (decide_eq_false h42) (by kernel_rfl)) ?_
       refine gx_k (.bool false) w13 ?_
       refine gx_nil ?_
       refine gx_thenN ?_
       refine hK41 _ _ ?_
       refine gx_no (by kernel_rfl) ?_
       refine gx_seq (fun K43 hK44 => ?_)
       refine gx_region ?_
       rcases if_in hE38 with ⟨h45, hE38⟩ | ⟨h45, hE38⟩
       ·refine gx_v (.bool true) w13 (run_boolE (decide_eq_true h45) (by kernel_rfl)) ?_
        refine gx_k (.bool true) w13 ?_
        refine gx_nil ?_
        refine gx_thenN ?_
        refine hK44 _ _ ?_
        refine gx_yes (by kernel_rfl) ?_
        refine gx_pass ?_
        refine gx_thenN ?_
        exact ⟨true, selfA_i (by kernel_rfl), (Option.some.inj hE38), hS14⟩
       ·refine gx_v (.bool false) w13 (run_boolE (decide_eq_false h45) (by kernel_rfl)) ?_
        refine gx_k (.bool false) w13 ?_
        refine gx_nil ?_
        refine gx_thenN ?_
        refine hK44 _ _ ?_
        refine gx_no (by kernel_rfl) ?_
        refine gx_region ?_
        rcases if_in hE38 with ⟨h46, hE38⟩ | ⟨h46, hE38⟩
        ·refine gx_v (.bool true) w13 (run_boolE (decide_eq_true h46) (by kernel_rfl)) ?_
         refine gx_k (.bool true) w13 ?_
         refine gx_nil ?_
         refine gx_thenN ?_
         exact ⟨true, selfA_i (by kernel_rfl), (Option.some.inj hE38), hS14⟩
        ·refine gx_v (.bool false) w13 (run_boolE (decide_eq_false h46) (by kernel_rfl)) ?_
         refine gx_k (.bool false) w13 ?_
         refine gx_nil ?_
         refine gx_thenN ?_
         exact ⟨false, selfA_i (by kernel_rfl), (Option.some.inj hE38), hS14⟩
     ·rintro _ w33 ⟨b36, hq61, rfl, hS34⟩
      obtain ⟨u35, rfl⟩ := selfA_u hq61
      try dsimp only at hO39
      cases b36 with
      | true =>
       try dsimp only at hO39
       refine gx_yes (by kernel_rfl) ?_
       refine gx_region ?_
       refine gx_k (.slice A0 p0.length c0) w33 (gx_k (.int .i64 x19) w33 ?_)
       obtain ⟨x47, hx48, hO39⟩ := bind_in hO39
       refine gx_v (.pointer (Option.map (fun (p : Addr) => p.add (Int.toNat x19 * 1)) A0)) w33 (run_ixaddr (E := 23) (s := 1) (k := .i64) (c := c0) rfl (by kernel_rfl) (by kernel_rfl) (by kernel_rfl) (fun _ => by kernel_rfl) (ix_in hx48).1 (lt_len hn16 (ix_in hx48).2.1) (nil_len hn16 (num_nil (hS34.row 0 rfl).1))) ?_
       refine gx_v (.int .u8 x47) w33 (run_loadix rfl (by kernel_rfl) (fun _ => by kernel_rfl) (hS34.row 0 rfl).1 hx48) ?_
       refine gx_k (.int .u8 x47) w33 ?_
       refine gx_nil ?_
       refine gx_blkN ?_
       refine gx_blkN ?_
       refine gx_thenN ?_
       refine hK28 _ _ ?_
       refine gx_region ?_
       refine gx_k (.int .i64 x19) w33 (gx_k (.int .i64 (IntKind.i64.wrap (x19 + 1))) w33 (gx_k (.int .i64 (IntKind.i64.wrap (x19 + 1))) w33 ?_))
       refine gx_nil ?_
       refine gx_thenN ?_
       exact ⟨k20, Nat.lt_succ_self k20, l17, x47, (IntKind.i64.wrap (x19 + 1)), selfA_i (by kernel_rfl), hO39, hS34, hn16⟩
      | false =>
       try dsimp only at hO39
       refine gx_no (by kernel_rfl) ?_
       refine gx_seq (fun K49 hK50 => ?_)
       refine gx_region ?_
       rcases if_in hO39 with ⟨h51, hO39⟩ | ⟨h51, hO39⟩
       ·refine gx_v (.bool true) w33 (run_boolE (decide_eq_true h51) (by kernel_rfl)) ?_
        refine gx_k (.bool true) w33 ?_
        refine gx_nil ?_
        refine gx_thenN ?_
        refine hK50 _ _ ?_
        refine gx_yes (by kernel_rfl) ?_
        refine gx_seq (fun K52 hK53 => ?_)
        refine gx_region ?_
        refine gx_k (.int .u8 x18) w33 ?_
        rcases if_in hO39 with ⟨h54, hO39⟩ | ⟨h54, hO39⟩
        ·refine gx_v (.bool true) w33 (run_boolE (decide_eq_true h54) (by kernel_rfl)) ?_
         refine gx_nil ?_
         refine gx_thenN ?_
         refine hK53 _ _ ?_
         refine gx_yes (by kernel_rfl) ?_
         refine gx_region ?_
         refine gx_k (.slice A0 p0.length c0) w33 (gx_k (.int .i64 x19) w33 ?_)
         obtain ⟨x55, hx56, hO39⟩ := bind_in hO39
         refine gx_v (.pointer (Option.map (fun (p : Addr) => p.add (Int.toNat x19 * 1)) A0)) w33 (run_ixaddr (E := 23) (s := 1) (k := .i64) (c := c0) rfl (by kernel_rfl) (by kernel_rfl) (by kernel_rfl) (fun _ => by kernel_rfl) (ix_in hx56).1 (lt_len hn16 (ix_in hx56).2.1) (nil_len hn16 (num_nil (hS34.row 0 rfl).1))) ?_
         obtain ⟨l59, hx60, hO39⟩ := bind_in hO39
         refine gx_s (st_storeix rfl (by kernel_rfl) (by kernel_rfl) (fun _ => by kernel_rfl) hS34 0 rfl hx60) ?_
         rintro w57 hS58
         have hS58 : St _ _ w57 [rowE .u8 23 A0 c0 l59] := hS58
         refine gx_nil ?_
         refine gx_blkN ?_
         refine gx_blkN ?_
         refine gx_thenN ?_
         refine hK28 _ _ ?_
         refine gx_region ?_
         refine gx_k (.int .i64 x19) w57 (gx_k (.int .i64 (IntKind.i64.wrap (x19 + 1))) w57 (gx_k (.int .i64 (IntKind.i64.wrap (x19 + 1))) w57 ?_))
         refine gx_nil ?_
         refine gx_thenN ?_
         exact ⟨k20, Nat.lt_succ_self k20, l59, x18, (IntKind.i64.wrap (x19 + 1)), selfA_i (by kernel_rfl), hO39, hS58, (hn16.trans (setx_len hx60).symm)⟩
        ·refine gx_v (.bool false) w33 (run_boolE (decide_eq_false h54) (by kernel_rfl)) ?_
         refine gx_nil ?_
         refine gx_thenN ?_
         refine hK53 _ _ ?_
         refine gx_no (by kernel_rfl) ?_
         refine gx_pass ?_
         refine gx_blkN ?_
         refine gx_blkN ?_
         refine gx_thenN ?_
         refine hK28 _ _ ?_
         refine gx_region ?_
         refine gx_k (.int .i64 x19) w33 (gx_k (.int .i64 (IntKind.i64.wrap (x19 + 1))) w33 (gx_k (.int .i64 (IntKind.i64.wrap (x19 + 1))) w33 ?_))
         refine gx_nil ?_
         refine gx_thenN ?_
         exact ⟨k20, Nat.lt_succ_self k20, l17, x18, (IntKind.i64.wrap (x19 + 1)), selfA_i (by kernel_rfl), hO39, hS34, hn16⟩
       ·refine gx_v (.bool false) w33 (run_boolE (decide_eq_false h51) (by kernel_rfl)) ?_
        refine gx_k (.bool false) w33 ?_
        refine gx_nil ?_
        refine gx_thenN ?_
        refine hK50 _ _ ?_
        refine gx_no (by kernel_rfl) ?_
        refine gx_pass ?_
        refine gx_blkN ?_
        refine gx_blkN ?_
        refine gx_thenN ?_
        refine hK28 _ _ ?_
        refine gx_region ?_
        refine gx_k (.int .i64 x19) w33 (gx_k (.int .i64 (IntKind.i64.wrap (x19 + 1))) w33 (gx_k (.int .i64 (IntKind.i64.wrap (x19 + 1))) w33 ?_))
        refine gx_nil ?_
        refine gx_thenN ?_
        exact ⟨k20, Nat.lt_succ_self k20, l17, x18, (IntKind.i64.wrap (x19 + 1)), selfA_i (by kernel_rfl), hO39, hS34, hn16⟩
    ·refine gx_v (.bool false) w13 (run_boolE (decide_eq_false h26) (by kernel_rfl)) ?_
     refine gx_nil ?_
     refine gx_thenN ?_
     refine hK25 _ _ ?_
     refine gx_no (by kernel_rfl) ?_
     refine gx_exit ?_
     refine gx_thenE ?_
     refine gx_thenE ?_
     refine gx_blkE ?_
     refine gx_thenN ?_
     exact ⟨l17, selfA_i (by kernel_rfl), (Option.some.inj hL21), hS14, hn16⟩
 ·rintro _ w3 ⟨l7, hq92, rfl, hS4, hn6⟩
  obtain ⟨u5, rfl⟩ := selfA_u hq92
  try dsimp only at hO10
  refine gx_seq (fun K63 hK64 => ?_)
  refine gx_region ?_
  refine gx_k (.int .i64 0) w3 ?_
  refine gx_nil ?_
  refine gx_thenN ?_
  refine hK64 _ _ ?_
  refine gx_block ?_
  refine gx_loop (fun k a w => ∃ (l69 : List Int) (x70 : Int), selfA (fun u67 => ⟨((.slice A0 p0.length c0) :: (.int .u8 p1) :: undef :: undef :: dd u5 4 2 ((.int .i64 x70) :: (.int .u8 p1) :: dd u5 8 25 (dd u67 33 14 ([])))).toArray, []⟩) a ∧ rW2_L2 N p0 k l69 x70 = some r ∧ St (foots [rowE .u8 23 A0 c0 p0]) w0 w [rowE .u8 23 A0 c0 l69] ∧ p0.length = l69.length) N ?_ ?_
  ·exact ⟨l7, 0, selfA_i (by kernel_rfl), hO10, hS4, hn6⟩
  ·rintro k71 _ w65 ⟨l69, x70, hq91, hL72, hS66, hn68⟩
   obtain ⟨u67, rfl⟩ := selfA_u hq91
   cases k71 with
   | zero => cases hL72
   | succ k71 =>
    first | rw [rW2_L2] at hL72 | unfold rW2_L2 at hL72
    refine gx_seq (fun K73 hK74 => ?_)
    refine gx_seq (fun K75 hK76 => ?_)
    refine gx_region ?_
    refine gx_k (.int .i64 x70) w65 (gx_k (.slice A0 p0.length c0) w65 (gx_k (.int .i64 ((p0.length : Nat) : Int)) w65 ?_))
    rcases if_in hL72 with ⟨h77, hL72⟩ | ⟨h77, hL72⟩
    ·refine gx_v (.bool true) w65 (run_boolE (decide_eq_true h77) (by kernel_rfl)) ?_
     refine gx_nil ?_
     refine gx_thenN ?_
     refine hK76 _ _ ?_
     refine gx_yes (by kernel_rfl) ?_
     refine gx_pass ?_
     refine gx_thenN ?_
     refine hK74 _ _ ?_
     refine gx_seq (fun K78 hK79 => ?_)
     refine gx_block ?_
     refine gx_seq (fun K80 hK81 => ?_)
     refine gx_region ?_
     refine gx_k (.slice A0 p0.length c0) w65 (gx_k (.int .i64 x70) w65 ?_)
     obtain ⟨x82, hx83, hL72⟩ := bind_in hL72
     refine gx_v (.pointer (Option.map (fun (p : Addr) => p.add (Int.toNat x70 * 1)) A0)) w65 (run_ixaddr (E := 23) (s := 1) (k := .i64) (c := c0) rfl (by kernel_rfl) (by kernel_rfl) (by kernel_rfl) (fun _ => by kernel_rfl) (ix_in hx83).1 (lt_len hn68 (ix_in hx83).2.1) (nil_len hn68 (num_nil (hS66.row 0 rfl).1))) ?_
     refine gx_v (.int .u8 x82) w65 (run_loadix rfl (by kernel_rfl) (fun _ => by kernel_rfl) (hS66.row 0 rfl).1 hx83) ?_
     rcases if_in hL72 with ⟨h84, hL72⟩ | ⟨h84, hL72⟩
     ·refine gx_v (.bool true) w65 (run_boolE (decide_eq_true h84) (by kernel_rfl)) ?_
      refine gx_nil ?_
      refine gx_thenN ?_
      refine hK81 _ _ ?_
      refine gx_yes (by kernel_rfl) ?_
      refine gx_region ?_
      refine gx_k (.slice A0 p0.length c0) w65 (gx_k (.int .i64 x70) w65 ?_)
      obtain ⟨x85, hx86, hL72⟩ := bind_in hL72
      refine gx_v (.pointer (Option.map (fun (p : Addr) => p.add (Int.toNat x70 * 1)) A0)) w65 (run_ixaddr (E := 23) (s := 1) (k := .i64) (c := c0) rfl (by kernel_rfl) (by kernel_rfl) (by kernel_rfl) (fun _ => by kernel_rfl) (ix_in hx86).1 (lt_len hn68 (ix_in hx86).2.1) (nil_len hn68 (num_nil (hS66.row 0 rfl).1))) ?_
      obtain ⟨l89, hx90, hL72⟩ := bind_in hL72
      refine gx_s (st_storeix rfl (by kernel_rfl) (by kernel_rfl) (fun _ => by kernel_rfl) hS66 0 rfl hx90) ?_
      rintro w87 hS88
      have hS88 : St _ _ w87 [rowE .u8 23 A0 c0 l89] := hS88
      refine gx_nil ?_
      refine gx_blkN ?_
      refine gx_thenN ?_
      refine hK79 _ _ ?_
      refine gx_region ?_
      refine gx_k (.int .i64 x70) w87 (gx_k (.int .i64 (IntKind.i64.wrap (x70 + 1))) w87 (gx_k (.int .i64 (IntKind.i64.wrap (x70 + 1))) w87 ?_))
      refine gx_nil ?_
      refine gx_thenN ?_
      exact ⟨k71, Nat.lt_succ_self k71, l89, (IntKind.i64.wrap (x70 + 1)), selfA_i (by kernel_rfl), hL72, hS88, (hn68.trans (setx_len hx90).symm)⟩
     ·refine gx_v (.bool false) w65 (run_boolE (decide_eq_false h84) (by kernel_rfl)) ?_
      refine gx_nil ?_
      refine gx_thenN ?_
      refine hK81 _ _ ?_
      refine gx_no (by kernel_rfl) ?_
      refine gx_pass ?_
      refine gx_blkN ?_
      refine gx_thenN ?_
      refine hK79 _ _ ?_
      refine gx_region ?_
      refine gx_k (.int .i64 x70) w65 (gx_k (.int .i64 (IntKind.i64.wrap (x70 + 1))) w65 (gx_k (.int .i64 (IntKind.i64.wrap (x70 + 1))) w65 ?_))
      refine gx_nil ?_
      refine gx_thenN ?_
      exact ⟨k71, Nat.lt_succ_self k71, l69, (IntKind.i64.wrap (x70 + 1)), selfA_i (by kernel_rfl), hL72, hS66, hn68⟩
    ·refine gx_v (.bool false) w65 (run_boolE (decide_eq_false h77) (by kernel_rfl)) ?_
     refine gx_nil ?_
     refine gx_thenN ?_
     refine hK76 _ _ ?_
     refine gx_no (by kernel_rfl) ?_
     refine gx_exit ?_
     refine gx_thenE ?_
     refine gx_thenE ?_
     refine gx_blkE ?_
     obtain rfl := Option.some.inj hL72
     exact gx_finN (.tuple #[]) (by kernel_rfl) (by kernel_rfl) ⟨_, rfl, rfl, hS66, (hn68).symm⟩

def rW4_L1 (N : Nat) (p0 : List Int) : Nat → (List Int) → Int → Option (List Int)
 | 0, _, _ => none
 | k9+1, l7, x8 => (if (IntKind.i64.wrap (x8 + 1)) < ((p0.length : Nat) : Int) then ((ix l7 (IntKind.i64.wrap (x8 - 1))).bind fun x22 => ((ix l7 (IntKind.i64.wrap (x8 + 1))).bind fun x24 => (if x22 = x24 then (((if x22 = 4 then ((ix l7 x8).bind fun x38 => (((if x38 = 5 then some (true) else ((ix l7 x8).bind fun x49 => (if x49 = 8 then some (true) else some (false)))) : Option (Bool)).bind fun b43 => some (b43))) else some (false)) : Option (Bool)).bind fun b32 => (match b32 with | true => ((ix l7 x8).bind fun _x52 => ((setx l7 x8 x22).bind fun l56 => rW4_L1 N p0 k9 l56 (IntKind.i64.wrap (x8 + 1)))) | false => (if x22 = 7 then ((ix l7 x8).bind fun x59 => (if x59 = 8 then ((ix l7 x8).bind fun _x62 => ((setx l7 x8 x22).bind fun l66 => rW4_L1 N p0 k9 l66 (IntKind.i64.wrap (x8 + 1)))) else rW4_L1 N p0 k9 l7 (IntKind.i64.wrap (x8 + 1)))) else rW4_L1 N p0 k9 l7 (IntKind.i64.wrap (x8 + 1))))) else rW4_L1 N p0 k9 l7 (IntKind.i64.wrap (x8 + 1))))) else some l7)
def rW4 (N : Nat) (p0 : List Int) : Option (List Int) :=
 rW4_L1 N p0 N p0 1

set_option linter.unusedVariables false in
def rW4_R (p0 : List Int) (A0 : Option Addr) (c0 : Nat) (r : List Int) (w0 : World) (v : Value) (w : World) : Prop := v = .tuple #[] ∧ St (foots [rowE .u8 23 A0 c0 p0]) w0 w [rowE .u8 23 A0 c0 r] ∧ r.length = p0.length

set_option maxRecDepth 100000 in
set_option maxHeartbeats 4000000 in
theorem rW4_ok (N : Nat) (p0 : List Int) (A0 : Option Addr) (c0 : Nat) (r : List Int) (hF : rW4 N p0 = some r) (w0 : World) (hl : St (foots [rowE .u8 23 A0 c0 p0]) w0 w0 [rowE .u8 23 A0 c0 p0]) :
  Calls Try.prog 35 #[.slice A0 p0.length c0] w0 fun e w => ∃ v, e = .returned v ∧ rW4_R p0 A0 c0 r w0 v w := by
 have hS0 := hl
 unfold rW4 at hF
 refine calls_of Try.func35 rfl ⟨((.slice A0 p0.length c0) :: un 57 ([])).toArray, []⟩ (by kernel_rfl) ?_
 refine gx_seq (fun K1 hK2 => ?_)
 refine gx_region ?_
 refine gx_k (.int .i64 1) w0 ?_
 refine gx_nil ?_
 refine gx_thenN ?_
 refine hK2 _ _ ?_
 refine gx_block ?_
 refine gx_loop (fun k a w => ∃ (l7 : List Int) (x8 : Int), selfA (fun u5 => ⟨((.slice A0 p0.length c0) :: undef :: (.int .i64 x8) :: dd u5 3 55 ([])).toArray, []⟩) a ∧ rW4_L1 N p0 k l7 x8 = some r ∧ St (foots [rowE .u8 23 A0 c0 p0]) w0 w [rowE .u8 23 A0 c0 l7] ∧ p0.length = l7.length) N ?_ ?_
 ·exact ⟨p0, 1, selfA_i (by kernel_rfl), hF, hS0, rfl⟩
 ·rintro k9 _ w3 ⟨l7, x8, hq68, hL10, hS4, hn6⟩
  obtain ⟨u5, rfl⟩ := selfA_u hq68
  cases k9 with
  | zero => cases hL10
  | succ k9 =>
   first | rw [rW4_L1] at hL10 | unfold rW4_L1 at hL10
   refine gx_seq (fun K11 hK12 => ?_)
   refine gx_seq (fun K13 hK14 => ?_)
   refine gx_region ?_
   refine gx_k (.int .i64 x8) w3 (gx_k (.int .i64 (IntKind.i64.wrap (x8 + 1))) w3 (gx_k (.slice A0 p0.length c0) w3 (gx_k (.int .i64 ((p0.length : Nat) : Int)) w3 ?_)))
   rcases if_in hL10 with ⟨h15, hL10⟩ | ⟨h15, hL10⟩
   ·refine gx_v (.bool true) w3 (run_boolE (decide_eq_true h15) (by kernel_rfl)) ?_
    refine gx_nil ?_
    refine gx_thenN ?_
    refine hK14 _ _ ?_
    refine gx_yes (by kernel_rfl) ?_
    refine gx_pass ?_
    refine gx_thenN ?_
    refine hK12 _ _ ?_
    refine gx_seq (fun K16 hK17 => ?_)
    refine gx_block ?_
    refine gx_seq (fun K18 hK19 => ?_)
    refine gd_start (fun w => St (foots [rowE .u8 23 A0 c0 p0]) w0 w [rowE .u8 23 A0 c0 l7]) 12 #[false, false, false, false, false, false, false, false, false, false, false, false] (by kernel_rfl) (by kernel_rfl) ?_
    have hS21 := hS4.drew
    generalize w3.drew = w20 at hS21 ⊢
    refine gd1 0 { dst := some 12, op := _, type := _, pos := _, after := _, guard := _ } (.slice A0 p0.length c0) rfl hS21 (fun w hSw => by kernel_rfl) ?_
    refine gd1 1 { dst := some 13, op := _, type := _, pos := _, after := _, guard := _ } (.int .i64 x8) rfl hS21 (fun w hSw => by kernel_rfl) ?_
    refine gd1 2 { dst := some 14, op := _, type := _, pos := _, after := _, guard := _ } (.int .i64 (IntKind.i64.wrap (x8 - 1))) rfl hS21 (fun w hSw => by kernel_rfl) ?_
    obtain ⟨x22, hx23, hL10⟩ := bind_in hL10
    refine gd1 3 { dst := some 15, op := _, type := _, pos := _, after := _, guard := _ } (.pointer (Option.map (fun (p : Addr) => p.add (Int.toNat (IntKind.i64.wrap (x8 - 1)) * 1)) A0)) rfl hS21 (fun w hSw => run_ixaddr (E := 23) (s := 1) (k := .i64) (c := c0) rfl (by kernel_rfl) (by kernel_rfl) (by kernel_rfl) (fun _ => by kernel_rfl) (ix_in hx23).1 (lt_len hn6 (ix_in hx23).2.1) (nil_len hn6 (num_nil (hS21.row 0 rfl).1))) ?_
    refine gd1 4 { dst := some 16, op := _, type := _, pos := _, after := _, guard := _ } (.int .u8 x22) rfl hS21 (fun w hSw => run_loadix rfl (by kernel_rfl) (fun _ => by kernel_rfl) (hSw.row 0 rfl).1 hx23) ?_
    refine gd1 5 { dst := some 17, op := _, type := _, pos := _, after := _, guard := _ } (.slice A0 p0.length c0) rfl hS21 (fun w hSw => by kernel_rfl) ?_
    refine gd1 6 { dst := some 18, op := _, type := _, pos := _, after := _, guard := _ } (.int .i64 x8) rfl hS21 (fun w hSw => by kernel_rfl) ?_
    refine gd1 7 { dst := some 19, op := _, type := _, pos := _, after := _, guard := _ } (.int .i64 (IntKind.i64.wrap (x8 + 1))) rfl hS21 (fun w hSw => by kernel_rfl) ?_
    obtain ⟨x24, hx25, hL10⟩ := bind_in hL10
    refine gd1 8 { dst := some 20, op := _, type := _, pos := _, after := _, guard := _ } (.pointer (Option.map (fun (p : Addr) => p.add (Int.toNat (IntKind.i64.wrap (x8 + 1)) * 1)) A0)) rfl hS21 (fun w hSw => run_ixaddr (E := 23) (s := 1) (k := .i64) (c := c0) rfl (by kernel_rfl) (by kernel_rfl) (by kernel_rfl) (fun _ => by kernel_rfl) (ix_in hx25).1 (lt_len hn6 (ix_in hx25).2.1) (nil_len hn6 (num_nil (hS21.row 0 rfl).1))) ?_
    refine gd1 9 { dst := some 21, op := _, type := _, pos := _, after := _, guard := _ } (.int .u8 x24) rfl hS21 (fun w hSw => run_loadix rfl (by kernel_rfl) (fun _ => by kernel_rfl) (hSw.row 0 rfl).1 hx25) ?_
    refine gd1 10 { dst := some 3, op := _, type := _, pos := _, after := _, guard := _ } (.int .u8 x22) rfl hS21 (fun w hSw => by kernel_rfl) ?_
    refine gd1 11 { dst := some 4, op := _, type := _, pos := _, after := _, guard := _ } (.int .u8 x24) rfl hS21 (fun w hSw => by kernel_rfl) ?_
    refine gd_done (by kernel_rfl) ?_
    refine gx_thenN ?_
    refine hK19 _ _ ?_
    refine gx_seq (fun K26 hK27 => ?_)
    refine gx_region ?_
    refine gx_k (.int .u8 x22) w20 (gx_k (.int .u8 x24) w20 ?_)
    rcases if_in hL10 with ⟨h28, hL10⟩ | ⟨h28, hL10⟩
    ·refine gx_v (.bool true) w20 (run_boolE (decide_eq_true h28) (by kernel_rfl)) ?_
     refine gx_k (.bool true) w20 (gx_k (.int .u8 x22) w20 ?_)
     obtain ⟨c33, hE34, hO35⟩ := bind_in hL10
     refine gx_part (l1 := [_, _, _, _, _, _, _, _, _, _, _, _, _, _, _]) (fun a w => ∃ (b32 : Bool), selfA (fun u31 => ⟨((.slice A0 p0.length c0) :: undef :: (.int .i64 x8) :: (.int .u8 x22) :: (.int .u8 x24) :: (.int .i64 x8) :: (.int .i64 (IntKind.i64.wrap (x8 + 1))) :: (u31 7) :: (.int .i64 ((p0.length : Nat) : Int)) :: (.bool true) :: dd u5 10 2 ((u31 12) :: (.int .i64 x8) :: (.int .i64 (IntKind.i64.wrap (x8 - 1))) :: (.pointer (Option.map (fun (p : Addr) => p.add (Int.toNat (IntKind.i64.wrap (x8 - 1)) * 1)) A0)) :: (.int .u8 x22) :: (u31 17) :: (.int .i64 x8) :: (.int .i64 (IntKind.i64.wrap (x8 + 1))) :: (.pointer (Option.map (fun (p : Addr) => p.add (Int.toNat (IntKind.i64.wrap (x8 + 1)) * 1)) A0)) :: (.int .u8 x24) :: (.int .u8 x22) :: (.int .u8 x24) :: (.bool true) :: (.bool true) :: (.int .u8 x22) :: dd u31 27 14 ((.bool b32) :: dd u5 42 16 ([])))).toArray, []⟩) a ∧ b32 = c33 ∧ St (foots [rowE .u8 23 A0 c0 p0]) w0 w [rowE .u8 23 A0 c0 l7]) rfl ?_ ?_
     ·rcases if_in hE34 with ⟨h37, hE34⟩ | ⟨h37, hE34⟩
      ·refine gx_v (.bool true) w20 (run_boolE (decide_eq_true h37) (by kernel_rfl)) ?_
       refine gx_k (.bool true) w20 (gx_k (.slice A0 p0.length c0) w20 (gx_k (.int .i64 x8) w20 ?_))
       obtain ⟨x38, hx39, hE34⟩ := bind_in hE34
       refine gx_v (.pointer (Option.map (fun (p : Addr) => p.add (Int.toNat x8 * 1)) A0)) w20 (run_ixaddr (E := 23) (s := 1) (k := .i64) (c := c0) rfl (by kernel_rfl) (by kernel_rfl) (by kernel_rfl) (fun _ => by kernel_rfl) (ix_in hx39).1 (lt_len hn6 (ix_in hx39).2.1) (nil_len hn6 (num_nil (hS21.row 0 rfl).1))) ?_
       refine gx_v (.int .u8 x38) w20 (run_loadix rfl (by kernel_rfl) (fun _ => by kernel_rfl) (hS21.row 0 rfl).1 hx39) ?_
       obtain ⟨c44, hE45, hO46⟩ := bind_in hE34
       refine gx_part (l1 := [_, _, _, _, _, _, _, _]) (fun a w => ∃ (b43 : Bool), selfA (fun u42 => ⟨((.slice A0 p0.length c0) :: undef :: (.int .i64 x8) :: (.int .u8 x22) :: (.int .u8 x24) :: (.int .i64 x8) :: (.int .i64 (IntKind.i64.wrap (x8 + 1))) :: (u42 7) :: (.int .i64 ((p0.length : Nat) : Int)) :: (.bool true) :: dd u5 10 2 ((u42 12) :: (.int .i64 x8) :: (.int .i64 (IntKind.i64.wrap (x8 - 1))) :: (.pointer (Option.map (fun (p : Addr) => p.add (Int.toNat (IntKind.i64.wrap (x8 - 1)) * 1)) A0)) :: (.int .u8 x22) :: (u42 17) :: (.int .i64 x8) :: (.int .i64 (IntKind.i64.wrap (x8 + 1))) :: (.pointer (Option.map (fun (p : Addr) => p.add (Int.toNat (IntKind.i64.wrap (x8 + 1)) * 1)) A0)) :: (.int .u8 x24) :: (.int .u8 x22) :: (.int .u8 x24) :: (.bool true) :: (.bool true) :: (.int .u8 x22) :: (.bool true) :: (.bool true) :: (u42 29) :: (.int .i64 x8) :: (.pointer (Option.map (fun (p : Addr) => p.add (Int.toNat x8 * 1)) A0)) :: (.int .u8 x38) :: dd u42 33 7 ((.bool b43) :: dd u5 41 17 ([])))).toArray, []⟩) a ∧ b43 = c44 ∧ St (foots [rowE .u8 23 A0 c0 p0]) w0 w [rowE .u8 23 A0 c0 l7]) rfl ?_ ?_
       ·rcases if_in hE45 with ⟨h48, hE45⟩ | ⟨h48, hE45⟩
        ·refine gx_v (.bool true) w20 (run_boolE (decide_eq_true h48) (by kernel_rfl)) ?_
         refine gx_k (.bool true) w20 (gx_o (gx_o (gx_o (gx_o (gx_o (gx_k (.bool true) w20 ?_))))))
         refine gx_nil ?_
         refine gx_thenN ?_
         exact ⟨true, selfA_i (by kernel_rfl), (Option.some.inj hE45), hS21⟩
        ·refine gx_v (.bool false) w20 (run_boolE (decide_eq_false h48) (by kernel_rfl)) ?_
         refine gx_k (.bool false) w20 (gx_k (.slice A0 p0.length c0) w20 (gx_k (.int .i64 x8) w20 ?_))
         obtain ⟨x49, hx50, hE45⟩ := bind_in hE45
         refine gx_v (.pointer (Option.map (fun (p : Addr) => p.add (Int.toNat x8 * 1)) A0)) w20 (run_ixaddr (E := 23) (s := 1) (k := .i64) (c := c0) rfl (by kernel_rfl) (by kernel_rfl) (by kernel_rfl) (fun _ => by kernel_rfl) (ix_in hx50).1 (lt_len hn6 (ix_in hx50).2.1) (nil_len hn6 (num_nil (hS21.row 0 rfl).1))) ?_
         refine gx_v (.int .u8 x49) w20 (run_loadix rfl (by kernel_rfl) (fun _ => by kernel_rfl) (hS21.row 0 rfl).1 hx50) ?_
         rcases if_in hE45 with ⟨h51, hE45⟩ | ⟨h51, hE45⟩
         ·refine gx_v (.bool true) w20 (run_boolE (decide_eq_true h51) (by kernel_rfl)) ?_
          refine gx_k (.bool true) w20 ?_
          refine gx_nil ?_
          refine gx_thenN ?_
          exact ⟨true, selfA_i (by kernel_rfl), (Option.some.inj hE45), hS21⟩
         ·refine gx_v (.bool false) w20 (run_boolE (decide_eq_false h51) (by kernel_rfl)) ?_
          refine gx_k (.bool false) w20 ?_
          refine gx_nil ?_
          refine gx_thenN ?_
          exact ⟨false, selfA_i (by kernel_rfl), (Option.some.inj hE45), hS21⟩
       ·rintro _ w40 ⟨b43, hq47, rfl, hS41⟩
        obtain ⟨u42, rfl⟩ := selfA_u hq47
        try dsimp only at hO46
        refine gx_k (.bool b43) w40 ?_
        refine gx_nil ?_
        refine gx_thenN ?_
        exact ⟨b43, selfA_i (by kernel_rfl), (Option.some.inj hO46), hS41⟩
      ·refine gx_v (.bool false) w20 (run_boolE (decide_eq_false h37) (by kernel_rfl)) ?_
       refine gx_k (.bool false) w20 (gx_o (gx_o (gx_o (gx_o (gx_o (gx_o (gx_o ?_)))))))
       refine gx_o (gx_o (gx_o (gx_o (gx_o (gx_k (.bool false) w20 ?_)))))
       refine gx_nil ?_
       refine gx_thenN ?_
       exact ⟨false, selfA_i (by kernel_rfl), (Option.some.inj hE34), hS21⟩
     ·rintro _ w29 ⟨b32, hq36, rfl, hS30⟩
      obtain ⟨u31, rfl⟩ := selfA_u hq36
      try dsimp only at hO35
      refine gx_k (.bool b32) w29 ?_
      cases b32 with
      | true =>
       try dsimp only at hO35
       refine gx_o (gx_o (gx_o (gx_o (gx_o (gx_o (gx_o (gx_o ?_)))))))
       refine gx_o (gx_k (.bool true) w29 (gx_k (.bool true) w29 ?_))
       refine gx_nil ?_
       refine gx_thenN ?_
       refine hK27 _ _ ?_
       refine gx_yes (by kernel_rfl) ?_
       refine gx_region ?_
       refine gx_k (.slice A0 p0.length c0) w29 (gx_k (.int .i64 x8) w29 (gx_k (.int .u8 x22) w29 ?_))
       obtain ⟨x52, hx53, hO35⟩ := bind_in hO35
       refine gx_v (.pointer (Option.map (fun (p : Addr) => p.add (Int.toNat x8 * 1)) A0)) w29 (run_ixaddr (E := 23) (s := 1) (k := .i64) (c := c0) rfl (by kernel_rfl) (by kernel_rfl) (by kernel_rfl) (fun _ => by kernel_rfl) (ix_in hx53).1 (lt_len hn6 (ix_in hx53).2.1) (nil_len hn6 (num_nil (hS30.row 0 rfl).1))) ?_
       obtain ⟨l56, hx57, hO35⟩ := bind_in hO35
       refine gx_s (st_storeix rfl (by kernel_rfl) (by kernel_rfl) (fun _ => by kernel_rfl) hS30 0 rfl hx57) ?_
       rintro w54 hS55
       have hS55 : St _ _ w54 [rowE .u8 23 A0 c0 l56] := hS55
       refine gx_nil ?_
       refine gx_blkN ?_
       refine gx_thenN ?_
       refine hK17 _ _ ?_
       refine gx_region ?_
       refine gx_k (.int .i64 x8) w54 (gx_k (.int .i64 (IntKind.i64.wrap (x8 + 1))) w54 (gx_k (.int .i64 (IntKind.i64.wrap (x8 + 1))) w54 ?_))
       refine gx_nil ?_
       refine gx_thenN ?_
       exact ⟨k9, Nat.lt_succ_self k9, l56, (IntKind.i64.wrap (x8 + 1)), selfA_i (by kernel_rfl), hO35, hS55, (hn6.trans (setx_len hx57).symm)⟩
      | false =>
       try dsimp only at hO35
       refine gx_k (.int .u8 x22) w29 ?_
       rcases if_in hO35 with ⟨h58, hO35⟩ | ⟨h58, hO35⟩
       ·refine gx_v (.bool true) w29 (run_boolE (decide_eq_true h58) (by kernel_rfl)) ?_
        refine gx_k (.bool true) w29 (gx_k (.slice A0 p0.length c0) w29 (gx_k (.int .i64 x8) w29 ?_))
        obtain ⟨x59, hx60, hO35⟩ := bind_in hO35
        refine gx_v (.pointer (Option.map (fun (p : Addr) => p.add (Int.toNat x8 * 1)) A0)) w29 (run_ixaddr (E := 23) (s := 1) (k := .i64) (c := c0) rfl (by kernel_rfl) (by kernel_rfl) (by kernel_rfl) (fun _ => by kernel_rfl) (ix_in hx60).1 (lt_len hn6 (ix_in hx60).2.1) (nil_len hn6 (num_nil (hS30.row 0 rfl).1))) ?_
        refine gx_v (.int .u8 x59) w29 (run_loadix rfl (by kernel_rfl) (fun _ => by kernel_rfl) (hS30.row 0 rfl).1 hx60) ?_
        rcases if_in hO35 with ⟨h61, hO35⟩ | ⟨h61, hO35⟩
        ·refine gx_v (.bool true) w29 (run_boolE (decide_eq_true h61) (by kernel_rfl)) ?_
         refine gx_k (.bool true) w29 (gx_k (.bool true) w29 (gx_k (.bool true) w29 ?_))
         refine gx_nil ?_
         refine gx_thenN ?_
         refine hK27 _ _ ?_
         refine gx_yes (by kernel_rfl) ?_
         refine gx_region ?_
         refine gx_k (.slice A0 p0.length c0) w29 (gx_k (.int .i64 x8) w29 (gx_k (.int .u8 x22) w29 ?_))
         obtain ⟨x62, hx63, hO35⟩ := bind_in hO35
         refine gx_v (.pointer (Option.map (fun (p : Addr) => p.add (Int.toNat x8 * 1)) A0)) w29 (run_ixaddr (E := 23) (s := 1) (k := .i64) (c := c0) rfl (by kernel_rfl) (by kernel_rfl) (by kernel_rfl) (fun _ => by kernel_rfl) (ix_in hx63).1 (lt_len hn6 (ix_in hx63).2.1) (nil_len hn6 (num_nil (hS30.row 0 rfl).1))) ?_
         obtain ⟨l66, hx67, hO35⟩ := bind_in hO35
         refine gx_s (st_storeix rfl (by kernel_rfl) (by kernel_rfl) (fun _ => by kernel_rfl) hS30 0 rfl hx67) ?_
         rintro w64 hS65
         have hS65 : St _ _ w64 [rowE .u8 23 A0 c0 l66] := hS65
         refine gx_nil ?_
         refine gx_blkN ?_
         refine gx_thenN ?_
         refine hK17 _ _ ?_
         refine gx_region ?_
         refine gx_k (.int .i64 x8) w64 (gx_k (.int .i64 (IntKind.i64.wrap (x8 + 1))) w64 (gx_k (.int .i64 (IntKind.i64.wrap (x8 + 1))) w64 ?_))
         refine gx_nil ?_
         refine gx_thenN ?_
         exact ⟨k9, Nat.lt_succ_self k9, l66, (IntKind.i64.wrap (x8 + 1)), selfA_i (by kernel_rfl), hO35, hS65, (hn6.trans (setx_len hx67).symm)⟩
        ·refine gx_v (.bool false) w29 (run_boolE (decide_eq_false h61) (by kernel_rfl)) ?_
         refine gx_k (.bool false) w29 (gx_k (.bool false) w29 (gx_k (.bool false) w29 ?_))
         refine gx_nil ?_
         refine gx_thenN ?_
         refine hK27 _ _ ?_
         refine gx_no (by kernel_rfl) ?_
         refine gx_pass ?_
         refine gx_blkN ?_
         refine gx_thenN ?_
         refine hK17 _ _ ?_
         refine gx_region ?_
         refine gx_k (.int .i64 x8) w29 (gx_k (.int .i64 (IntKind.i64.wrap (x8 + 1))) w29 (gx_k (.int .i64 (IntKind.i64.wrap (x8 + 1))) w29 ?_))
         refine gx_nil ?_
         refine gx_thenN ?_
         exact ⟨k9, Nat.lt_succ_self k9, l7, (IntKind.i64.wrap (x8 + 1)), selfA_i (by kernel_rfl), hO35, hS30, hn6⟩
       ·refine gx_v (.bool false) w29 (run_boolE (decide_eq_false h58) (by kernel_rfl)) ?_
        refine gx_k (.bool false) w29 (gx_o (gx_o (gx_o (gx_o (gx_o (gx_k (.bool false) w29 (gx_k (.bool false) w29 ?_)))))))
        refine gx_k (.bool false) w29 ?_
        refine gx_nil ?_
        refine gx_thenN ?_
        refine hK27 _ _ ?_
        refine gx_no (by kernel_rfl) ?_
        refine gx_pass ?_
        refine gx_blkN ?_
        refine gx_thenN ?_
        refine hK17 _ _ ?_
        refine gx_region ?_
        refine gx_k (.int .i64 x8) w29 (gx_k (.int .i64 (IntKind.i64.wrap (x8 + 1))) w29 (gx_k (.int .i64 (IntKind.i64.wrap (x8 + 1))) w29 ?_))
        refine gx_nil ?_
        refine gx_thenN ?_
        exact ⟨k9, Nat.lt_succ_self k9, l7, (IntKind.i64.wrap (x8 + 1)), selfA_i (by kernel_rfl), hO35, hS30, hn6⟩
    ·refine gx_v (.bool false) w20 (run_boolE (decide_eq_false h28) (by kernel_rfl)) ?_
     refine gx_k (.bool false) w20 (gx_o (gx_o (gx_o (gx_o (gx_o (gx_o (gx_o ?_)))))))
     refine gx_o (gx_o (gx_o (gx_o (gx_o (gx_o (gx_o (gx_o ?_)))))))
     refine gx_o (gx_o (gx_o (gx_o (gx_o (gx_o (gx_o (gx_o ?_)))))))
     refine gx_o (gx_o (gx_o (gx_o (gx_k (.bool false) w20 ?_))))
     refine gx_nil ?_
     refine gx_thenN ?_
     refine hK27 _ _ ?_
     refine gx_no (by kernel_rfl) ?_
     refine gx_pass ?_
     refine gx_blkN ?_
     refine gx_thenN ?_
     refine hK17 _ _ ?_
     refine gx_region ?_
     refine gx_k (.int .i64 x8) w20 (gx_k (.int .i64 (IntKind.i64.wrap (x8 + 1))) w20 (gx_k (.int .i64 (IntKind.i64.wrap (x8 + 1))) w20 ?_))
     refine gx_nil ?_
     refine gx_thenN ?_
     exact ⟨k9, Nat.lt_succ_self k9, l7, (IntKind.i64.wrap (x8 + 1)), selfA_i (by kernel_rfl), hL10, hS21, hn6⟩
   ·refine gx_v (.bool false) w3 (run_boolE (decide_eq_false h15) (by kernel_rfl)) ?_
    refine gx_nil ?_
    refine gx_thenN ?_
    refine hK14 _ _ ?_
    refine gx_no (by kernel_rfl) ?_
    refine gx_exit ?_
    refine gx_thenE ?_
    refine gx_thenE ?_
    refine gx_blkE ?_
    obtain rfl := Option.some.inj hL10
    exact gx_finN (.tuple #[]) (by kernel_rfl) (by kernel_rfl) ⟨_, rfl, rfl, hS4, (hn6).symm⟩

def rW5_L2 (N : Nat) (p0 : List Int) (l15 : List Int) : Nat → Int → Option (Int)
 | 0, _ => none
 | k53+1, x52 => (if x52 < ((p0.length : Nat) : Int) then ((ix l15 x52).bind fun x60 => (if x60 = 6 then rW5_L2 N p0 l15 k53 (IntKind.i64.wrap (x52 + 1)) else some (x52))) else some (x52))
def rW5_L3 (N : Nat) (x45 : Int) : Nat → (List Int) → Int → Option (List Int)
 | 0, _, _ => none
 | k101+1, l99, x100 => (if x100 < x45 then ((ix l99 x100).bind fun _x110 => ((setx l99 x100 4).bind fun l114 => rW5_L3 N x45 k101 l114 (IntKind.i64.wrap (x100 + 1)))) else some (l99))
def rW5_L1 (N : Nat) (p0 : List Int) : Nat → (List Int) → Int → Option (List Int)
 | 0, _, _ => none
 | k17+1, l15, x16 => (if x16 < ((p0.length : Nat) : Int) then ((((ix l15 x16).bind fun x37 => (if x37 ≠ 6 then some ((l15, x16)) else ((rW5_L2 N p0 l15 N x16 : Option (Int)).bind fun x45 => (((((((if x16 > 0 then ((ix l15 (IntKind.i64.wrap (x16 - 1))).bind fun x88 => (if x88 = 4 then some (true) else some (false))) else some (false)) : Option (Bool)).bind fun b82 => (match b82 with | true => some (true) | false => (if x45 < ((p0.length : Nat) : Int) then ((ix l15 x45).bind fun x92 => (if x92 = 4 then some (true) else some (false))) else some (false)))) : Option (Bool)).bind fun b75 => (match b75 with | true => rW5_L3 N x45 N l15 x16 | false => some (l15))) : Option (List Int)).bind fun l68 => some ((l68, (IntKind.i64.wrap (x45 - 1)))))))) : Option (List Int × Int)).bind fun (l28, x29) => rW5_L1 N p0 k17 l28 (IntKind.i64.wrap (x29 + 1))) else some (l15))
def rW5_L4 (N : Nat) (p0 : List Int) : Nat → (List Int) → Int → Option (List Int)
 | 0, _, _ => none
 | k130+1, l128, x129 => (if x129 < ((p0.length : Nat) : Int) then ((ix l128 x129).bind fun x141 => (((if x141 = 5 then some (true) else ((ix l128 x129).bind fun x152 => (if x152 = 6 then some (true) else some (false)))) : Option (Bool)).bind fun b146 => (match b146 with | true => ((ix l128 x129).bind fun _x155 => ((setx l128 x129 14).bind fun l159 => rW5_L4 N p0 k130 l159 (IntKind.i64.wrap (x129 + 1)))) | false => ((ix l128 x129).bind fun x161 => (if x161 = 8 then ((ix l128 x129).bind fun _x164 => ((setx l128 x129 14).bind fun l168 => rW5_L4 N p0 k130 l168 (IntKind.i64.wrap (x129 + 1)))) else rW5_L4 N p0 k130 l128 (IntKind.i64.wrap (x129 + 1))))))) else some l128)
def rW5 (N : Nat) (p0 : List Int) : Option (List Int) :=
 ((rW5_L1 N p0 N p0 0 : Option (List Int)).bind fun l5 => rW5_L4 N p0 N l5 0)

set_option linter.unusedVariables false in
def rW5_R (p0 : List Int) (A0 : Option Addr) (c0 : Nat) (r : List Int) (w0 : World) (v : Value) (w : World) : Prop := v = .tuple #[] ∧ St (foots [rowE .u8 23 A0 c0 p0]) w0 w [rowE .u8 23 A0 c0 r] ∧ r.length = p0.length

set_option maxRecDepth 100000 in
set_option maxHeartbeats 4000000 in
theorem rW5_ok (N : Nat) (p0 : List Int) (A0 : Option Addr) (c0 : Nat) (r : List Int) (hF : rW5 N p0 = some r) (w0 : World) (hl : St (foots [rowE .u8 23 A0 c0 p0]) w0 w0 [rowE .u8 23 A0 c0 p0]) :
  Calls Try.prog 36 #[.slice A0 p0.length c0] w0 fun e w => ∃ v, e = .returned v ∧ rW5_R p0 A0 c0 r w0 v w := by
 have hS0 := hl
 unfold rW5 at hF
 refine calls_of Try.func36 rfl ⟨((.slice A0 p0.length c0) :: un 90 ([])).toArray, []⟩ (by kernel_rfl) ?_
 obtain ⟨c6, hE7, hO8⟩ := bind_in hF
 refine gx_cut (fun a w => ∃ (l5 : List Int), selfA (fun u3 => ⟨((.slice A0 p0.length c0) :: undef :: dd u3 2 2 (undef :: dd u3 5 58 (un 28 ([])))).toArray, []⟩) a ∧ l5 = c6 ∧ St (foots [rowE .u8 23 A0 c0 p0]) w0 w [rowE .u8 23 A0 c0 l5] ∧ p0.length = l5.length) ?_ ?_
 ·refine gx_seq (fun K9 hK10 => ?_)
  refine gx_region ?_
  refine gx_k (.int .i64 0) w0 ?_
  refine gx_nil ?_
  refine gx_thenN ?_
  refine hK10 _ _ ?_
  refine gx_block ?_
  refine gx_loop (fun k a w => ∃ (l15 : List Int) (x16 : Int), selfA (fun u13 => ⟨((.slice A0 p0.length c0) :: undef :: (.int .i64 x16) :: (u13 3) :: undef :: dd u13 5 58 (un 28 ([]))).toArray, []⟩) a ∧ rW5_L1 N p0 k l15 x16 = some c6 ∧ St (foots [rowE .u8 23 A0 c0 p0]) w0 w [rowE .u8 23 A0 c0 l15] ∧ p0.length = l15.length) N ?_ ?_
  ·exact ⟨p0, 0, selfA_i (by kernel_rfl), hE7, hS0, rfl⟩
  ·rintro k17 _ w11 ⟨l15, x16, hq121, hL18, hS12, hn14⟩
   obtain ⟨u13, rfl⟩ := selfA_u hq121
   cases k17 with
   | zero => cases hL18
   | succ k17 =>
    first | rw [rW5_L1] at hL18 | unfold rW5_L1 at hL18
    refine gx_seq (fun K19 hK20 => ?_)
    refine gx_seq (fun K21 hK22 => ?_)
    refine gx_region ?_
    refine gx_k (.int .i64 x16) w11 (gx_k (.slice A0 p0.length c0) w11 (gx_k (.int .i64 ((p0.length : Nat) : Int)) w11 ?_))
    rcases if_in hL18 with ⟨h23, hL18⟩ | ⟨h23, hL18⟩
    ·refine gx_v (.bool true) w11 (run_boolE (decide_eq_true h23) (by kernel_rfl)) ?_
     refine gx_nil ?_
     refine gx_thenN ?_
     refine hK22 _ _ ?_
     refine gx_yes (by kernel_rfl) ?_
     refine gx_pass ?_
     refine gx_thenN ?_
     refine hK20 _ _ ?_
     obtain ⟨c30, hE31, hO32⟩ := bind_in hL18
     refine gx_cut (fun a w => ∃ (l28 : List Int) (x29 : Int), selfA (fun u26 => ⟨((.slice A0 p0.length c0) :: undef :: (.int .i64 x29) :: (u26 3) :: undef :: (.int .i64 x16) :: (u26 6) :: (.int .i64 ((p0.length : Nat) : Int)) :: (.bool true) :: dd u13 9 2 (dd u26 11 52 (un 28 ([])))).toArray, []⟩) a ∧ (l28, x29) = c30 ∧ St (foots [rowE .u8 23 A0 c0 p0]) w0 w [rowE .u8 23 A0 c0 l28] ∧ p0.length = l28.length) ?_ ?_
     ·refine gx_block ?_
      refine gx_seq (fun K33 hK34 => ?_)
      refine gx_seq (fun K35 hK36 => ?_)
      refine gx_region ?_
      refine gx_k (.slice A0 p0.length c0) w11 (gx_k (.int .i64 x16) w11 ?_)
      obtain ⟨x37, hx38, hE31⟩ := bind_in hE31
      refine gx_v (.pointer (Option.map (fun (p : Addr) => p.add (Int.toNat x16 * 1)) A0)) w11 (run_ixaddr (E := 23) (s := 1) (k := .i64) (c := c0) rfl (by kernel_rfl) (by kernel_rfl) (by kernel_rfl) (fun _ => by kernel_rfl) (ix_in hx38).1 (lt_len hn14 (ix_in hx38).2.1) (nil_len hn14 (num_nil (hS12.row 0 rfl).1))) ?_
      refine gx_v (.int .u8 x37) w11 (run_loadix rfl (by kernel_rfl) (fun _ => by kernel_rfl) (hS12.row 0 rfl).1 hx38) ?_
      rcases if_in hE31 with ⟨h39, hE31⟩ | ⟨h39, hE31⟩
      ·refine gx_v (.bool true) w11 (run_boolE (ne_yes h39) (by kernel_rfl)) ?_
       refine gx_nil ?_
       refine gx_thenN ?_
       refine hK36 _ _ ?_
       refine gx_yes (by kernel_rfl) ?_
       refine gx_exit ?_
       refine gx_thenE ?_
       refine gx_blkE ?_
       refine gx_thenN ?_
       exact ⟨l15, x16, selfA_i (by kernel_rfl), (Option.some.inj hE31), hS12, hn14⟩
      ·refine gx_v (.bool false) w11 (run_boolE (ne_no h39) (by kernel_rfl)) ?_
       refine gx_nil ?_
       refine gx_thenN ?_
       refine hK36 _ _ ?_
       refine gx_no (by kernel_rfl) ?_
       refine gx_pass ?_
       refine gx_thenN ?_
       refine hK34 _ _ ?_
       refine gx_seq (fun K40 hK41 => ?_)
       refine gx_region ?_
       refine gx_k (.int .i64 x16) w11 (gx_k (.int .i64 x16) w11 ?_)
       refine gx_nil ?_
       refine gx_thenN ?_
       refine hK41 _ _ ?_
       obtain ⟨c46, hE47, hO48⟩ := bind_in hE31
       refine gx_cut (fun a w => ∃ (x45 : Int), selfA (fun u44 => ⟨((.slice A0 p0.length c0) :: undef :: (.int .i64 x16) :: (.int .i64 x45) :: undef :: (.int .i64 x16) :: (u44 6) :: (.int .i64 ((p0.length : Nat) : Int)) :: (.bool true) :: dd u13 9 2 ((u44 11) :: (.int .i64 x16) :: (.pointer (Option.map (fun (p : Addr) => p.add (Int.toNat x16 * 1)) A0)) :: (.int .u8 x37) :: (.bool false) :: (.int .i64 x16) :: dd u44 17 13 (dd u13 30 33 (un 28 ([]))))).toArray, []⟩) a ∧ x45 = c46 ∧ St (foots [rowE .u8 23 A0 c0 p0]) w0 w [rowE .u8 23 A0 c0 l15]) ?_ ?_
       ·refine gx_block ?_
        refine gx_loop (fun k a w => ∃ (x52 : Int), selfA (fun u51 => ⟨((.slice A0 p0.length c0) :: undef :: (.int .i64 x16) :: (.int .i64 x52) :: undef :: (.int .i64 x16) :: (u51 6) :: (.int .i64 ((p0.length : Nat) : Int)) :: (.bool true) :: dd u13 9 2 ((u51 11) :: (.int .i64 x16) :: (.pointer (Option.map (fun (p : Addr) => p.add (Int.toNat x16 * 1)) A0)) :: (.int .u8 x37) :: (.bool false) :: (.int .i64 x16) :: dd u51 17 13 (dd u13 30 33 (un 28 ([]))))).toArray, []⟩) a ∧ rW5_L2 N p0 l15 k x52 = some c46 ∧ St (foots [rowE .u8 23 A0 c0 p0]) w0 w [rowE .u8 23 A0 c0 l15]) N ?_ ?_
        ·exact ⟨x16, selfA_i (by kernel_rfl), hE47, hS12⟩
        ·rintro k53 _ w49 ⟨x52, hq63, hL54, hS50⟩
         obtain ⟨u51, rfl⟩ := selfA_u hq63
         cases k53 with
         | zero => cases hL54
         | succ k53 =>
          first | rw [rW5_L2] at hL54 | unfold rW5_L2 at hL54
          refine gx_seq (fun K55 hK56 => ?_)
          refine gx_seq (fun K57 hK58 => ?_)
          refine gx_region ?_
          refine gx_k (.int .i64 x52) w49 (gx_k (.slice A0 p0.length c0) w49 (gx_k (.int .i64 ((p0.length : Nat) : Int)) w49 ?_))
          rcases if_in hL54 with ⟨h59, hL54⟩ | ⟨h59, hL54⟩
          ·refine gx_v (.bool true) w49 (run_boolE (decide_eq_true h59) (by kernel_rfl)) ?_
           refine gx_k (.bool true) w49 (gx_k (.slice A0 p0.length c0) w49 (gx_k (.int .i64 x52) w49 ?_))
           obtain ⟨x60, hx61, hL54⟩ := bind_in hL54
           refine gx_v (.pointer (Option.map (fun (p : Addr) => p.add (Int.toNat x52 * 1)) A0)) w49 (run_ixaddr (E := 23) (s := 1) (k := .i64) (c := c0) rfl (by kernel_rfl) (by kernel_rfl) (by kernel_rfl) (fun _ => by kernel_rfl) (ix_in hx61).1 (lt_len hn14 (ix_in hx61).2.1) (nil_len hn14 (num_nil (hS50.row 0 rfl).1))) ?_
           refine gx_v (.int .u8 x60) w49 (run_loadix rfl (by kernel_rfl) (fun _ => by kernel_rfl) (hS50.row 0 rfl).1 hx61) ?_
           rcases if_in hL54 with ⟨h62, hL54⟩ | ⟨h62, hL54⟩
           ·refine gx_v (.bool true) w49 (run_boolE (decide_eq_true h62) (by kernel_rfl)) ?_
            refine gx_k (.bool true) w49 ?_
            refine gx_nil ?_
            refine gx_thenN ?_
            refine hK58 _ _ ?_
            refine gx_yes (by kernel_rfl) ?_
            refine gx_pass ?_
            refine gx_thenN ?_
            refine hK56 _ _ ?_
            refine gx_block ?_
            refine gx_region ?_
            refine gx_k (.int .i64 x52) w49 (gx_k (.int .i64 (IntKind.i64.wrap (x52 + 1))) w49 (gx_k (.int .i64 (IntKind.i64.wrap (x52 + 1))) w49 ?_))
            refine gx_nil ?_
            refine gx_blkN ?_
            refine gx_thenN ?_
            exact ⟨k53, Nat.lt_succ_self k53, (IntKind.i64.wrap (x52 + 1)), selfA_i (by kernel_rfl), hL54, hS50⟩
           ·refine gx_v (.bool false) w49 (run_boolE (decide_eq_false h62) (by kernel_rfl)) ?_
            refine gx_k (.bool false) w49 ?_
            refine gx_nil ?_
            refine gx_thenN ?_
            refine hK58 _ _ ?_
            refine gx_no (by kernel_rfl) ?_
            refine gx_exit ?_
            refine gx_thenE ?_
            refine gx_thenE ?_
            refine gx_blkE ?_
            refine gx_thenN ?_
            exact ⟨x52, selfA_i (by kernel_rfl), (Option.some.inj hL54), hS50⟩
          ·refine gx_v (.bool false) w49 (run_boolE (decide_eq_false h59) (by kernel_rfl)) ?_
           refine gx_k (.bool false) w49 (gx_o (gx_o (gx_o (gx_o (gx_o (gx_k (.bool false) w49 ?_))))))
           refine gx_nil ?_
           refine gx_thenN ?_
           refine hK58 _ _ ?_
           refine gx_no (by kernel_rfl) ?_
           refine gx_exit ?_
           refine gx_thenE ?_
           refine gx_thenE ?_
           refine gx_blkE ?_
           refine gx_thenN ?_
           exact ⟨x52, selfA_i (by kernel_rfl), (Option.some.inj hL54), hS50⟩
       ·rintro _ w42 ⟨x45, hq119, rfl, hS43⟩
        obtain ⟨u44, rfl⟩ := selfA_u hq119
        try dsimp only at hO48
        obtain ⟨c69, hE70, hO71⟩ := bind_in hO48
        refine gx_cut (fun a w => ∃ (l68 : List Int), selfA (fun u66 => ⟨((.slice A0 p0.length c0) :: undef :: (u66 2) :: (.int .i64 x45) :: undef :: (.int .i64 x16) :: (u44 6) :: (.int .i64 ((p0.length : Nat) : Int)) :: (.bool true) :: dd u13 9 2 ((u44 11) :: (.int .i64 x16) :: (.pointer (Option.map (fun (p : Addr) => p.add (Int.toNat x16 * 1)) A0)) :: (.int .u8 x37) :: (.bool false) :: (.int .i64 x16) :: dd u44 17 13 (dd u66 30 31 (dd u13 61 2 (un 28 ([])))))).toArray, []⟩) a ∧ l68 = c69 ∧ St (foots [rowE .u8 23 A0 c0 p0]) w0 w [rowE .u8 23 A0 c0 l68] ∧ p0.length = l68.length) ?_ ?_
        ·obtain ⟨c76, hE77, hO78⟩ := bind_in hE70
         refine gx_cut (fun a w => ∃ (b75 : Bool), selfA (fun u74 => ⟨((.slice A0 p0.length c0) :: undef :: (.int .i64 x16) :: (.int .i64 x45) :: undef :: (.int .i64 x16) :: (u44 6) :: (.int .i64 ((p0.length : Nat) : Int)) :: (.bool true) :: dd u13 9 2 ((u44 11) :: (.int .i64 x16) :: (.pointer (Option.map (fun (p : Addr) => p.add (Int.toNat x16 * 1)) A0)) :: (.int .u8 x37) :: (.bool false) :: (.int .i64 x16) :: dd u44 17 13 (dd u74 30 22 ((.bool b75) :: dd u13 53 10 (un 28 ([])))))).toArray, []⟩) a ∧ b75 = c76 ∧ St (foots [rowE .u8 23 A0 c0 p0]) w0 w [rowE .u8 23 A0 c0 l15]) ?_ ?_
         ·refine gx_region ?_
          refine gx_k (.int .i64 x16) w42 ?_
          obtain ⟨c83, hE84, hO85⟩ := bind_in hE77
          refine gx_part (l1 := [_, _, _, _, _, _, _, _, _]) (fun a w => ∃ (b82 : Bool), selfA (fun u81 => ⟨((.slice A0 p0.length c0) :: undef :: (.int .i64 x16) :: (.int .i64 x45) :: undef :: (.int .i64 x16) :: (u44 6) :: (.int .i64 ((p0.length : Nat) : Int)) :: (.bool true) :: dd u13 9 2 ((u44 11) :: (.int .i64 x16) :: (.pointer (Option.map (fun (p : Addr) => p.add (Int.toNat x16 * 1)) A0)) :: (.int .u8 x37) :: (.bool false) :: (.int .i64 x16) :: dd u44 17 13 ((.int .i64 x16) :: dd u81 31 8 ((.bool b82) :: dd u13 40 23 (un 28 ([])))))).toArray, []⟩) a ∧ b82 = c83 ∧ St (foots [rowE .u8 23 A0 c0 p0]) w0 w [rowE .u8 23 A0 c0 l15]) rfl ?_ ?_
          ·rcases if_in hE84 with ⟨h87, hE84⟩ | ⟨h87, hE84⟩
           ·refine gx_v (.bool true) w42 (run_boolE (decide_eq_true h87) (by kernel_rfl)) ?_
            refine gx_k (.bool true) w42 (gx_k (.slice A0 p0.length c0) w42 (gx_k (.int .i64 x16) w42 (gx_k (.int .i64 (IntKind.i64.wrap (x16 - 1))) w42 ?_)))
            obtain ⟨x88, hx89, hE84⟩ := bind_in hE84
            refine gx_v (.pointer (Option.map (fun (p : Addr) => p.add (Int.toNat (IntKind.i64.wrap (x16 - 1)) * 1)) A0)) w42 (run_ixaddr (E := 23) (s := 1) (k := .i64) (c := c0) rfl (by kernel_rfl) (by kernel_rfl) (by kernel_rfl) (fun _ => by kernel_rfl) (ix_in hx89).1 (lt_len hn14 (ix_in hx89).2.1) (nil_len hn14 (num_nil (hS43.row 0 rfl).1))) ?_
            refine gx_v (.int .u8 x88) w42 (run_loadix rfl (by kernel_rfl) (fun _ => by kernel_rfl) (hS43.row 0 rfl).1 hx89) ?_
            rcases if_in hE84 with ⟨h90, hE84⟩ | ⟨h90, hE84⟩
            ·refine gx_v (.bool true) w42 (run_boolE (decide_eq_true h90) (by kernel_rfl)) ?_
             refine gx_k (.bool true) w42 ?_
             refine gx_nil ?_
             refine gx_thenN ?_
             exact ⟨true, selfA_i (by kernel_rfl), (Option.some.inj hE84), hS43⟩
            ·refine gx_v (.bool false) w42 (run_boolE (decide_eq_false h90) (by kernel_rfl)) ?_
             refine gx_k (.bool false) w42 ?_
             refine gx_nil ?_
             refine gx_thenN ?_
             exact ⟨false, selfA_i (by kernel_rfl), (Option.some.inj hE84), hS43⟩
           ·refine gx_v (.bool false) w42 (run_boolE (decide_eq_false h87) (by kernel_rfl)) ?_
            refine gx_k (.bool false) w42 (gx_o (gx_o (gx_o (gx_o (gx_o (gx_o (gx_k (.bool false) w42 ?_)))))))
            refine gx_nil ?_
            refine gx_thenN ?_
            exact ⟨false, selfA_i (by kernel_rfl), (Option.some.inj hE84), hS43⟩
          ·rintro _ w79 ⟨b82, hq86, rfl, hS80⟩
           obtain ⟨u81, rfl⟩ := selfA_u hq86
           try dsimp only at hO85
           refine gx_k (.bool b82) w79 ?_
           cases b82 with
           | true =>
            try dsimp only at hO85
            refine gx_o (gx_o (gx_o (gx_o (gx_o (gx_o (gx_o (gx_o ?_)))))))
            refine gx_o (gx_o (gx_o (gx_k (.bool true) w79 ?_)))
            refine gx_nil ?_
            refine gx_thenN ?_
            exact ⟨true, selfA_i (by kernel_rfl), (Option.some.inj hO85), hS80⟩
           | false =>
            try dsimp only at hO85
            refine gx_k (.int .i64 x45) w79 (gx_k (.slice A0 p0.length c0) w79 (gx_k (.int .i64 ((p0.length : Nat) : Int)) w79 ?_))
            rcases if_in hO85 with ⟨h91, hO85⟩ | ⟨h91, hO85⟩
            ·refine gx_v (.bool true) w79 (run_boolE (decide_eq_true h91) (by kernel_rfl)) ?_
             refine gx_k (.bool true) w79 (gx_k (.slice A0 p0.length c0) w79 (gx_k (.int .i64 x45) w79 ?_))
             obtain ⟨x92, hx93, hO85⟩ := bind_in hO85
             refine gx_v (.pointer (Option.map (fun (p : Addr) => p.add (Int.toNat x45 * 1)) A0)) w79 (run_ixaddr (E := 23) (s := 1) (k := .i64) (c := c0) rfl (by kernel_rfl) (by kernel_rfl) (by kernel_rfl) (fun _ => by kernel_rfl) (ix_in hx93).1 (lt_len hn14 (ix_in hx93).2.1) (nil_len hn14 (num_nil (hS80.row 0 rfl).1))) ?_
             refine gx_v (.int .u8 x92) w79 (run_loadix rfl (by kernel_rfl) (fun _ => by kernel_rfl) (hS80.row 0 rfl).1 hx93) ?_
             rcases if_in hO85 with ⟨h94, hO85⟩ | ⟨h94, hO85⟩
             ·refine gx_v (.bool true) w79 (run_boolE (decide_eq_true h94) (by kernel_rfl)) ?_
              refine gx_k (.bool true) w79 (gx_k (.bool true) w79 ?_)
              refine gx_nil ?_
              refine gx_thenN ?_
              exact ⟨true, selfA_i (by kernel_rfl), (Option.some.inj hO85), hS80⟩
             ·refine gx_v (.bool false) w79 (run_boolE (decide_eq_false h94) (by kernel_rfl)) ?_
              refine gx_k (.bool false) w79 (gx_k (.bool false) w79 ?_)
              refine gx_nil ?_
              refine gx_thenN ?_
              exact ⟨false, selfA_i (by kernel_rfl), (Option.some.inj hO85), hS80⟩
            ·refine gx_v (.bool false) w79 (run_boolE (decide_eq_false h91) (by kernel_rfl)) ?_
             refine gx_k (.bool false) w79 (gx_o (gx_o (gx_o (gx_o (gx_o (gx_k (.bool false) w79 (gx_k (.bool false) w79 ?_)))))))
             refine gx_nil ?_
             refine gx_thenN ?_
             exact ⟨false, selfA_i (by kernel_rfl), (Option.some.inj hO85), hS80⟩
         ·rintro _ w72 ⟨b75, hq117, rfl, hS73⟩
          obtain ⟨u74, rfl⟩ := selfA_u hq117
          try dsimp only at hO78
          cases b75 with
          | true =>
           try dsimp only at hO78
           refine gx_yes (by kernel_rfl) ?_
           refine gx_block ?_
           refine gx_loop (fun k a w => ∃ (l99 : List Int) (x100 : Int), selfA (fun u97 => ⟨((.slice A0 p0.length c0) :: undef :: (.int .i64 x100) :: (.int .i64 x45) :: undef :: (.int .i64 x16) :: (u44 6) :: (.int .i64 ((p0.length : Nat) : Int)) :: (.bool true) :: dd u13 9 2 ((u44 11) :: (.int .i64 x16) :: (.pointer (Option.map (fun (p : Addr) => p.add (Int.toNat x16 * 1)) A0)) :: (.int .u8 x37) :: (.bool false) :: (.int .i64 x16) :: dd u44 17 13 (dd u74 30 22 ((.bool true) :: dd u97 53 8 (dd u13 61 2 (un 28 ([]))))))).toArray, []⟩) a ∧ rW5_L3 N x45 k l99 x100 = some c69 ∧ St (foots [rowE .u8 23 A0 c0 p0]) w0 w [rowE .u8 23 A0 c0 l99] ∧ p0.length = l99.length) N ?_ ?_
           ·exact ⟨l15, x16, selfA_i (by kernel_rfl), hO78, hS73, hn14⟩
           ·rintro k101 _ w95 ⟨l99, x100, hq116, hL102, hS96, hn98⟩
            obtain ⟨u97, rfl⟩ := selfA_u hq116
            cases k101 with
            | zero => cases hL102
            | succ k101 =>
             first | rw [rW5_L3] at hL102 | unfold rW5_L3 at hL102
             refine gx_seq (fun K103 hK104 => ?_)
             refine gx_seq (fun K105 hK106 => ?_)
             refine gx_region ?_
             refine gx_k (.int .i64 x100) w95 (gx_k (.int .i64 x45) w95 ?_)
             rcases if_in hL102 with ⟨h107, hL102⟩ | ⟨h107, hL102⟩
             ·refine gx_v (.bool true) w95 (run_boolE (decide_eq_true h107) (by kernel_rfl)) ?_
              refine gx_nil ?_
              refine gx_thenN ?_
              refine hK106 _ _ ?_
              refine gx_yes (by kernel_rfl) ?_
              refine gx_pass ?_
              refine gx_thenN ?_
              refine hK104 _ _ ?_
              refine gx_seq (fun K108 hK109 => ?_)
              refine gx_block ?_
              refine gx_region ?_
              refine gx_k (.slice A0 p0.length c0) w95 (gx_k (.int .i64 x100) w95 ?_)
              obtain ⟨x110, hx111, hL102⟩ := bind_in hL102
              refine gx_v (.pointer (Option.map (fun (p : Addr) => p.add (Int.toNat x100 * 1)) A0)) w95 (run_ixaddr (E := 23) (s := 1) (k := .i64) (c := c0) rfl (by kernel_rfl) (by kernel_rfl) (by kernel_rfl) (fun _ => by kernel_rfl) (ix_in hx111).1 (lt_len hn98 (ix_in hx111).2.1) (nil_len hn98 (num_nil (hS96.row 0 rfl).1))) ?_
              obtain ⟨l114, hx115, hL102⟩ := bind_in hL102
              refine gx_s (st_storeix rfl (by kernel_rfl) (by kernel_rfl) (fun _ => by kernel_rfl) hS96 0 rfl hx115) ?_
              rintro w112 hS113
              have hS113 : St _ _ w112 [rowE .u8 23 A0 c0 l114] := hS113
              refine gx_nil ?_
              refine gx_blkN ?_
              refine gx_thenN ?_
              refine hK109 _ _ ?_
              refine gx_region ?_
              refine gx_k (.int .i64 x100) w112 (gx_k (.int .i64 (IntKind.i64.wrap (x100 + 1))) w112 (gx_k (.int .i64 (IntKind.i64.wrap (x100 + 1))) w112 ?_))
              refine gx_nil ?_
              refine gx_thenN ?_
              exact ⟨k101, Nat.lt_succ_self k101, l114, (IntKind.i64.wrap (x100 + 1)), selfA_i (by kernel_rfl), hL102, hS113, (hn98.trans (setx_len hx115).symm)⟩
             ·refine gx_v (.bool false) w95 (run_boolE (decide_eq_false h107) (by kernel_rfl)) ?_
              refine gx_nil ?_
              refine gx_thenN ?_
              refine hK106 _ _ ?_
              refine gx_no (by kernel_rfl) ?_
              refine gx_exit ?_
              refine gx_thenE ?_
              refine gx_thenE ?_
              refine gx_blkE ?_
              refine gx_thenN ?_
              exact ⟨l99, selfA_i (by kernel_rfl), (Option.some.inj hL102), hS96, hn98⟩
          | false =>
           try dsimp only at hO78
           refine gx_no (by kernel_rfl) ?_
           refine gx_pass ?_
           refine gx_thenN ?_
           exact ⟨l15, selfA_i (by kernel_rfl), (Option.some.inj hO78), hS73, hn14⟩
        ·rintro _ w64 ⟨l68, hq118, rfl, hS65, hn67⟩
         obtain ⟨u66, rfl⟩ := selfA_u hq118
         try dsimp only at hO71
         refine gx_region ?_
         refine gx_k (.int .i64 x45) w64 (gx_k (.int .i64 (IntKind.i64.wrap (x45 - 1))) w64 (gx_k (.int .i64 (IntKind.i64.wrap (x45 - 1))) w64 ?_))
         refine gx_nil ?_
         refine gx_blkN ?_
         refine gx_thenN ?_
         exact ⟨l68, (IntKind.i64.wrap (x45 - 1)), selfA_i (by kernel_rfl), (Option.some.inj hO71), hS65, hn67⟩
     ·rintro _ w24 ⟨l28, x29, hq120, rfl, hS25, hn27⟩
      obtain ⟨u26, rfl⟩ := selfA_u hq120
      try dsimp only at hO32
      refine gx_region ?_
      refine gx_k (.int .i64 x29) w24 (gx_k (.int .i64 (IntKind.i64.wrap (x29 + 1))) w24 (gx_k (.int .i64 (IntKind.i64.wrap (x29 + 1))) w24 ?_))
      refine gx_nil ?_
      refine gx_thenN ?_
      exact ⟨k17, Nat.lt_succ_self k17, l28, (IntKind.i64.wrap (x29 + 1)), selfA_i (by kernel_rfl), hO32, hS25, hn27⟩
    ·refine gx_v (.bool false) w11 (run_boolE (decide_eq_false h23) (by kernel_rfl)) ?_
     refine gx_nil ?_
     refine gx_thenN ?_
     refine hK22 _ _ ?_
     refine gx_no (by kernel_rfl) ?_
     refine gx_exit ?_
     refine gx_thenE ?_
     refine gx_thenE ?_
     refine gx_blkE ?_
     refine gx_thenN ?_
     exact ⟨l15, selfA_i (by kernel_rfl), (Option.some.inj hL18), hS12, hn14⟩
 ·rintro _ w1 ⟨l5, hq171, rfl, hS2, hn4⟩
  obtain ⟨u3, rfl⟩ := selfA_u hq171
  try dsimp only at hO8
  refine gx_seq (fun K122 hK123 => ?_)
  refine gx_region ?_
  refine gx_k (.int .i64 0) w1 ?_
  refine gx_nil ?_
  refine gx_thenN ?_
  refine hK123 _ _ ?_
  refine gx_block ?_
  refine gx_loop (fun k a w => ∃ (l128 : List Int) (x129 : Int), selfA (fun u126 => ⟨((.slice A0 p0.length c0) :: undef :: dd u3 2 2 ((.int .i64 x129) :: dd u3 5 58 (dd u126 63 28 ([])))).toArray, []⟩) a ∧ rW5_L4 N p0 k l128 x129 = some r ∧ St (foots [rowE .u8 23 A0 c0 p0]) w0 w [rowE .u8 23 A0 c0 l128] ∧ p0.length = l128.length) N ?_ ?_
  ·exact ⟨l5, 0, selfA_i (by kernel_rfl), hO8, hS2, hn4⟩
  ·rintro k130 _ w124 ⟨l128, x129, hq170, hL131, hS125, hn127⟩
   obtain ⟨u126, rfl⟩ := selfA_u hq170
   cases k130 with
   | zero => cases hL131
   | succ k130 =>
    first | rw [rW5_L4] at hL131 | unfold rW5_L4 at hL131
    refine gx_seq (fun K132 hK133 => ?_)
    refine gx_seq (fun K134 hK135 => ?_)
    refine gx_region ?_
    refine gx_k (.int .i64 x129) w124 (gx_k (.slice A0 p0.length c0) w124 (gx_k (.int .i64 ((p0.length : Nat) : Int)) w124 ?_))
    rcases if_in hL131 with ⟨h136, hL131⟩ | ⟨h136, hL131⟩
    ·refine gx_v (.bool true) w124 (run_boolE (decide_eq_true h136) (by kernel_rfl)) ?_
     refine gx_nil ?_
     refine gx_thenN ?_
     refine hK135 _ _ ?_
     refine gx_yes (by kernel_rfl) ?_
     refine gx_pass ?_
     refine gx_thenN ?_
     refine hK133 _ _ ?_
     refine gx_seq (fun K137 hK138 => ?_)
     refine gx_block ?_
     refine gx_seq (fun K139 hK140 => ?_)
     refine gx_region ?_
     refine gx_k (.slice A0 p0.length c0) w124 (gx_k (.int .i64 x129) w124 ?_)
     obtain ⟨x141, hx142, hL131⟩ := bind_in hL131
     refine gx_v (.pointer (Option.map (fun (p : Addr) => p.add (Int.toNat x129 * 1)) A0)) w124 (run_ixaddr (E := 23) (s := 1) (k := .i64) (c := c0) rfl (by kernel_rfl) (by kernel_rfl) (by kernel_rfl) (fun _ => by kernel_rfl) (ix_in hx142).1 (lt_len hn127 (ix_in hx142).2.1) (nil_len hn127 (num_nil (hS125.row 0 rfl).1))) ?_
     refine gx_v (.int .u8 x141) w124 (run_loadix rfl (by kernel_rfl) (fun _ => by kernel_rfl) (hS125.row 0 rfl).1 hx142) ?_
     obtain ⟨c147, hE148, hO149⟩ := bind_in hL131
     refine gx_part (l1 := [_, _, _, _, _, _, _, _]) (fun a w => ∃ (b146 : Bool), selfA (fun u145 => ⟨((.slice A0 p0.length c0) :: undef :: dd u3 2 2 ((.int .i64 x129) :: dd u3 5 58 ((.int .i64 x129) :: (u145 64) :: (.int .i64 ((p0.length : Nat) : Int)) :: (.bool true) :: dd u126 67 2 ((u145 69) :: (.int .i64 x129) :: (.pointer (Option.map (fun (p : Addr) => p.add (Int.toNat x129 * 1)) A0)) :: (.int .u8 x141) :: dd u145 73 7 ((.bool b146) :: dd u126 81 10 ([])))))).toArray, []⟩) a ∧ b146 = c147 ∧ St (foots [rowE .u8 23 A0 c0 p0]) w0 w [rowE .u8 23 A0 c0 l128]) rfl ?_ ?_
     ·rcases if_in hE148 with ⟨h151, hE148⟩ | ⟨h151, hE148⟩
      ·refine gx_v (.bool true) w124 (run_boolE (decide_eq_true h151) (by kernel_rfl)) ?_
       refine gx_k (.bool true) w124 (gx_o (gx_o (gx_o (gx_o (gx_o (gx_k (.bool true) w124 ?_))))))
       refine gx_nil ?_
       refine gx_thenN ?_
       exact ⟨true, selfA_i (by kernel_rfl), (Option.some.inj hE148), hS125⟩
      ·refine gx_v (.bool false) w124 (run_boolE (decide_eq_false h151) (by kernel_rfl)) ?_
       refine gx_k (.bool false) w124 (gx_k (.slice A0 p0.length c0) w124 (gx_k (.int .i64 x129) w124 ?_))
       obtain ⟨x152, hx153, hE148⟩ := bind_in hE148
       refine gx_v (.pointer (Option.map (fun (p : Addr) => p.add (Int.toNat x129 * 1)) A0)) w124 (run_ixaddr (E := 23) (s := 1) (k := .i64) (c := c0) rfl (by kernel_rfl) (by kernel_rfl) (by kernel_rfl) (fun _ => by kernel_rfl) (ix_in hx153).1 (lt_len hn127 (ix_in hx153).2.1) (nil_len hn127 (num_nil (hS125.row 0 rfl).1))) ?_
       refine gx_v (.int .u8 x152) w124 (run_loadix rfl (by kernel_rfl) (fun _ => by kernel_rfl) (hS125.row 0 rfl).1 hx153) ?_
       rcases if_in hE148 with ⟨h154, hE148⟩ | ⟨h154, hE148⟩
       ·refine gx_v (.bool true) w124 (run_boolE (decide_eq_true h154) (by kernel_rfl)) ?_
        refine gx_k (.bool true) w124 ?_
        refine gx_nil ?_
        refine gx_thenN ?_
        exact ⟨true, selfA_i (by kernel_rfl), (Option.some.inj hE148), hS125⟩
       ·refine gx_v (.bool false) w124 (run_boolE (decide_eq_false h154) (by kernel_rfl)) ?_
        refine gx_k (.bool false) w124 ?_
        refine gx_nil ?_
        refine gx_thenN ?_
        exact ⟨false, selfA_i (by kernel_rfl), (Option.some.inj hE148), hS125⟩
     ·rintro _ w143 ⟨b146, hq150, rfl, hS144⟩
      obtain ⟨u145, rfl⟩ := selfA_u hq150
      try dsimp only at hO149
      refine gx_k (.bool b146) w143 ?_
      cases b146 with
      | true =>
       try dsimp only at hO149
       refine gx_o (gx_o (gx_o (gx_o (gx_o (gx_k (.bool true) w143 ?_)))))
       refine gx_nil ?_
       refine gx_thenN ?_
       refine hK140 _ _ ?_
       refine gx_yes (by kernel_rfl) ?_
       refine gx_region ?_
       refine gx_k (.slice A0 p0.length c0) w143 (gx_k (.int .i64 x129) w143 ?_)
       obtain ⟨x155, hx156, hO149⟩ := bind_in hO149
       refine gx_v (.pointer (Option.map (fun (p : Addr) => p.add (Int.toNat x129 * 1)) A0)) w143 (run_ixaddr (E := 23) (s := 1) (k := .i64) (c := c0) rfl (by kernel_rfl) (by kernel_rfl) (by kernel_rfl) (fun _ => by kernel_rfl) (ix_in hx156).1 (lt_len hn127 (ix_in hx156).2.1) (nil_len hn127 (num_nil (hS144.row 0 rfl).1))) ?_
       obtain ⟨l159, hx160, hO149⟩ := bind_in hO149
       refine gx_s (st_storeix rfl (by kernel_rfl) (by kernel_rfl) (fun _ => by kernel_rfl) hS144 0 rfl hx160) ?_
       rintro w157 hS158
       have hS158 : St _ _ w157 [rowE .u8 23 A0 c0 l159] := hS158
       refine gx_nil ?_
       refine gx_blkN ?_
       refine gx_thenN ?_
       refine hK138 _ _ ?_
       refine gx_region ?_
       refine gx_k (.int .i64 x129) w157 (gx_k (.int .i64 (IntKind.i64.wrap (x129 + 1))) w157 (gx_k (.int .i64 (IntKind.i64.wrap (x129 + 1))) w157 ?_))
       refine gx_nil ?_
       refine gx_thenN ?_
       exact ⟨k130, Nat.lt_succ_self k130, l159, (IntKind.i64.wrap (x129 + 1)), selfA_i (by kernel_rfl), hO149, hS158, (hn127.trans (setx_len hx160).symm)⟩
      | false =>
       try dsimp only at hO149
       refine gx_k (.slice A0 p0.length c0) w143 (gx_k (.int .i64 x129) w143 ?_)
       obtain ⟨x161, hx162, hO149⟩ := bind_in hO149
       refine gx_v (.pointer (Option.map (fun (p : Addr) => p.add (Int.toNat x129 * 1)) A0)) w143 (run_ixaddr (E := 23) (s := 1) (k := .i64) (c := c0) rfl (by kernel_rfl) (by kernel_rfl) (by kernel_rfl) (fun _ => by kernel_rfl) (ix_in hx162).1 (lt_len hn127 (ix_in hx162).2.1) (nil_len hn127 (num_nil (hS144.row 0 rfl).1))) ?_
       refine gx_v (.int .u8 x161) w143 (run_loadix rfl (by kernel_rfl) (fun _ => by kernel_rfl) (hS144.row 0 rfl).1 hx162) ?_
       rcases if_in hO149 with ⟨h163, hO149⟩ | ⟨h163, hO149⟩
       ·refine gx_v (.bool true) w143 (run_boolE (decide_eq_true h163) (by kernel_rfl)) ?_
        refine gx_k (.bool true) w143 ?_
        refine gx_nil ?_
        refine gx_thenN ?_
        refine hK140 _ _ ?_
        refine gx_yes (by kernel_rfl) ?_
        refine gx_region ?_
        refine gx_k (.slice A0 p0.length c0) w143 (gx_k (.int .i64 x129) w143 ?_)
        obtain ⟨x164, hx165, hO149⟩ := bind_in hO149
        refine gx_v (.pointer (Option.map (fun (p : Addr) => p.add (Int.toNat x129 * 1)) A0)) w143 (run_ixaddr (E := 23) (s := 1) (k := .i64) (c := c0) rfl (by kernel_rfl) (by kernel_rfl) (by kernel_rfl) (fun _ => by kernel_rfl) (ix_in hx165).1 (lt_len hn127 (ix_in hx165).2.1) (nil_len hn127 (num_nil (hS144.row 0 rfl).1))) ?_
        obtain ⟨l168, hx169, hO149⟩ := bind_in hO149
        refine gx_s (st_storeix rfl (by kernel_rfl) (by kernel_rfl) (fun _ => by kernel_rfl) hS144 0 rfl hx169) ?_
        rintro w166 hS167
        have hS167 : St _ _ w166 [rowE .u8 23 A0 c0 l168] := hS167
        refine gx_nil ?_
        refine gx_blkN ?_
        refine gx_thenN ?_
        refine hK138 _ _ ?_
        refine gx_region ?_
        refine gx_k (.int .i64 x129) w166 (gx_k (.int .i64 (IntKind.i64.wrap (x129 + 1))) w166 (gx_k (.int .i64 (IntKind.i64.wrap (x129 + 1))) w166 ?_))
        refine gx_nil ?_
        refine gx_thenN ?_
        exact ⟨k130, Nat.lt_succ_self k130, l168, (IntKind.i64.wrap (x129 + 1)), selfA_i (by kernel_rfl), hO149, hS167, (hn127.trans (setx_len hx169).symm)⟩
       ·refine gx_v (.bool false) w143 (run_boolE (decide_eq_false h163) (by kernel_rfl)) ?_
        refine gx_k (.bool false) w143 ?_
        refine gx_nil ?_
        refine gx_thenN ?_
        refine hK140 _ _ ?_
        refine gx_no (by kernel_rfl) ?_
        refine gx_pass ?_
        refine gx_blkN ?_
        refine gx_thenN ?_
        refine hK138 _ _ ?_
        refine gx_region ?_
        refine gx_k (.int .i64 x129) w143 (gx_k (.int .i64 (IntKind.i64.wrap (x129 + 1))) w143 (gx_k (.int .i64 (IntKind.i64.wrap (x129 + 1))) w143 ?_))
        refine gx_nil ?_
        refine gx_thenN ?_
        exact ⟨k130, Nat.lt_succ_self k130, l128, (IntKind.i64.wrap (x129 + 1)), selfA_i (by kernel_rfl), hO149, hS144, hn127⟩
    ·refine gx_v (.bool false) w124 (run_boolE (decide_eq_false h136) (by kernel_rfl)) ?_
     refine gx_nil ?_
     refine gx_thenN ?_
     refine hK135 _ _ ?_
     refine gx_no (by kernel_rfl) ?_
     refine gx_exit ?_
     refine gx_thenE ?_
     refine gx_thenE ?_
     refine gx_blkE ?_
     obtain rfl := Option.some.inj hL131
     exact gx_finN (.tuple #[]) (by kernel_rfl) (by kernel_rfl) ⟨_, rfl, rfl, hS125, (hn127).symm⟩

def rW7_L1 (N : Nat) (p0 : List Int) : Nat → (List Int) → Int → Int → Option (List Int)
 | 0, _, _, _ => none
 | k12+1, l9, x10, x11 => (if x11 < ((p0.length : Nat) : Int) then ((ix l9 x11).bind fun x23 => (((if x23 = 1 then some (true) else (if x23 = 2 then some (true) else some (false))) : Option (Bool)).bind fun b28 => (match b28 with | true => ((ix l9 x11).bind fun x36 => rW7_L1 N p0 k12 l9 x36 (IntKind.i64.wrap (x11 + 1))) | false => (if x23 = 4 then (if x10 = 1 then ((ix l9 x11).bind fun _x44 => ((setx l9 x11 1).bind fun l48 => rW7_L1 N p0 k12 l48 x10 (IntKind.i64.wrap (x11 + 1)))) else rW7_L1 N p0 k12 l9 x10 (IntKind.i64.wrap (x11 + 1))) else rW7_L1 N p0 k12 l9 x10 (IntKind.i64.wrap (x11 + 1)))))) else some l9)
def rW7 (N : Nat) (p0 : List Int) (p1 : Int) : Option (List Int) :=
 rW7_L1 N p0 N p0 p1 0

set_option linter.unusedVariables false in
def rW7_R (p0 : List Int) (p1 : Int) (A0 : Option Addr) (c0 : Nat) (r : List Int) (w0 : World) (v : Value) (w : World) : Prop := v = .tuple #[] ∧ St (foots [rowE .u8 23 A0 c0 p0]) w0 w [rowE .u8 23 A0 c0 r] ∧ r.length = p0.length

set_option maxRecDepth 100000 in
set_option maxHeartbeats 4000000 in
theorem rW7_ok (N : Nat) (p0 : List Int) (p1 : Int) (A0 : Option Addr) (c0 : Nat) (r : List Int) (hF : rW7 N p0 p1 = some r) (w0 : World) (hl : St (foots [rowE .u8 23 A0 c0 p0]) w0 w0 [rowE .u8 23 A0 c0 p0]) :
  Calls Try.prog 37 #[.slice A0 p0.length c0, .int .u8 p1] w0 fun e w => ∃ v, e = .returned v ∧ rW7_R p0 p1 A0 c0 r w0 v w := by
 have hS0 := hl
 unfold rW7 at hF
 refine calls_of Try.func37 rfl ⟨((.slice A0 p0.length c0) :: (.int .u8 p1) :: un 29 ([])).toArray, []⟩ (by kernel_rfl) ?_
 refine gx_seq (fun K1 hK2 => ?_)
 refine gx_region ?_
 refine gx_k (.int .u8 p1) w0 (gx_k (.int .u8 p1) w0 ?_)
 refine gx_nil ?_
 refine gx_thenN ?_
 refine hK2 _ _ ?_
 refine gx_seq (fun K3 hK4 => ?_)
 refine gx_region ?_
 refine gx_k (.int .i64 0) w0 ?_
 refine gx_nil ?_
 refine gx_thenN ?_
 refine hK4 _ _ ?_
 refine gx_block ?_
 refine gx_loop (fun k a w => ∃ (l9 : List Int) (x10 : Int) (x11 : Int), selfA (fun u7 => ⟨((.slice A0 p0.length c0) :: (.int .u8 p1) :: undef :: undef :: (.int .u8 x10) :: (.int .i64 x11) :: (.int .u8 p1) :: dd u7 7 24 ([])).toArray, []⟩) a ∧ rW7_L1 N p0 k l9 x10 x11 = some r ∧ St (foots [rowE .u8 23 A0 c0 p0]) w0 w [rowE .u8 23 A0 c0 l9] ∧ p0.length = l9.length) N ?_ ?_
 ·exact ⟨p0, p1, 0, selfA_i (by kernel_rfl), hF, hS0, rfl⟩
 ·rintro k12 _ w5 ⟨l9, x10, x11, hq51, hL13, hS6, hn8⟩
  obtain ⟨u7, rfl⟩ := selfA_u hq51
  cases k12 with
  | zero => cases hL13
  | succ k12 =>
   first | rw [rW7_L1] at hL13 | unfold rW7_L1 at hL13
   refine gx_seq (fun K14 hK15 => ?_)
   refine gx_seq (fun K16 hK17 => ?_)
   refine gx_region ?_
   refine gx_k (.int .i64 x11) w5 (gx_k (.slice A0 p0.length c0) w5 (gx_k (.int .i64 ((p0.length : Nat) : Int)) w5 ?_))
   rcases if_in hL13 with ⟨h18, hL13⟩ | ⟨h18, hL13⟩
   ·refine gx_v (.bool true) w5 (run_boolE (decide_eq_true h18) (by kernel_rfl)) ?_
    refine gx_nil ?_
    refine gx_thenN ?_
    refine hK17 _ _ ?_
    refine gx_yes (by kernel_rfl) ?_
    refine gx_pass ?_
    refine gx_thenN ?_
    refine hK15 _ _ ?_
    refine gx_seq (fun K19 hK20 => ?_)
    refine gx_block ?_
    refine gx_seq (fun K21 hK22 => ?_)
    refine gx_region ?_
    refine gx_k (.slice A0 p0.length c0) w5 (gx_k (.int .i64 x11) w5 ?_)
    obtain ⟨x23, hx24, hL13⟩ := bind_in hL13
    refine gx_v (.pointer (Option.map (fun (p : Addr) => p.add (Int.toNat x11 * 1)) A0)) w5 (run_ixaddr (E := 23) (s := 1) (k := .i64) (c := c0) rfl (by kernel_rfl) (by kernel_rfl) (by kernel_rfl) (fun _ => by kernel_rfl) (ix_in hx24).1 (lt_len hn8 (ix_in hx24).2.1) (nil_len hn8 (num_nil (hS6.row 0 rfl).1))) ?_
    refine gx_v (.int .u8 x23) w5 (run_loadix rfl (by kernel_rfl) (fun _ => by kernel_rfl) (hS6.row 0 rfl).1 hx24) ?_
    refine gx_nil ?_
    refine gx_thenN ?_
    refine hK22 _ _ ?_
    refine gx_block ?_
    obtain ⟨c29, hE30, hO31⟩ := bind_in hL13
    refine gx_cut (fun a w => ∃ (b28 : Bool), selfA (fun u27 => ⟨((.slice A0 p0.length c0) :: (.int .u8 p1) :: undef :: undef :: (.int .u8 x10) :: (.int .i64 x11) :: (.int .u8 p1) :: (.int .i64 x11) :: (u27 8) :: (.int .i64 ((p0.length : Nat) : Int)) :: (.bool true) :: dd u7 11 2 ((u27 13) :: (.int .i64 x11) :: (.pointer (Option.map (fun (p : Addr) => p.add (Int.toNat x11 * 1)) A0)) :: (.int .u8 x23) :: (.bool b28) :: dd u27 18 2 (dd u7 20 11 ([])))).toArray, []⟩) a ∧ b28 = c29 ∧ St (foots [rowE .u8 23 A0 c0 p0]) w0 w [rowE .u8 23 A0 c0 l9]) ?_ ?_
    ·refine gx_seq (fun K32 hK33 => ?_)
     refine gx_region ?_
     rcases if_in hE30 with ⟨h34, hE30⟩ | ⟨h34, hE30⟩
     ·refine gx_v (.bool true) w5 (run_boolE (decide_eq_true h34) (by kernel_rfl)) ?_
      refine gx_k (.bool true) w5 ?_
      refine gx_nil ?_
      refine gx_thenN ?_
      refine hK33 _ _ ?_
      refine gx_yes (by kernel_rfl) ?_
      refine gx_pass ?_
      refine gx_thenN ?_
      exact ⟨true, selfA_i (by kernel_rfl), (Option.some.inj hE30), hS6⟩
     ·refine gx_v (.bool false) w5 (run_boolE (decide_eq_false h34) (by kernel_rfl)) ?_
      refine gx_k (.bool false) w5 ?_
      refine gx_nil ?_
      refine gx_thenN ?_
      refine hK33 _ _ ?_
      refine gx_no (by kernel_rfl) ?_
      refine gx_region ?_
      rcases if_in hE30 with ⟨h35, hE30⟩ | ⟨h35, hE30⟩
      ·refine gx_v (.bool true) w5 (run_boolE (decide_eq_true h35) (by kernel_rfl)) ?_
       refine gx_k (.bool true) w5 ?_
       refine gx_nil ?_
       refine gx_thenN ?_
       exact ⟨true, selfA_i (by kernel_rfl), (Option.some.inj hE30), hS6⟩
      ·refine gx_v (.bool false) w5 (run_boolE (decide_eq_false h35) (by kernel_rfl)) ?_
       refine gx_k (.bool false) w5 ?_
       refine gx_nil ?_
       refine gx_thenN ?_
       exact ⟨false, selfA_i (by kernel_rfl), (Option.some.inj hE30), hS6⟩
    ·rintro _ w25 ⟨b28, hq50, rfl, hS26⟩
     obtain ⟨u27, rfl⟩ := selfA_u hq50
     try dsimp only at hO31
     cases b28 with
     | true =>
      try dsimp only at hO31
      refine gx_yes (by kernel_rfl) ?_
      refine gx_region ?_
      refine gx_k (.slice A0 p0.length c0) w25 (gx_k (.int .i64 x11) w25 ?_)
      obtain ⟨x36, hx37, hO31⟩ := bind_in hO31
      refine gx_v (.pointer (Option.map (fun (p : Addr) => p.add (Int.toNat x11 * 1)) A0)) w25 (run_ixaddr (E := 23) (s := 1) (k := .i64) (c := c0) rfl (by kernel_rfl) (by kernel_rfl) (by kernel_rfl) (fun _ => by kernel_rfl) (ix_in hx37).1 (lt_len hn8 (ix_in hx37).2.1) (nil_len hn8 (num_nil (hS26.row 0 rfl).1))) ?_
      refine gx_v (.int .u8 x36) w25 (run_loadix rfl (by kernel_rfl) (fun _ => by kernel_rfl) (hS26.row 0 rfl).1 hx37) ?_
      refine gx_k (.int .u8 x36) w25 ?_
      refine gx_nil ?_
      refine gx_blkN ?_
      refine gx_blkN ?_
      refine gx_thenN ?_
      refine hK20 _ _ ?_
      refine gx_region ?_
      refine gx_k (.int .i64 x11) w25 (gx_k (.int .i64 (IntKind.i64.wrap (x11 + 1))) w25 (gx_k (.int .i64 (IntKind.i64.wrap (x11 + 1))) w25 ?_))
      refine gx_nil ?_
      refine gx_thenN ?_
      exact ⟨k12, Nat.lt_succ_self k12, l9, x36, (IntKind.i64.wrap (x11 + 1)), selfA_i (by kernel_rfl), hO31, hS26, hn8⟩
     | false =>
      try dsimp only at hO31
      refine gx_no (by kernel_rfl) ?_
      refine gx_seq (fun K38 hK39 => ?_)
      refine gx_region ?_
      rcases if_in hO31 with ⟨h40, hO31⟩ | ⟨h40, hO31⟩
      ·refine gx_v (.bool true) w25 (run_boolE (decide_eq_true h40) (by kernel_rfl)) ?_
       refine gx_k (.bool true) w25 ?_
       refine gx_nil ?_
       refine gx_thenN ?_
       refine hK39 _ _ ?_
       refine gx_yes (by kernel_rfl) ?_
       refine gx_seq (fun K41 hK42 => ?_)
       refine gx_region ?_
       refine gx_k (.int .u8 x10) w25 ?_
       rcases if_in hO31 with ⟨h43, hO31⟩ | ⟨h43, hO31⟩
       ·refine gx_v (.bool true) w25 (run_boolE (decide_eq_true h43) (by kernel_rfl)) ?_
        refine gx_nil ?_
        refine gx_thenN ?_
        refine hK42 _ _ ?_
        refine gx_yes (by kernel_rfl) ?_
        refine gx_region ?_
        refine gx_k (.slice A0 p0.length c0) w25 (gx_k (.int .i64 x11) w25 ?_)
        obtain ⟨x44, hx45, hO31⟩ := bind_in hO31
        refine gx_v (.pointer (Option.map (fun (p : Addr) => p.add (Int.toNat x11 * 1)) A0)) w25 (run_ixaddr (E := 23) (s := 1) (k := .i64) (c := c0) rfl (by kernel_rfl) (by kernel_rfl) (by kernel_rfl) (fun _ => by kernel_rfl) (ix_in hx45).1 (lt_len hn8 (ix_in hx45).2.1) (nil_len hn8 (num_nil (hS26.row 0 rfl).1))) ?_
        obtain ⟨l48, hx49, hO31⟩ := bind_in hO31
        refine gx_s (st_storeix rfl (by kernel_rfl) (by kernel_rfl) (fun _ => by kernel_rfl) hS26 0 rfl hx49) ?_
        rintro w46 hS47
        have hS47 : St _ _ w46 [rowE .u8 23 A0 c0 l48] := hS47
        refine gx_nil ?_
        refine gx_blkN ?_
        refine gx_blkN ?_
        refine gx_thenN ?_
        refine hK20 _ _ ?_
        refine gx_region ?_
        refine gx_k (.int .i64 x11) w46 (gx_k (.int .i64 (IntKind.i64.wrap (x11 + 1))) w46 (gx_k (.int .i64 (IntKind.i64.wrap (x11 + 1))) w46 ?_))
        refine gx_nil ?_
        refine gx_thenN ?_
        exact ⟨k12, Nat.lt_succ_self k12, l48, x10, (IntKind.i64.wrap (x11 + 1)), selfA_i (by kernel_rfl), hO31, hS47, (hn8.trans (setx_len hx49).symm)⟩
       ·refine gx_v (.bool false) w25 (run_boolE (decide_eq_false h43) (by kernel_rfl)) ?_
        refine gx_nil ?_
        refine gx_thenN ?_
        refine hK42 _ _ ?_
        refine gx_no (by kernel_rfl) ?_
        refine gx_pass ?_
        refine gx_blkN ?_
        refine gx_blkN ?_
        refine gx_thenN ?_
        refine hK20 _ _ ?_
        refine gx_region ?_
        refine gx_k (.int .i64 x11) w25 (gx_k (.int .i64 (IntKind.i64.wrap (x11 + 1))) w25 (gx_k (.int .i64 (IntKind.i64.wrap (x11 + 1))) w25 ?_))
        refine gx_nil ?_
        refine gx_thenN ?_
        exact ⟨k12, Nat.lt_succ_self k12, l9, x10, (IntKind.i64.wrap (x11 + 1)), selfA_i (by kernel_rfl), hO31, hS26, hn8⟩
      ·refine gx_v (.bool false) w25 (run_boolE (decide_eq_false h40) (by kernel_rfl)) ?_
       refine gx_k (.bool false) w25 ?_
       refine gx_nil ?_
       refine gx_thenN ?_
       refine hK39 _ _ ?_
       refine gx_no (by kernel_rfl) ?_
       refine gx_pass ?_
       refine gx_blkN ?_
       refine gx_blkN ?_
       refine gx_thenN ?_
       refine hK20 _ _ ?_
       refine gx_region ?_
       refine gx_k (.int .i64 x11) w25 (gx_k (.int .i64 (IntKind.i64.wrap (x11 + 1))) w25 (gx_k (.int .i64 (IntKind.i64.wrap (x11 + 1))) w25 ?_))
       refine gx_nil ?_
       refine gx_thenN ?_
       exact ⟨k12, Nat.lt_succ_self k12, l9, x10, (IntKind.i64.wrap (x11 + 1)), selfA_i (by kernel_rfl), hO31, hS26, hn8⟩
   ·refine gx_v (.bool false) w5 (run_boolE (decide_eq_false h18) (by kernel_rfl)) ?_
    refine gx_nil ?_
    refine gx_thenN ?_
    refine hK17 _ _ ?_
    refine gx_no (by kernel_rfl) ?_
    refine gx_exit ?_
    refine gx_thenE ?_
    refine gx_thenE ?_
    refine gx_blkE ?_
    obtain rfl := Option.some.inj hL13
    exact gx_finN (.tuple #[]) (by kernel_rfl) (by kernel_rfl) ⟨_, rfl, rfl, hS6, (hn8).symm⟩

def rWeak_L1 (N : Nat) (p0 : List Int) : Nat → (List Int) → Int → Option (List Int)
 | 0, _, _ => none
 | k24+1, l22, x23 => (if x23 < ((p0.length : Nat) : Int) then ((ix p0 x23).bind fun x35 => (if x35 ≠ 10 then ((ix p0 x23).bind fun x38 => ((apx l22 ([x38])).bind fun l42 => rWeak_L1 N p0 k24 l42 (IntKind.i64.wrap (x23 + 1)))) else rWeak_L1 N p0 k24 l22 (IntKind.i64.wrap (x23 + 1)))) else some (l22))
def rWeak_L2 (N : Nat) (p0 : List Int) (l100 : List Int) : Nat → (List Int) → Int → Int → Option (List Int)
 | 0, _, _, _ => none
 | k129+1, l126, x127, x128 => (if x128 < ((p0.length : Nat) : Int) then ((ix p0 x128).bind fun x140 => (if x140 = 10 then ((apx l126 ([10])).bind fun l145 => rWeak_L2 N p0 l100 k129 l145 x127 (IntKind.i64.wrap (x128 + 1))) else ((ix l100 x127).bind fun x154 => ((apx l126 ([x154])).bind fun l158 => rWeak_L2 N p0 l100 k129 l158 (IntKind.i64.wrap (x127 + 1)) (IntKind.i64.wrap (x128 + 1)))))) else some (l126))
def rWeak (N : Nat) (p0 : List Int) (p1 : Int) : Option (List Int) :=
 ((rWeak_L1 N p0 N ([]) 0 : Option (List Int)).bind fun l10 => (((if p1 ≠ 2 then some (1) else some (p1)) : Option (Int)).bind fun x53 => ((rW1 N l10 x53).bind fun l64 => ((rW2 N l64 x53).bind fun l73 => ((rW4 N l73).bind fun l82 => ((rW5 N l82).bind fun l91 => ((rW7 N l91 x53).bind fun l100 => ((rWeak_L2 N p0 l100 N ([]) 0 0 : Option (List Int)).bind fun l114 => some l114))))))))

set_option linter.unusedVariables false in
def rWeak_R (r : List Int) (w0 : World) (v : Value) (w : World) : Prop := ∃ (A0' : Option Addr) (c0' : Nat), v = .slice A0' r.length c0' ∧ St [] w0 w [rowE .u8 23 A0' c0' r]

set_option maxRecDepth 100000 in
set_option maxHeartbeats 4000000 in
theorem rWeak_ok (N : Nat) (p0 : List Int) (p1 : Int) (A0 : Option Addr) (c0 : Nat) (r : List Int) (hF : rWeak N p0 p1 = some r) (w0 : World) (hv0 : Vw [] .u8 w0 A0 c0 p0) :
  Calls Try.prog 19 #[.slice A0 p0.length c0, .int .u8 p1] w0 fun e w => ∃ v, e = .returned v ∧ rWeak_R r w0 v w := by
 have hS0 := St.start w0
 unfold rWeak at hF
 refine calls_of Try.func19 rfl ⟨((.slice A0 p0.length c0) :: (.int .u8 p1) :: un 65 ([])).toArray, []⟩ (by kernel_rfl) ?_
 refine gx_seq (fun K1 hK2 => ?_)
 refine gx_region ?_
 refine gx_k (.slice none 0 0) w0 ?_
 refine gx_nil ?_
 refine gx_thenN ?_
 refine hK2 _ _ ?_
 refine gx_seq (fun K3 hK4 => ?_)
 refine gx_region ?_
 refine gx_k (.slice none 0 0) w0 ?_
 refine gx_nil ?_
 refine gx_thenN ?_
 refine hK4 _ _ ?_
 obtain ⟨c11, hE12, hO13⟩ := bind_in hF
 refine gx_cut (fun a w => ∃ (l10 : List Int) (A8 : Option Addr) (c9 : Nat), selfA (fun u7 => ⟨((.slice A0 p0.length c0) :: (.int .u8 p1) :: undef :: undef :: (.slice none 0 0) :: (.slice A8 l10.length c9) :: (u7 6) :: un 3 (dd u7 10 18 (un 39 ([])))).toArray, []⟩) a ∧ l10 = c11 ∧ St [] w0 w [rowE .u8 23 A8 c9 l10]) ?_ ?_
 ·refine gx_seq (fun K14 hK15 => ?_)
  refine gx_region ?_
  refine gx_k (.int .i64 0) w0 ?_
  refine gx_nil ?_
  refine gx_thenN ?_
  refine hK15 _ _ ?_
  refine gx_block ?_
  have hS16 : St _ _ w0 [rowE .u8 23 none 0 ([])] := hS0.nilrow .u8 23
  refine gx_loop (fun k a w => ∃ (l22 : List Int) (x23 : Int) (A20 : Option Addr) (c21 : Nat), selfA (fun u19 => ⟨((.slice A0 p0.length c0) :: (.int .u8 p1) :: undef :: undef :: (.slice none 0 0) :: (.slice A20 l22.length c21) :: (.int .i64 x23) :: un 3 (dd u19 10 18 (un 39 ([])))).toArray, []⟩) a ∧ rWeak_L1 N p0 k l22 x23 = some c11 ∧ St [] w0 w [rowE .u8 23 A20 c21 l22]) N ?_ ?_
  ·exact ⟨([]), 0, none, 0, selfA_i (by kernel_rfl), hE12, hS16⟩
  ·rintro k24 _ w17 ⟨l22, x23, A20, c21, hq49, hL25, hS18⟩
   obtain ⟨u19, rfl⟩ := selfA_u hq49
   cases k24 with
   | zero => cases hL25
   | succ k24 =>
    first | rw [rWeak_L1] at hL25 | unfold rWeak_L1 at hL25
    refine gx_seq (fun K26 hK27 => ?_)
    refine gx_seq (fun K28 hK29 => ?_)
    refine gx_region ?_
    refine gx_k (.int .i64 x23) w17 (gx_k (.slice A0 p0.length c0) w17 (gx_k (.int .i64 ((p0.length : Nat) : Int)) w17 ?_))
    rcases if_in hL25 with ⟨h30, hL25⟩ | ⟨h30, hL25⟩
    ·refine gx_v (.bool true) w17 (run_boolE (decide_eq_true h30) (by kernel_rfl)) ?_
     refine gx_nil ?_
     refine gx_thenN ?_
     refine hK29 _ _ ?_
     refine gx_yes (by kernel_rfl) ?_
     refine gx_pass ?_
     refine gx_thenN ?_
     refine hK27 _ _ ?_
     refine gx_seq (fun K31 hK32 => ?_)
     refine gx_block ?_
     refine gx_seq (fun K33 hK34 => ?_)
     refine gx_region ?_
     refine gx_k (.slice A0 p0.length c0) w17 (gx_k (.int .i64 x23) w17 ?_)
     obtain ⟨x35, hx36, hL25⟩ := bind_in hL25
     refine gx_v (.pointer (Option.map (fun (p : Addr) => p.add (Int.toNat x23 * 1)) A0)) w17 (run_ixaddr (E := 23) (s := 1) (k := .i64) (c := c0) rfl (by kernel_rfl) (by kernel_rfl) (by kernel_rfl) (fun _ => by kernel_rfl) (ix_in hx36).1 (ix_in hx36).2.1 (num_nil (hS18.view hv0))) ?_
     refine gx_v (.int .u8 x35) w17 (run_loadix rfl (by kernel_rfl) (fun _ => by kernel_rfl) (hS18.view hv0) hx36) ?_
     rcases if_in hL25 with ⟨h37, hL25⟩ | ⟨h37, hL25⟩
     ·refine gx_v (.bool true) w17 (run_boolE (ne_yes h37) (by kernel_rfl)) ?_
      refine gx_nil ?_
      refine gx_thenN ?_
      refine hK34 _ _ ?_
      refine gx_yes (by kernel_rfl) ?_
      refine gx_region ?_
      refine gx_k (.slice A20 l22.length c21) w17 (gx_k (.slice A0 p0.length c0) w17 (gx_k (.int .i64 x23) w17 ?_))
      obtain ⟨x38, hx39, hL25⟩ := bind_in hL25
      refine gx_v (.pointer (Option.map (fun (p : Addr) => p.add (Int.toNat x23 * 1)) A0)) w17 (run_ixaddr (E := 23) (s := 1) (k := .i64) (c := c0) rfl (by kernel_rfl) (by kernel_rfl) (by kernel_rfl) (fun _ => by kernel_rfl) (ix_in hx39).1 (ix_in hx39).2.1 (num_nil (hS18.view hv0))) ?_
      refine gx_v (.int .u8 x38) w17 (run_loadix rfl (by kernel_rfl) (fun _ => by kernel_rfl) (hS18.view hv0) hx39) ?_
      refine gx_r (st_made .u8 23 [x38] hS18 (by show 1 ≤ 1000000000; decide) (by kernel_rfl)) ?_
      rintro _ w40 ⟨rfl, hS41⟩
      have hS41 : St _ _ w40 [rowE .u8 23 A20 c21 l22, rowE .u8 23 (some ⟨w17.heap.size, 0, none⟩) 1 ([x38])] := hS41
      obtain ⟨l42, ha43, hL25⟩ := bind_in hL25
      obtain ⟨ha43, hq44⟩ := apx_in ha43
      refine gx_r (st_append rfl (by kernel_rfl) (by kernel_rfl) hS41 0 rfl (hS41.row 1 rfl).1 (hS41.row 1 rfl).2 ha43 (by kernel_rfl) (by kernel_rfl)) ?_
      rintro _ w47 ⟨A45, c46, rfl, hS48⟩
      rw [← hq44] at hS48 ⊢
      have hS48 : St _ _ w47 [rowE .u8 23 A45 c46 l42, rowE .u8 23 (some ⟨w17.heap.size, 0, none⟩) 1 ([x38])] := hS48
      refine gx_k (.slice A45 l42.length c46) w47 ?_
      refine gx_nil ?_
      refine gx_blkN ?_
      refine gx_thenN ?_
      refine hK32 _ _ ?_
      refine gx_region ?_
      refine gx_k (.int .i64 x23) w47 (gx_k (.int .i64 (IntKind.i64.wrap (x23 + 1))) w47 (gx_k (.int .i64 (IntKind.i64.wrap (x23 + 1))) w47 ?_))
      refine gx_nil ?_
      refine gx_thenN ?_
      exact ⟨k24, Nat.lt_succ_self k24, l42, (IntKind.i64.wrap (x23 + 1)), A45, c46, selfA_i (by kernel_rfl), hL25, (hS48.pick [0] rfl rfl)⟩
     ·refine gx_v (.bool false) w17 (run_boolE (ne_no h37) (by kernel_rfl)) ?_
      refine gx_nil ?_
      refine gx_thenN ?_
      refine hK34 _ _ ?_
      refine gx_no (by kernel_rfl) ?_
      refine gx_pass ?_
      refine gx_blkN ?_
      refine gx_thenN ?_
      refine hK32 _ _ ?_
      refine gx_region ?_
      refine gx_k (.int .i64 x23) w17 (gx_k (.int .i64 (IntKind.i64.wrap (x23 + 1))) w17 (gx_k (.int .i64 (IntKind.i64.wrap (x23 + 1))) w17 ?_))
      refine gx_nil ?_
      refine gx_thenN ?_
      exact ⟨k24, Nat.lt_succ_self k24, l22, (IntKind.i64.wrap (x23 + 1)), A20, c21, selfA_i (by kernel_rfl), hL25, hS18⟩
    ·refine gx_v (.bool false) w17 (run_boolE (decide_eq_false h30) (by kernel_rfl)) ?_
     refine gx_nil ?_
     refine gx_thenN ?_
     refine hK29 _ _ ?_
     refine gx_no (by kernel_rfl) ?_
     refine gx_exit ?_
     refine gx_thenE ?_
     refine gx_thenE ?_
     refine gx_blkE ?_
     refine gx_thenN ?_
     exact ⟨l22, A20, c21, selfA_i (by kernel_rfl), (Option.some.inj hL25), hS18⟩
 ·rintro _ w5 ⟨l10, A8, c9, hq170, rfl, hS6⟩
  obtain ⟨u7, rfl⟩ := selfA_u hq170
  try dsimp only at hO13
  obtain ⟨c54, hE55, hO56⟩ := bind_in hO13
  refine gx_cut (fun a w => ∃ (x53 : Int), selfA (fun u52 => ⟨((.slice A0 p0.length c0) :: (.int .u8 x53) :: undef :: undef :: (.slice none 0 0) :: (.slice A8 l10.length c9) :: (u7 6) :: un 3 (dd u7 10 18 (dd u52 28 2 (un 37 ([]))))).toArray, []⟩) a ∧ x53 = c54 ∧ St [] w0 w [rowE .u8 23 A8 c9 l10]) ?_ ?_
  ·refine gx_seq (fun K57 hK58 => ?_)
   refine gx_region ?_
   refine gx_k (.int .u8 p1) w5 ?_
   rcases if_in hE55 with ⟨h59, hE55⟩ | ⟨h59, hE55⟩
   ·refine gx_v (.bool true) w5 (run_boolE (ne_yes h59) (by kernel_rfl)) ?_
    refine gx_nil ?_
    refine gx_thenN ?_
    refine hK58 _ _ ?_
    refine gx_yes (by kernel_rfl) ?_
    refine gx_region ?_
    refine gx_k (.int .u8 1) w5 ?_
    refine gx_nil ?_
    refine gx_thenN ?_
    exact ⟨1, selfA_i (by kernel_rfl), (Option.some.inj hE55), hS6⟩
   ·refine gx_v (.bool false) w5 (run_boolE (ne_no h59) (by kernel_rfl)) ?_
    refine gx_nil ?_
    refine gx_thenN ?_
    refine hK58 _ _ ?_
    refine gx_no (by kernel_rfl) ?_
    refine gx_pass ?_
    refine gx_thenN ?_
    exact ⟨p1, selfA_i (by kernel_rfl), (Option.some.inj hE55), hS6⟩
  ·rintro _ w50 ⟨x53, hq169, rfl, hS51⟩
   obtain ⟨u52, rfl⟩ := selfA_u hq169
   try dsimp only at hO56
   refine gx_seq (fun K60 hK61 => ?_)
   refine gx_region ?_
   refine gx_k (.slice A8 l10.length c9) w50 (gx_k (.int .u8 x53) w50 ?_)
   have hP62 : St _ _ w50 ([rowE .u8 23 A8 c9 l10] ++ []) := hS51
   obtain ⟨l64, hc63, hO56⟩ := bind_in hO56
   try dsimp only at hO56
   refine gx_c (rW1_R l10 x53 A8 c9 l64 w50) (rW1_ok N l10 x53 A8 c9 _ hc63 w50 hP62.part) ?_
   rintro _ w66 ⟨rfl, hT68, hl65⟩
   have hS67 : St _ _ w66 [rowE .u8 23 A8 c9 l64] := hP62.lendN _ hT68
   refine gx_nil ?_
   refine gx_thenN ?_
   refine hK61 _ _ ?_
   refine gx_seq (fun K69 hK70 => ?_)
   refine gx_region ?_
   refine gx_k (.slice A8 l10.length c9) w66 (gx_k (.int .u8 x53) w66 ?_)
   have hP71 : St _ _ w66 ([rowE .u8 23 A8 c9 l64] ++ []) := hS67
   obtain ⟨l73, hc72, hO56⟩ := bind_in hO56
   try dsimp only at hO56
   refine gx_call (rW2_R l64 x53 A8 c9 l73 w66) (by kernel_rfl) (by rw [← hl65.symm] <;> kernel_rfl) (rW2_ok N l64 x53 A8 c9 _ hc72 w66 hP71.part) ?_
   rintro _ w75 ⟨rfl, hT77, hl74⟩
   have hS76 : St _ _ w75 [rowE .u8 23 A8 c9 l73] := hP71.lendN _ hT77
   refine gx_nil ?_
   refine gx_thenN ?_
   refine hK70 _ _ ?_
   refine gx_seq (fun K78 hK79 => ?_)
   refine gx_region ?_
   refine gx_k (.slice A8 l10.length c9) w75 ?_
   have hP80 : St _ _ w75 ([rowE .u8 23 A8 c9 l73] ++ []) := hS76
   obtain ⟨l82, hc81, hO56⟩ := bind_in hO56
   try dsimp only at hO56
   refine gx_call (rW4_R l73 A8 c9 l82 w75) (by kernel_rfl) (by rw [← (hl65.symm.trans hl74.symm)] <;> kernel_rfl) (rW4_ok N l73 A8 c9 _ hc81 w75 hP80.part) ?_
   rintro _ w84 ⟨rfl, hT86, hl83⟩
   have hS85 : St _ _ w84 [rowE .u8 23 A8 c9 l82] := hP80.lendN _ hT86
   refine gx_nil ?_
   refine gx_thenN ?_
   refine hK79 _ _ ?_
   refine gx_seq (fun K87 hK88 => ?_)
   refine gx_region ?_
   refine gx_k (.slice A8 l10.length c9) w84 ?_
   have hP89 : St _ _ w84 ([rowE .u8 23 A8 c9 l82] ++ []) := hS85
   obtain ⟨l91, hc90, hO56⟩ := bind_in hO56
   try dsimp only at hO56
   refine gx_call (rW5_R l82 A8 c9 l91 w84) (by kernel_rfl) (by rw [← ((hl65.symm.trans hl74.symm).trans hl83.symm)] <;> kernel_rfl) (rW5_ok N l82 A8 c9 _ hc90 w84 hP89.part) ?_
   rintro _ w93 ⟨rfl, hT95, hl92⟩
   have hS94 : St _ _ w93 [rowE .u8 23 A8 c9 l91] := hP89.lendN _ hT95
   refine gx_nil ?_
   refine gx_thenN ?_
   refine hK88 _ _ ?_
   refine gx_seq (fun K96 hK97 => ?_)
   refine gx_region ?_
   refine gx_k (.slice A8 l10.length c9) w93 (gx_k (.int .u8 x53) w93 ?_)
   have hP98 : St _ _ w93 ([rowE .u8 23 A8 c9 l91] ++ []) := hS94
   obtain ⟨l100, hc99, hO56⟩ := bind_in hO56
   try dsimp only at hO56
   refine gx_call (rW7_R l91 x53 A8 c9 l100 w93) (by kernel_rfl) (by rw [← (((hl65.symm.trans hl74.symm).trans hl83.symm).trans hl92.symm)] <;> kernel_rfl) (rW7_ok N l91 x53 A8 c9 _ hc99 w93 hP98.part) ?_
   rintro _ w102 ⟨rfl, hT104, hl101⟩
   have hS103 : St _ _ w102 [rowE .u8 23 A8 c9 l100] := hP98.lendN _ hT104
   refine gx_nil ?_
   refine gx_thenN ?_
   refine hK97 _ _ ?_
   refine gx_seq (fun K105 hK106 => ?_)
   refine gx_region ?_
   refine gx_k (.slice none 0 0) w102 ?_
   refine gx_nil ?_
   refine gx_thenN ?_
   refine hK106 _ _ ?_
   refine gx_seq (fun K107 hK108 => ?_)
   refine gx_region ?_
   refine gx_k (.int .i64 0) w102 ?_
   refine gx_nil ?_
   refine gx_thenN ?_
   refine hK108 _ _ ?_
   obtain ⟨c115, hE116, hO117⟩ := bind_in hO56
   refine gx_cut (fun a w => ∃ (l114 : List Int) (A112 : Option Addr) (c113 : Nat), selfA (fun u111 => ⟨((u111 0) :: (.int .u8 x53) :: undef :: undef :: (.slice none 0 0) :: (u111 5) :: (u7 6) :: (.slice A112 l114.length c113) :: dd u111 8 2 (dd u7 10 18 (dd u52 28 2 ((u111 30) :: (.int .u8 x53) :: dd u111 32 2 ((.int .u8 x53) :: dd u111 35 6 ((.int .u8 x53) :: dd u111 42 24 (undef :: []))))))).toArray, []⟩) a ∧ l114 = c115 ∧ St [] w0 w [rowE .u8 23 A112 c113 l114]) ?_ ?_
   ·refine gx_seq (fun K118 hK119 => ?_)
    refine gx_region ?_
    refine gx_k (.int .i64 0) w102 ?_
    refine gx_nil ?_
    refine gx_thenN ?_
    refine hK119 _ _ ?_
    refine gx_block ?_
    have hS120 : St _ _ w102 [rowE .u8 23 A8 c9 l100, rowE .u8 23 none 0 ([])] := hS103.nilrow .u8 23
    refine gx_loop (fun k a w => ∃ (l126 : List Int) (x127 : Int) (x128 : Int) (A124 : Option Addr) (c125 : Nat), selfA (fun u123 => ⟨((.slice A0 p0.length c0) :: (.int .u8 x53) :: undef :: undef :: (.slice none 0 0) :: (.slice A8 l10.length c9) :: (u7 6) :: (.slice A124 l126.length c125) :: (.int .i64 x127) :: (.int .i64 x128) :: dd u7 10 18 (dd u52 28 2 ((u123 30) :: (.int .u8 x53) :: dd u123 32 2 ((.int .u8 x53) :: dd u123 35 6 ((.int .u8 x53) :: dd u123 42 24 (undef :: [])))))).toArray, []⟩) a ∧ rWeak_L2 N p0 l100 k l126 x127 x128 = some c115 ∧ St [] w0 w [rowE .u8 23 A8 c9 l100, rowE .u8 23 A124 c125 l126]) N ?_ ?_
    ·exact ⟨([]), 0, 0, none, 0, selfA_i (by kernel_rfl), hE116, hS120⟩
    ·rintro k129 _ w121 ⟨l126, x127, x128, A124, c125, hq165, hL130, hS122⟩
     obtain ⟨u123, rfl⟩ := selfA_u hq165
     cases k129 with
     | zero => cases hL130
     | succ k129 =>
      first | rw [rWeak_L2] at hL130 | unfold rWeak_L2 at hL130
      refine gx_seq (fun K131 hK132 => ?_)
      refine gx_seq (fun K133 hK134 => ?_)
      refine gx_region ?_
      refine gx_k (.int .i64 x128) w121 (gx_k (.slice A0 p0.length c0) w121 (gx_k (.int .i64 ((p0.length : Nat) : Int)) w121 ?_))
      rcases if_in hL130 with ⟨h135, hL130⟩ | ⟨h135, hL130⟩
      ·refine gx_v (.bool true) w121 (run_boolE (decide_eq_true h135) (by kernel_rfl)) ?_
       refine gx_nil ?_
       refine gx_thenN ?_
       refine hK134 _ _ ?_
       refine gx_yes (by kernel_rfl) ?_
       refine gx_pass ?_
       refine gx_thenN ?_
       refine hK132 _ _ ?_
       refine gx_seq (fun K136 hK137 => ?_)
       refine gx_block ?_
       refine gx_seq (fun K138 hK139 => ?_)
       refine gx_region ?_
       refine gx_k (.slice A0 p0.length c0) w121 (gx_k (.int .i64 x128) w121 ?_)
       obtain ⟨x140, hx141, hL130⟩ := bind_in hL130
       refine gx_v (.pointer (Option.map (fun (p : Addr) => p.add (Int.toNat x128 * 1)) A0)) w121 (run_ixaddr (E := 23) (s := 1) (k := .i64) (c := c0) rfl (by kernel_rfl) (by kernel_rfl) (by kernel_rfl) (fun _ => by kernel_rfl) (ix_in hx141).1 (ix_in hx141).2.1 (num_nil (hS122.view hv0))) ?_
       refine gx_v (.int .u8 x140) w121 (run_loadix rfl (by kernel_rfl) (fun _ => by kernel_rfl) (hS122.view hv0) hx141) ?_
       rcases if_in hL130 with ⟨h142, hL130⟩ | ⟨h142, hL130⟩
       ·refine gx_v (.bool true) w121 (run_boolE (decide_eq_true h142) (by kernel_rfl)) ?_
        refine gx_nil ?_
        refine gx_thenN ?_
        refine hK139 _ _ ?_
        refine gx_yes (by kernel_rfl) ?_
        refine gx_region ?_
        refine gx_k (.slice A124 l126.length c125) w121 ?_
        refine gx_r (st_made .u8 23 [10] hS122 (by show 1 ≤ 1000000000; decide) (by kernel_rfl)) ?_
        rintro _ w143 ⟨rfl, hS144⟩
        have hS144 : St _ _ w143 [rowE .u8 23 A8 c9 l100, rowE .u8 23 A124 c125 l126, rowE .u8 23 (some ⟨w121.heap.size, 0, none⟩) 1 ([10])] := hS144
        obtain ⟨l145, ha146, hL130⟩ := bind_in hL130
        obtain ⟨ha146, hq147⟩ := apx_in ha146
        refine gx_r (st_append rfl (by kernel_rfl) (by kernel_rfl) hS144 1 rfl (hS144.row 2 rfl).1 (hS144.row 2 rfl).2 ha146 (by kernel_rfl) (by kernel_rfl)) ?_
        rintro _ w150 ⟨A148, c149, rfl, hS151⟩
        rw [← hq147] at hS151 ⊢
        have hS151 : St _ _ w150 [rowE .u8 23 A8 c9 l100, rowE .u8 23 A148 c149 l145, rowE .u8 23 (some ⟨w121.heap.size, 0, none⟩) 1 ([10])] := hS151
        refine gx_k (.slice A148 l145.length c149) w150 ?_
        refine gx_nil ?_
        refine gx_blkN ?_
        refine gx_thenN ?_
        refine hK137 _ _ ?_
        refine gx_region ?_
        refine gx_k (.int .i64 x128) w150 (gx_k (.int .i64 (IntKind.i64.wrap (x128 + 1))) w150 (gx_k (.int .i64 (IntKind.i64.wrap (x128 + 1))) w150 ?_))
        refine gx_nil ?_
        refine gx_thenN ?_
        exact ⟨k129, Nat.lt_succ_self k129, l145, x127, (IntKind.i64.wrap (x128 + 1)), A148, c149, selfA_i (by kernel_rfl), hL130, (hS151.pick [0, 1] rfl rfl)⟩
       ·refine gx_v (.bool false) w121 (run_boolE (decide_eq_false h142) (by kernel_rfl)) ?_
        refine gx_nil ?_
        refine gx_thenN ?_
        refine hK139 _ _ ?_
        refine gx_no (by kernel_rfl) ?_
        refine gx_seq (fun K152 hK153 => ?_)
        refine gx_region ?_
        refine gx_k (.slice A124 l126.length c125) w121 (gx_k (.slice A8 l10.length c9) w121 (gx_k (.int .i64 x127) w121 ?_))
        obtain ⟨x154, hx155, hL130⟩ := bind_in hL130
        refine gx_v (.pointer (Option.map (fun (p : Addr) => p.add (Int.toNat x127 * 1)) A8)) w121 (run_ixaddr (E := 23) (s := 1) (k := .i64) (c := c9) rfl (by kernel_rfl) (by kernel_rfl) (by kernel_rfl) (fun _ => by kernel_rfl) (ix_in hx155).1 (lt_len ((((hl65.symm.trans hl74.symm).trans hl83.symm).trans hl92.symm).trans hl101.symm) (ix_in hx155).2.1) (nil_len ((((hl65.symm.trans hl74.symm).trans hl83.symm).trans hl92.symm).trans hl101.symm) (num_nil (hS122.row 0 rfl).1))) ?_
        refine gx_v (.int .u8 x154) w121 (run_loadix rfl (by kernel_rfl) (fun _ => by kernel_rfl) (hS122.row 0 rfl).1 hx155) ?_
        refine gx_r (st_made .u8 23 [x154] hS122 (by show 1 ≤ 1000000000; decide) (by kernel_rfl)) ?_
        rintro _ w156 ⟨rfl, hS157⟩
        have hS157 : St _ _ w156 [rowE .u8 23 A8 c9 l100, rowE .u8 23 A124 c125 l126, rowE .u8 23 (some ⟨w121.heap.size, 0, none⟩) 1 ([x154])] := hS157
        obtain ⟨l158, ha159, hL130⟩ := bind_in hL130
        obtain ⟨ha159, hq160⟩ := apx_in ha159
        refine gx_r (st_append rfl (by kernel_rfl) (by kernel_rfl) hS157 1 rfl (hS157.row 2 rfl).1 (hS157.row 2 rfl).2 ha159 (by kernel_rfl) (by kernel_rfl)) ?_
        rintro _ w163 ⟨A161, c162, rfl, hS164⟩
        rw [← hq160] at hS164 ⊢
        have hS164 : St _ _ w163 [rowE .u8 23 A8 c9 l100, rowE .u8 23 A161 c162 l158, rowE .u8 23 (some ⟨w121.heap.size, 0, none⟩) 1 ([x154])] := hS164
        refine gx_k (.slice A161 l158.length c162) w163 ?_
        refine gx_nil ?_
        refine gx_thenN ?_
        refine hK153 _ _ ?_
        refine gx_region ?_
        refine gx_k (.int .i64 x127) w163 (gx_k (.int .i64 (IntKind.i64.wrap (x127 + 1))) w163 (gx_k (.int .i64 (IntKind.i64.wrap (x127 + 1))) w163 ?_))
        refine gx_nil ?_
        refine gx_blkN ?_
        refine gx_thenN ?_
        refine hK137 _ _ ?_
        refine gx_region ?_
        refine gx_k (.int .i64 x128) w163 (gx_k (.int .i64 (IntKind.i64.wrap (x128 + 1))) w163 (gx_k (.int .i64 (IntKind.i64.wrap (x128 + 1))) w163 ?_))
        refine gx_nil ?_
        refine gx_thenN ?_
        exact ⟨k129, Nat.lt_succ_self k129, l158, (IntKind.i64.wrap (x127 + 1)), (IntKind.i64.wrap (x128 + 1)), A161, c162, selfA_i (by kernel_rfl), hL130, (hS164.pick [0, 1] rfl rfl)⟩
      ·refine gx_v (.bool false) w121 (run_boolE (decide_eq_false h135) (by kernel_rfl)) ?_
       refine gx_nil ?_
       refine gx_thenN ?_
       refine hK134 _ _ ?_
       refine gx_no (by kernel_rfl) ?_
       refine gx_exit ?_
       refine gx_thenE ?_
       refine gx_thenE ?_
       refine gx_blkE ?_
       refine gx_thenN ?_
       exact ⟨l126, A124, c125, selfA_i (by kernel_rfl), (Option.some.inj hL130), (hS122.pick [1] rfl rfl)⟩
   ·rintro _ w109 ⟨l114, A112, c113, hq168, rfl, hS110⟩
    obtain ⟨u111, rfl⟩ := selfA_u hq168
    try dsimp only at hO117
    refine gx_seq (fun K166 hK167 => ?_)
    refine gx_region ?_
    refine gx_k (.slice A112 l114.length c113) w109 (gx_k (.slice A112 l114.length c113) w109 ?_)
    refine gx_nil ?_
    refine gx_thenN ?_
    refine hK167 _ _ ?_
    refine gx_ret ?_
    obtain rfl := Option.some.inj hO117
    exact gx_fin (.slice A112 l114.length c113) (by kernel_rfl) (by kernel_rfl) ⟨_, rfl, A112, c113, rfl, hS110⟩

end Go.Proofs.Ytdpcaidhpccaiaa
