/-
  The program, walked.
-/
import Derived.Test.YtapfdafmhiilkaaGl
namespace Go.Proofs.Ytapfdafmhiilkaa
open Go Go.RowKit
set_option linter.unusedVariables false

def pInit (_N : Nat) (p0 : Int) : Option (Bool) :=
 (if p0 = 20 then some true else (if p0 = 21 then some true else some (decide (p0 = 22))))

set_option linter.unusedVariables false in
def pInit_R (r : Bool) (w0 : World) (v : Value) (w : World) : Prop := v = .bool r ∧ St [] w0 w []

set_option maxRecDepth 100000 in
set_option maxHeartbeats 4000000 in
theorem pInit_ok (N : Nat) (p0 : Int)  (r : Bool) (hF : pInit N p0 = some r) (w0 : World)  :
  Calls Try.prog 31 #[.int .u8 p0] w0 fun e w => ∃ v, e = .returned v ∧ pInit_R r w0 v w := by
 have hS0 := St.start w0
 unfold pInit at hF
 refine calls_of Try.func31 rfl ⟨((.int .u8 p0) :: un 12 ([])).toArray, []⟩ (by kernel_rfl) ?_
 refine gx_seq (fun K1 hK2 => ?_)
 refine gx_region ?_
 refine gx_k (.bool false) w0 ?_
 refine gx_nil ?_
 refine gx_thenN ?_
 refine hK2 _ _ ?_
 refine gx_seq (fun K3 hK4 => ?_)
 refine gx_region ?_
 refine gx_k (.int .u8 p0) w0 ?_
 rcases if_in hF with ⟨h5, hF⟩ | ⟨h5, hF⟩
 ·refine gx_v (.bool true) w0 (run_boolE (decide_eq_true h5) (by kernel_rfl)) ?_
  refine gx_k (.bool true) w0 (gx_o (gx_o (gx_k (.bool true) w0 (gx_k (.bool true) w0 (gx_o (gx_o (gx_k (.bool true) w0 ?_)))))))
  refine gx_k (.bool true) w0 ?_
  refine gx_nil ?_
  refine gx_thenN ?_
  refine hK4 _ _ ?_
  refine gx_ret ?_
  obtain rfl := Option.some.inj hF
  exact gx_fin (.bool true) (by kernel_rfl) (by kernel_rfl) ⟨_, rfl, rfl, hS0⟩
 ·refine gx_v (.bool false) w0 (run_boolE (decide_eq_false h5) (by kernel_rfl)) ?_
  refine gx_k (.bool false) w0 (gx_k (.int .u8 p0) w0 ?_)
  rcases if_in hF with ⟨h6, hF⟩ | ⟨h6, hF⟩
  ·refine gx_v (.bool true) w0 (run_boolE (decide_eq_true h6) (by kernel_rfl)) ?_
   refine gx_k (.bool true) w0 (gx_k (.bool true) w0 (gx_o (gx_o (gx_k (.bool true) w0 (gx_k (.bool true) w0 ?_)))))
   refine gx_nil ?_
   refine gx_thenN ?_
   refine hK4 _ _ ?_
   refine gx_ret ?_
   obtain rfl := Option.some.inj hF
   exact gx_fin (.bool true) (by kernel_rfl) (by kernel_rfl) ⟨_, rfl, rfl, hS0⟩
  ·refine gx_v (.bool false) w0 (run_boolE (decide_eq_false h6) (by kernel_rfl)) ?_
   refine gx_k (.bool false) w0 (gx_k (.bool false) w0 (gx_k (.int .u8 p0) w0 (gx_k (.bool (decide (p0 = 22))) w0 (gx_k (.bool (decide (p0 = 22))) w0 (gx_k (.bool (decide (p0 = 22))) w0 ?_)))))
   refine gx_nil ?_
   refine gx_thenN ?_
   refine hK4 _ _ ?_
   refine gx_ret ?_
   obtain rfl := Option.some.inj hF
   exact gx_fin (.bool (decide (p0 = 22))) (by kernel_rfl) (by kernel_rfl) ⟨_, rfl, rfl, hS0⟩

def pRw (_N : Nat) (p0 : Int) : Option (Bool) :=
 (if p0 = 2 then some true else some (decide (p0 = 3)))

set_option linter.unusedVariables false in
def pRw_R (r : Bool) (w0 : World) (v : Value) (w : World) : Prop := v = .bool r ∧ St [] w0 w []

set_option maxRecDepth 100000 in
set_option maxHeartbeats 4000000 in
theorem pRw_ok (N : Nat) (p0 : Int)  (r : Bool) (hF : pRw N p0 = some r) (w0 : World)  :
  Calls Try.prog 32 #[.int .u8 p0] w0 fun e w => ∃ v, e = .returned v ∧ pRw_R r w0 v w := by
 have hS0 := St.start w0
 unfold pRw at hF
 refine calls_of Try.func32 rfl ⟨((.int .u8 p0) :: un 8 ([])).toArray, []⟩ (by kernel_rfl) ?_
 refine gx_seq (fun K1 hK2 => ?_)
 refine gx_region ?_
 refine gx_k (.bool false) w0 ?_
 refine gx_nil ?_
 refine gx_thenN ?_
 refine hK2 _ _ ?_
 refine gx_seq (fun K3 hK4 => ?_)
 refine gx_region ?_
 refine gx_k (.int .u8 p0) w0 ?_
 rcases if_in hF with ⟨h5, hF⟩ | ⟨h5, hF⟩
 ·refine gx_v (.bool true) w0 (run_boolE (decide_eq_true h5) (by kernel_rfl)) ?_
  refine gx_k (.bool true) w0 (gx_o (gx_o (gx_k (.bool true) w0 (gx_k (.bool true) w0 ?_))))
  refine gx_nil ?_
  refine gx_thenN ?_
  refine hK4 _ _ ?_
  refine gx_ret ?_
  obtain rfl := Option.some.inj hF
  exact gx_fin (.bool true) (by kernel_rfl) (by kernel_rfl) ⟨_, rfl, rfl, hS0⟩
 ·refine gx_v (.bool false) w0 (run_boolE (decide_eq_false h5) (by kernel_rfl)) ?_
  refine gx_k (.bool false) w0 (gx_k (.int .u8 p0) w0 (gx_k (.bool (decide (p0 = 3))) w0 (gx_k (.bool (decide (p0 = 3))) w0 (gx_k (.bool (decide (p0 = 3))) w0 ?_))))
  refine gx_nil ?_
  refine gx_thenN ?_
  refine hK4 _ _ ?_
  refine gx_ret ?_
  obtain rfl := Option.some.inj hF
  exact gx_fin (.bool (decide (p0 = 3))) (by kernel_rfl) (by kernel_rfl) ⟨_, rfl, rfl, hS0⟩

def pUnk (_N : Nat) (p0 : Int) : Option (Bool) :=
 (if p0 < 1 then some true else some (decide (p0 > 23)))

set_option linter.unusedVariables false in
def pUnk_R (r : Bool) (w0 : World) (v : Value) (w : World) : Prop := v = .bool r ∧ St [] w0 w []

set_option maxRecDepth 100000 in
set_option maxHeartbeats 4000000 in
theorem pUnk_ok (N : Nat) (p0 : Int)  (r : Bool) (hF : pUnk N p0 = some r) (w0 : World)  :
  Calls Try.prog 36 #[.int .u8 p0] w0 fun e w => ∃ v, e = .returned v ∧ pUnk_R r w0 v w := by
 have hS0 := St.start w0
 unfold pUnk at hF
 refine calls_of Try.func36 rfl ⟨((.int .u8 p0) :: un 8 ([])).toArray, []⟩ (by kernel_rfl) ?_
 refine gx_seq (fun K1 hK2 => ?_)
 refine gx_region ?_
 refine gx_k (.bool false) w0 ?_
 refine gx_nil ?_
 refine gx_thenN ?_
 refine hK2 _ _ ?_
 refine gx_seq (fun K3 hK4 => ?_)
 refine gx_region ?_
 refine gx_k (.int .u8 p0) w0 ?_
 rcases if_in hF with ⟨h5, hF⟩ | ⟨h5, hF⟩
 ·refine gx_v (.bool true) w0 (run_boolE (decide_eq_true h5) (by kernel_rfl)) ?_
  refine gx_k (.bool true) w0 (gx_o (gx_o (gx_k (.bool true) w0 (gx_k (.bool true) w0 ?_))))
  refine gx_nil ?_
  refine gx_thenN ?_
  refine hK4 _ _ ?_
  refine gx_ret ?_
  obtain rfl := Option.some.inj hF
  exact gx_fin (.bool true) (by kernel_rfl) (by kernel_rfl) ⟨_, rfl, rfl, hS0⟩
 ·refine gx_v (.bool false) w0 (run_boolE (decide_eq_false h5) (by kernel_rfl)) ?_
  refine gx_k (.bool false) w0 (gx_k (.int .u8 p0) w0 (gx_k (.bool (decide (p0 > 23))) w0 (gx_k (.bool (decide (p0 > 23))) w0 (gx_k (.bool (decide (p0 > 23))) w0 ?_))))
  refine gx_nil ?_
  refine gx_thenN ?_
  refine hK4 _ _ ?_
  refine gx_ret ?_
  obtain rfl := Option.some.inj hF
  exact gx_fin (.bool (decide (p0 > 23))) (by kernel_rfl) (by kernel_rfl) ⟨_, rfl, rfl, hS0⟩

def pRem (_N : Nat) (p0 : Int) : Option (Bool) :=
 (if p0 = 15 then some true else (if p0 = 16 then some true else (if p0 = 17 then some true else (if p0 = 18 then some true else (if p0 = 19 then some true else (if p0 = 10 then some true else some false))))))

set_option linter.unusedVariables false in
def pRem_R (r : Bool) (w0 : World) (v : Value) (w : World) : Prop := v = .bool r ∧ St [] w0 w []

set_option maxRecDepth 100000 in
set_option maxHeartbeats 4000000 in
theorem pRem_ok (N : Nat) (p0 : Int)  (r : Bool) (hF : pRem N p0 = some r) (w0 : World)  :
  Calls Try.prog 53 #[.int .u8 p0] w0 fun e w => ∃ v, e = .returned v ∧ pRem_R r w0 v w := by
 have hS0 := St.start w0
 unfold pRem at hF
 refine calls_of Try.func53 rfl ⟨((.int .u8 p0) :: un 10 ([])).toArray, []⟩ (by kernel_rfl) ?_
 refine gx_seq (fun K1 hK2 => ?_)
 refine gx_region ?_
 refine gx_k (.bool false) w0 ?_
 refine gx_nil ?_
 refine gx_thenN ?_
 refine hK2 _ _ ?_
 refine gx_seq (fun K3 hK4 => ?_)
 refine gx_seq (fun K5 hK6 => ?_)
 refine gx_region ?_
 refine gx_k (.int .u8 p0) w0 ?_
 refine gx_nil ?_
 refine gx_thenN ?_
 refine hK6 _ _ ?_
 refine gx_block ?_
 refine gx_seq (fun K7 hK8 => ?_)
 refine gx_seq (fun K9 hK10 => ?_)
 refine gx_region ?_
 rcases if_in hF with ⟨h11, hF⟩ | ⟨h11, hF⟩
 ·refine gx_v (.bool true) w0 (run_boolE (decide_eq_true h11) (by kernel_rfl)) ?_
  refine gx_k (.bool true) w0 ?_
  refine gx_nil ?_
  refine gx_thenN ?_
  refine hK10 _ _ ?_
  refine gx_yes (by kernel_rfl) ?_
  refine gx_pass ?_
  refine gx_thenN ?_
  refine hK8 _ _ ?_
  refine gx_yes (by kernel_rfl) ?_
  refine gx_seq (fun K12 hK13 => ?_)
  refine gx_region ?_
  refine gx_k (.bool true) w0 ?_
  refine gx_nil ?_
  refine gx_thenN ?_
  refine hK13 _ _ ?_
  refine gx_ret ?_
  refine gx_blkR ?_
  refine gx_thenR ?_
  obtain rfl := Option.some.inj hF
  exact gx_fin (.bool true) (by kernel_rfl) (by kernel_rfl) ⟨_, rfl, rfl, hS0⟩
 ·refine gx_v (.bool false) w0 (run_boolE (decide_eq_false h11) (by kernel_rfl)) ?_
  refine gx_k (.bool false) w0 ?_
  refine gx_nil ?_
  refine gx_thenN ?_
  refine hK10 _ _ ?_
  refine gx_no (by kernel_rfl) ?_
  refine gx_seq (fun K14 hK15 => ?_)
  refine gx_region ?_
  rcases if_in hF with ⟨h16, hF⟩ | ⟨h16, hF⟩
  ·refine gx_v (.bool true) w0 (run_boolE (decide_eq_true h16) (by kernel_rfl)) ?_
   refine gx_k (.bool true) w0 ?_
   refine gx_nil ?_
   refine gx_thenN ?_
   refine hK15 _ _ ?_
   refine gx_yes (by kernel_rfl) ?_
   refine gx_pass ?_
   refine gx_thenN ?_
   refine hK8 _ _ ?_
   refine gx_yes (by kernel_rfl) ?_
   refine gx_seq (fun K17 hK18 => ?_)
   refine gx_region ?_
   refine gx_k (.bool true) w0 ?_
   refine gx_nil ?_
   refine gx_thenN ?_
   refine hK18 _ _ ?_
   refine gx_ret ?_
   refine gx_blkR ?_
   refine gx_thenR ?_
   obtain rfl := Option.some.inj hF
   exact gx_fin (.bool true) (by kernel_rfl) (by kernel_rfl) ⟨_, rfl, rfl, hS0⟩
  ·refine gx_v (.bool false) w0 (run_boolE (decide_eq_false h16) (by kernel_rfl)) ?_
   refine gx_k (.bool false) w0 ?_
   refine gx_nil ?_
   refine gx_thenN ?_
   refine hK15 _ _ ?_
   refine gx_no (by kernel_rfl) ?_
   refine gx_seq (fun K19 hK20 => ?_)
   refine gx_region ?_
   rcases if_in hF with ⟨h21, hF⟩ | ⟨h21, hF⟩
   ·refine gx_v (.bool true) w0 (run_boolE (decide_eq_true h21) (by kernel_rfl)) ?_
    refine gx_k (.bool true) w0 ?_
    refine gx_nil ?_
    refine gx_thenN ?_
    refine hK20 _ _ ?_
    refine gx_yes (by kernel_rfl) ?_
    refine gx_pass ?_
    refine gx_thenN ?_
    refine hK8 _ _ ?_
    refine gx_yes (by kernel_rfl) ?_
    refine gx_seq (fun K22 hK23 => ?_)
    refine gx_region ?_
    refine gx_k (.bool true) w0 ?_
    refine gx_nil ?_
    refine gx_thenN ?_
    refine hK23 _ _ ?_
    refine gx_ret ?_
    refine gx_blkR ?_
    refine gx_thenR ?_
    obtain rfl := Option.some.inj hF
    exact gx_fin (.bool true) (by kernel_rfl) (by kernel_rfl) ⟨_, rfl, rfl, hS0⟩
   ·refine gx_v (.bool false) w0 (run_boolE (decide_eq_false h21) (by kernel_rfl)) ?_
    refine gx_k (.bool false) w0 ?_
    refine gx_nil ?_
    refine gx_thenN ?_
    refine hK20 _ _ ?_
    refine gx_no (by kernel_rfl) ?_
    refine gx_seq (fun K24 hK25 => ?_)
    refine gx_region ?_
    rcases if_in hF with ⟨h26, hF⟩ | ⟨h26, hF⟩
    ·refine gx_v (.bool true) w0 (run_boolE (decide_eq_true h26) (by kernel_rfl)) ?_
     refine gx_k (.bool true) w0 ?_
     refine gx_nil ?_
     refine gx_thenN ?_
     refine hK25 _ _ ?_
     refine gx_yes (by kernel_rfl) ?_
     refine gx_pass ?_
     refine gx_thenN ?_
     refine hK8 _ _ ?_
     refine gx_yes (by kernel_rfl) ?_
     refine gx_seq (fun K27 hK28 => ?_)
     refine gx_region ?_
     refine gx_k (.bool true) w0 ?_
     refine gx_nil ?_
     refine gx_thenN ?_
     refine hK28 _ _ ?_
     refine gx_ret ?_
     refine gx_blkR ?_
     refine gx_thenR ?_
     obtain rfl := Option.some.inj hF
     exact gx_fin (.bool true) (by kernel_rfl) (by kernel_rfl) ⟨_, rfl, rfl, hS0⟩
    ·refine gx_v (.bool false) w0 (run_boolE (decide_eq_false h26) (by kernel_rfl)) ?_
     refine gx_k (.bool false) w0 ?_
     refine gx_nil ?_
     refine gx_thenN ?_
     refine hK25 _ _ ?_
     refine gx_no (by kernel_rfl) ?_
     refine gx_seq (fun K29 hK30 => ?_)
     refine gx_region ?_
     rcases if_in hF with ⟨h31, hF⟩ | ⟨h31, hF⟩
     ·refine gx_v (.bool true) w0 (run_boolE (decide_eq_true h31) (by kernel_rfl)) ?_
      refine gx_k (.bool true) w0 ?_
      refine gx_nil ?_
      refine gx_thenN ?_
      refine hK30 _ _ ?_
      refine gx_yes (by kernel_rfl) ?_
      refine gx_pass ?_
      refine gx_thenN ?_
      refine hK8 _ _ ?_
      refine gx_yes (by kernel_rfl) ?_
      refine gx_seq (fun K32 hK33 => ?_)
      refine gx_region ?_
      refine gx_k (.bool true) w0 ?_
      refine gx_nil ?_
      refine gx_thenN ?_
      refine hK33 _ _ ?_
      refine gx_ret ?_
      refine gx_blkR ?_
      refine gx_thenR ?_
      obtain rfl := Option.some.inj hF
      exact gx_fin (.bool true) (by kernel_rfl) (by kernel_rfl) ⟨_, rfl, rfl, hS0⟩
     ·refine gx_v (.bool false) w0 (run_boolE (decide_eq_false h31) (by kernel_rfl)) ?_
      refine gx_k (.bool false) w0 ?_
      refine gx_nil ?_
      refine gx_thenN ?_
      refine hK30 _ _ ?_
      refine gx_no (by kernel_rfl) ?_
      refine gx_region ?_
      rcases if_in hF with ⟨h34, hF⟩ | ⟨h34, hF⟩
      ·refine gx_v (.bool true) w0 (run_boolE (decide_eq_true h34) (by kernel_rfl)) ?_
       refine gx_k (.bool true) w0 ?_
       refine gx_nil ?_
       refine gx_thenN ?_
       refine hK8 _ _ ?_
       refine gx_yes (by kernel_rfl) ?_
       refine gx_seq (fun K35 hK36 => ?_)
       refine gx_region ?_
       refine gx_k (.bool true) w0 ?_
       refine gx_nil ?_
       refine gx_thenN ?_
       refine hK36 _ _ ?_
       refine gx_ret ?_
       refine gx_blkR ?_
       refine gx_thenR ?_
       obtain rfl := Option.some.inj hF
       exact gx_fin (.bool true) (by kernel_rfl) (by kernel_rfl) ⟨_, rfl, rfl, hS0⟩
      ·refine gx_v (.bool false) w0 (run_boolE (decide_eq_false h34) (by kernel_rfl)) ?_
       refine gx_k (.bool false) w0 ?_
       refine gx_nil ?_
       refine gx_thenN ?_
       refine hK8 _ _ ?_
       refine gx_no (by kernel_rfl) ?_
       refine gx_pass ?_
       refine gx_blkN ?_
       refine gx_thenN ?_
       refine hK4 _ _ ?_
       refine gx_seq (fun K37 hK38 => ?_)
       refine gx_region ?_
       refine gx_k (.bool false) w0 ?_
       refine gx_nil ?_
       refine gx_thenN ?_
       refine hK38 _ _ ?_
       refine gx_ret ?_
       obtain rfl := Option.some.inj hF
       exact gx_fin (.bool false) (by kernel_rfl) (by kernel_rfl) ⟨_, rfl, rfl, hS0⟩

def pStrong_L1 (N : Nat) (p0 : List Int) (p1 : List Int) (p3 : Int) : Nat → Int → Option (Ctl (Unit) (Int))
 | 0, _ => none
 | k15+1, x14 => (if x14 < p3 then ((ix p0 x14).bind fun x26 => (((if x26 = 1 then some (true) else ((pRw N x26).bind fun b38 => some (b38))) : Option (Bool)).bind fun b31 => (match b31 with | true => some (Ctl.ret x26) | false => (((if x26 = 11 then some (true) else ((pInit N x26).bind fun b54 => (match b54 with | true => ((ix p1 x14).bind fun x58 => (if x58 < 0 then some (true) else some (false))) | false => some (false)))) : Option (Bool)).bind fun b47 => (match b47 with | true => some (Ctl.ret 0) | false => ((pInit N x26).bind fun b67 => (match b67 with | true => ((ix p1 x14).bind fun x71 => pStrong_L1 N p0 p1 p3 k15 (IntKind.i64.wrap (x71 + 1))) | false => pStrong_L1 N p0 p1 p3 k15 (IntKind.i64.wrap (x14 + 1))))))))) else some (Ctl.go ()))
def pStrong (N : Nat) (p0 : List Int) (p1 : List Int) (p2 : Int) (p3 : Int) : Option (Int) :=
 ((pStrong_L1 N p0 p1 p3 N p2 : Option (Ctl (Unit) (Int))).bind fun | Ctl.go () => some 0 | Ctl.ret r => some r)

set_option linter.unusedVariables false in
def pStrong_R (r : Int) (w0 : World) (v : Value) (w : World) : Prop := v = .int .u8 r ∧ St [] w0 w []

set_option maxRecDepth 100000 in
set_option maxHeartbeats 4000000 in
theorem pStrong_ok (N : Nat) (p0 : List Int) (p1 : List Int) (p2 : Int) (p3 : Int) (A0 : Option Addr) (c0 : Nat) (A1 : Option Addr) (c1 : Nat) (r : Int) (hF : pStrong N p0 p1 p2 p3 = some r) (w0 : World) (hv0 : Vw [] .u8 w0 A0 c0 p0) (hv1 : Vw [] .i64 w0 A1 c1 p1) :
  Calls Try.prog 33 #[.slice A0 p0.length c0, .slice A1 p1.length c1, .int .i64 p2, .int .i64 p3] w0 fun e w => ∃ v, e = .returned v ∧ pStrong_R r w0 v w := by
 have hS0 := St.start w0
 unfold pStrong at hF
 refine calls_of Try.func33 rfl ⟨((.slice A0 p0.length c0) :: (.slice A1 p1.length c1) :: (.int .i64 p2) :: (.int .i64 p3) :: un 46 ([])).toArray, []⟩ (by kernel_rfl) ?_
 refine gx_seq (fun K1 hK2 => ?_)
 refine gx_region ?_
 refine gx_k (.int .u8 0) w0 ?_
 refine gx_nil ?_
 refine gx_thenN ?_
 refine hK2 _ _ ?_
 obtain ⟨c6, hE7, hO8⟩ := bind_in hF
 refine gx_cut (fun a w => selfA (fun u5 => ⟨(dd u5 0 2 ((.int .i64 p2) :: (.int .i64 p3) :: un 4 (dd u5 8 42 ([])))).toArray, []⟩) a ∧ Ctl.go () = c6 ∧ St [] w0 w []) ?_ ?_
 ·refine gx_seq (fun K9 hK10 => ?_)
  refine gx_region ?_
  refine gx_k (.int .i64 p2) w0 (gx_k (.int .i64 p2) w0 ?_)
  refine gx_nil ?_
  refine gx_thenN ?_
  refine hK10 _ _ ?_
  refine gx_block ?_
  refine gx_loop (fun k a w => ∃ (x14 : Int), selfA (fun u13 => ⟨((.slice A0 p0.length c0) :: (.slice A1 p1.length c1) :: (.int .i64 p2) :: (.int .i64 p3) :: un 4 ((u13 8) :: (.int .i64 x14) :: (u13 10) :: (.int .i64 p2) :: dd u13 12 38 ([]))).toArray, []⟩) a ∧ pStrong_L1 N p0 p1 p3 k x14 = some c6 ∧ St [] w0 w []) N ?_ ?_
  ·exact ⟨p2, selfA_i (by kernel_rfl), hE7, hS0⟩
  ·rintro k15 _ w11 ⟨x14, hq75, hL16, hS12⟩
   obtain ⟨u13, rfl⟩ := selfA_u hq75
   cases k15 with
   | zero => cases hL16
   | succ k15 =>
    rw [pStrong_L1] at hL16
    refine gx_seq (fun K17 hK18 => ?_)
    refine gx_seq (fun K19 hK20 => ?_)
    refine gx_region ?_
    refine gx_k (.int .i64 x14) w11 (gx_k (.int .i64 p3) w11 ?_)
    rcases if_in hL16 with ⟨h21, hL16⟩ | ⟨h21, hL16⟩
    ·refine gx_v (.bool true) w11 (run_boolE (decide_eq_true h21) (by kernel_rfl)) ?_
     refine gx_nil ?_
     refine gx_thenN ?_
     refine hK20 _ _ ?_
     refine gx_yes (by kernel_rfl) ?_
     refine gx_pass ?_
     refine gx_thenN ?_
     refine hK18 _ _ ?_
     refine gx_seq (fun K22 hK23 => ?_)
     refine gx_block ?_
     refine gx_seq (fun K24 hK25 => ?_)
     refine gx_region ?_
     refine gx_k (.slice A0 p0.length c0) w11 (gx_k (.int .i64 x14) w11 ?_)
     obtain ⟨x26, hx27, hL16⟩ := bind_in hL16
     refine gx_v (.pointer (Option.map (fun (p : Addr) => p.add (Int.toNat x14 * 1)) A0)) w11 (run_ixaddr (E := 26) (s := 1) (k := .i64) (c := c0) rfl (by kernel_rfl) (by kernel_rfl) (by kernel_rfl) (fun _ => by kernel_rfl) (ix_in hx27).1 (ix_in hx27).2.1 (num_nil (hS12.view hv0))) ?_
     refine gx_v (.int .u8 x26) w11 (run_loadix rfl (by kernel_rfl) (fun _ => by kernel_rfl) (hS12.view hv0) hx27) ?_
     refine gx_k (.int .u8 x26) w11 ?_
     refine gx_nil ?_
     refine gx_thenN ?_
     refine hK25 _ _ ?_
     refine gx_block ?_
     obtain ⟨c32, hE33, hO34⟩ := bind_in hL16
     refine gx_cut (fun a w => ∃ (b31 : Bool), selfA (fun u30 => ⟨((.slice A0 p0.length c0) :: (.slice A1 p1.length c1) :: (.int .i64 p2) :: (.int .i64 p3) :: un 4 ((u13 8) :: (.int .i64 x14) :: (.int .u8 x26) :: (.int .i64 p2) :: (.int .i64 x14) :: (.int .i64 p3) :: (.bool true) :: dd u13 15 2 ((u30 17) :: (.int .i64 x14) :: (.pointer (Option.map (fun (p : Addr) => p.add (Int.toNat x14 * 1)) A0)) :: (.int .u8 x26) :: (.bool b31) :: dd u30 22 6 (dd u13 28 22 ([]))))).toArray, []⟩) a ∧ b31 = c32 ∧ St [] w0 w []) ?_ ?_
     ·refine gx_region ?_
      refine gx_k (.int .u8 x26) w11 ?_
      rcases if_in hE33 with ⟨h35, hE33⟩ | ⟨h35, hE33⟩
      ·refine gx_v (.bool true) w11 (run_boolE (decide_eq_true h35) (by kernel_rfl)) ?_
       refine gx_k (.bool true) w11 (gx_o (gx_o (gx_k (.bool true) w11 (gx_k (.bool true) w11 ?_))))
       refine gx_nil ?_
       refine gx_thenN ?_
       exact ⟨true, selfA_i (by kernel_rfl), (Option.some.inj hE33), hS12⟩
      ·refine gx_v (.bool false) w11 (run_boolE (decide_eq_false h35) (by kernel_rfl)) ?_
       refine gx_k (.bool false) w11 (gx_k (.int .u8 x26) w11 ?_)
       have hP36 : St _ _ w11 ([] ++ []) := hS12
       obtain ⟨b38, hc37, hE33⟩ := bind_in hE33
       try dsimp only at hE33
       refine gx_c (pRw_R b38 w11) (pRw_ok N x26 _ hc37 w11 ) ?_
       rintro _ w39 ⟨rfl, hT41⟩
       have hS40 : St _ _ w39 [] := hS12.take _ hT41
       refine gx_k (.bool b38) w39 (gx_k (.bool b38) w39 ?_)
       refine gx_nil ?_
       refine gx_thenN ?_
       exact ⟨b38, selfA_i (by kernel_rfl), (Option.some.inj hE33), hS40⟩
     ·rintro _ w28 ⟨b31, hq74, rfl, hS29⟩
      obtain ⟨u30, rfl⟩ := selfA_u hq74
      try dsimp only at hO34
      cases b31 with
      | true =>
       try dsimp only at hO34
       refine gx_yes (by kernel_rfl) ?_
       refine gx_seq (fun K42 hK43 => ?_)
       refine gx_region ?_
       refine gx_k (.int .u8 x26) w28 (gx_k (.int .u8 x26) w28 ?_)
       refine gx_nil ?_
       refine gx_thenN ?_
       refine hK43 _ _ ?_
       refine gx_ret ?_
       refine gx_blkR ?_
       refine gx_blkR ?_
       refine gx_thenR ?_
       refine gx_thenR ?_
       refine gx_blkR ?_
       refine gx_thenR ?_
       obtain rfl := Option.some.inj hO34
       try dsimp only at hO8
       obtain rfl := Option.some.inj hO8
       exact gx_fin (.int .u8 x26) (by kernel_rfl) (by kernel_rfl) ⟨_, rfl, rfl, hS29⟩
      | false =>
       try dsimp only at hO34
       refine gx_no (by kernel_rfl) ?_
       obtain ⟨c48, hE49, hO50⟩ := bind_in hO34
       refine gx_cut (fun a w => ∃ (b47 : Bool), selfA (fun u46 => ⟨((.slice A0 p0.length c0) :: (.slice A1 p1.length c1) :: (.int .i64 p2) :: (.int .i64 p3) :: un 4 ((u13 8) :: (.int .i64 x14) :: (.int .u8 x26) :: (.int .i64 p2) :: (.int .i64 x14) :: (.int .i64 p3) :: (.bool true) :: dd u13 15 2 ((u30 17) :: (.int .i64 x14) :: (.pointer (Option.map (fun (p : Addr) => p.add (Int.toNat x14 * 1)) A0)) :: (.int .u8 x26) :: (.bool false) :: dd u30 22 6 ((u13 28) :: (.bool b47) :: dd u46 30 13 (dd u13 43 7 ([])))))).toArray, []⟩) a ∧ b47 = c48 ∧ St [] w0 w []) ?_ ?_
       ·refine gx_region ?_
        refine gx_k (.int .u8 x26) w28 ?_
        rcases if_in hE49 with ⟨h51, hE49⟩ | ⟨h51, hE49⟩
        ·refine gx_v (.bool true) w28 (run_boolE (decide_eq_true h51) (by kernel_rfl)) ?_
         refine gx_k (.bool true) w28 (gx_o (gx_o (gx_o (gx_o (gx_o (gx_o (gx_o ?_)))))))
         refine gx_o (gx_o (gx_k (.bool true) w28 (gx_k (.bool true) w28 ?_)))
         refine gx_nil ?_
         refine gx_thenN ?_
         exact ⟨true, selfA_i (by kernel_rfl), (Option.some.inj hE49), hS29⟩
        ·refine gx_v (.bool false) w28 (run_boolE (decide_eq_false h51) (by kernel_rfl)) ?_
         refine gx_k (.bool false) w28 (gx_k (.int .u8 x26) w28 ?_)
         have hP52 : St _ _ w28 ([] ++ []) := hS29
         obtain ⟨b54, hc53, hE49⟩ := bind_in hE49
         try dsimp only at hE49
         refine gx_c (pInit_R b54 w28) (pInit_ok N x26 _ hc53 w28 ) ?_
         rintro _ w55 ⟨rfl, hT57⟩
         have hS56 : St _ _ w55 [] := hS29.take _ hT57
         refine gx_k (.bool b54) w55 ?_
         cases b54 with
         | true =>
          try dsimp only at hE49
          refine gx_k (.slice A1 p1.length c1) w55 (gx_k (.int .i64 x14) w55 ?_)
          obtain ⟨x58, hx59, hE49⟩ := bind_in hE49
          refine gx_v (.pointer (Option.map (fun (p : Addr) => p.add (Int.toNat x14 * 1)) A1)) w55 (run_ixaddr (E := 3) (s := 1) (k := .i64) (c := c1) rfl (by kernel_rfl) (by kernel_rfl) (by kernel_rfl) (fun _ => by kernel_rfl) (ix_in hx59).1 (ix_in hx59).2.1 (num_nil (hS56.view hv1))) ?_
          refine gx_v (.int .i64 x58) w55 (run_loadix rfl (by kernel_rfl) (fun _ => by kernel_rfl) (hS56.view hv1) hx59) ?_
          rcases if_in hE49 with ⟨h60, hE49⟩ | ⟨h60, hE49⟩
          ·refine gx_v (.bool true) w55 (run_boolE (decide_eq_true h60) (by kernel_rfl)) ?_
           refine gx_k (.bool true) w55 (gx_k (.bool true) w55 (gx_k (.bool true) w55 ?_))
           refine gx_nil ?_
           refine gx_thenN ?_
           exact ⟨true, selfA_i (by kernel_rfl), (Option.some.inj hE49), hS56⟩
          ·refine gx_v (.bool false) w55 (run_boolE (decide_eq_false h60) (by kernel_rfl)) ?_
           refine gx_k (.bool false) w55 (gx_k (.bool false) w55 (gx_k (.bool false) w55 ?_))
           refine gx_nil ?_
           refine gx_thenN ?_
           exact ⟨false, selfA_i (by kernel_rfl), (Option.some.inj hE49), hS56⟩
         | false =>
          try dsimp only at hE49
          refine gx_o (gx_o (gx_o (gx_o (gx_o (gx_k (.bool false) w55 (gx_k (.bool false) w55 (gx_k (.bool false) w55 ?_)))))))
          refine gx_nil ?_
          refine gx_thenN ?_
          exact ⟨false, selfA_i (by kernel_rfl), (Option.some.inj hE49), hS56⟩
       ·rintro _ w44 ⟨b47, hq73, rfl, hS45⟩
        obtain ⟨u46, rfl⟩ := selfA_u hq73
        try dsimp only at hO50
        cases b47 with
        | true =>
         try dsimp only at hO50
         refine gx_yes (by kernel_rfl) ?_
         refine gx_seq (fun K61 hK62 => ?_)
         refine gx_region ?_
         refine gx_k (.int .u8 0) w44 ?_
         refine gx_nil ?_
         refine gx_thenN ?_
         refine hK62 _ _ ?_
         refine gx_ret ?_
         refine gx_blkR ?_
         refine gx_blkR ?_
         refine gx_thenR ?_
         refine gx_thenR ?_
         refine gx_blkR ?_
         refine gx_thenR ?_
         obtain rfl := Option.some.inj hO50
         try dsimp only at hO8
         obtain rfl := Option.some.inj hO8
         exact gx_fin (.int .u8 0) (by kernel_rfl) (by kernel_rfl) ⟨_, rfl, rfl, hS45⟩
        | false =>
         try dsimp only at hO50
         refine gx_no (by kernel_rfl) ?_
         refine gx_seq (fun K63 hK64 => ?_)
         refine gx_region ?_
         refine gx_k (.int .u8 x26) w44 ?_
         have hP65 : St _ _ w44 ([] ++ []) := hS45
         obtain ⟨b67, hc66, hO50⟩ := bind_in hO50
         try dsimp only at hO50
         refine gx_c (pInit_R b67 w44) (pInit_ok N x26 _ hc66 w44 ) ?_
         rintro _ w68 ⟨rfl, hT70⟩
         have hS69 : St _ _ w68 [] := hS45.take _ hT70
         refine gx_k (.bool b67) w68 ?_
         refine gx_nil ?_
         refine gx_thenN ?_
         refine hK64 _ _ ?_
         cases b67 with
         | true =>
          try dsimp only at hO50
          refine gx_yes (by kernel_rfl) ?_
          refine gx_region ?_
          refine gx_k (.slice A1 p1.length c1) w68 (gx_k (.int .i64 x14) w68 ?_)
          obtain ⟨x71, hx72, hO50⟩ := bind_in hO50
          refine gx_v (.pointer (Option.map (fun (p : Addr) => p.add (Int.toNat x14 * 1)) A1)) w68 (run_ixaddr (E := 3) (s := 1) (k := .i64) (c := c1) rfl (by kernel_rfl) (by kernel_rfl) (by kernel_rfl) (fun _ => by kernel_rfl) (ix_in hx72).1 (ix_in hx72).2.1 (num_nil (hS69.view hv1))) ?_
          refine gx_v (.int .i64 x71) w68 (run_loadix rfl (by kernel_rfl) (fun _ => by kernel_rfl) (hS69.view hv1) hx72) ?_
          refine gx_k (.int .i64 x71) w68 ?_
          refine gx_nil ?_
          refine gx_blkN ?_
          refine gx_blkN ?_
          refine gx_thenN ?_
          refine hK23 _ _ ?_
          refine gx_region ?_
          refine gx_k (.int .i64 x71) w68 (gx_k (.int .i64 (IntKind.i64.wrap (x71 + 1))) w68 (gx_k (.int .i64 (IntKind.i64.wrap (x71 + 1))) w68 ?_))
          refine gx_nil ?_
          refine gx_thenN ?_
          exact ⟨k15, Nat.lt_succ_self k15, (IntKind.i64.wrap (x71 + 1)), selfA_i (by kernel_rfl), hO50, hS69⟩
         | false =>
          try dsimp only at hO50
          refine gx_no (by kernel_rfl) ?_
          refine gx_pass ?_
          refine gx_blkN ?_
          refine gx_blkN ?_
          refine gx_thenN ?_
          refine hK23 _ _ ?_
          refine gx_region ?_
          refine gx_k (.int .i64 x14) w68 (gx_k (.int .i64 (IntKind.i64.wrap (x14 + 1))) w68 (gx_k (.int .i64 (IntKind.i64.wrap (x14 + 1))) w68 ?_))
          refine gx_nil ?_
          refine gx_thenN ?_
          exact ⟨k15, Nat.lt_succ_self k15, (IntKind.i64.wrap (x14 + 1)), selfA_i (by kernel_rfl), hO50, hS69⟩
    ·refine gx_v (.bool false) w11 (run_boolE (decide_eq_false h21) (by kernel_rfl)) ?_
     refine gx_nil ?_
     refine gx_thenN ?_
     refine hK20 _ _ ?_
     refine gx_no (by kernel_rfl) ?_
     refine gx_exit ?_
     refine gx_thenE ?_
     refine gx_thenE ?_
     refine gx_blkE ?_
     refine gx_thenN ?_
     exact ⟨selfA_i (by kernel_rfl), (Option.some.inj hL16), hS12⟩
 ·rintro _ w3 ⟨hq78, rfl, hS4⟩
  obtain ⟨u5, rfl⟩ := selfA_u hq78
  try dsimp only at hO8
  refine gx_seq (fun K76 hK77 => ?_)
  refine gx_region ?_
  refine gx_k (.int .u8 0) w3 ?_
  refine gx_nil ?_
  refine gx_thenN ?_
  refine hK77 _ _ ?_
  refine gx_ret ?_
  obtain rfl := Option.some.inj hO8
  exact gx_fin (.int .u8 0) (by kernel_rfl) (by kernel_rfl) ⟨_, rfl, rfl, hS4⟩

def pMatch_L1 (N : Nat) (p0 : List Int) : Nat → (List Int) → (List Int) → Int → Option (List Int)
 | 0, _, _, _ => none
 | k33+1, l28, l31, x32 => (if x32 < ((p0.length : Nat) : Int) then ((ix p0 x32).bind fun x44 => ((ix l28 x32).bind fun _x48 => ((setx l28 x32 (-1)).bind fun l52 => ((pInit N x44).bind fun b58 => (match b58 with | true => ((apx l31 ([x32])).bind fun l64 => pMatch_L1 N p0 k33 l52 l64 (IntKind.i64.wrap (x32 + 1))) | false => (((if x44 = 23 then (if ((l31.length : Nat) : Int) > 0 then some (true) else some (false)) else some (false)) : Option (Bool)).bind fun b74 => (match b74 with | true => ((ix l31 (IntKind.i64.wrap (((l31.length : Nat) : Int) - 1))).bind fun x86 => ((ix l31 (IntKind.i64.wrap (((l31.length : Nat) : Int) - 1))).bind fun x88 => ((ix l52 x32).bind fun _x90 => ((setx l52 x32 x88).bind fun l94 => ((ix l94 x86).bind fun _x96 => ((setx l94 x86 x32).bind fun l100 => ((cutx l31 0 (IntKind.i64.wrap (((l31.length : Nat) : Int) - 1))).bind fun l102 => pMatch_L1 N p0 k33 l100 l102 (IntKind.i64.wrap (x32 + 1))))))))) | false => (if x44 = 11 then ((cutx l31 0 (0 : Int)).bind fun l108 => pMatch_L1 N p0 k33 l52 l108 (IntKind.i64.wrap (x32 + 1))) else pMatch_L1 N p0 k33 l52 l31 (IntKind.i64.wrap (x32 + 1)))))))))) else some (l28))
def pMatch (N : Nat) (p0 : List Int) : Option (List Int) :=
 ((mkx ((p0.length : Nat) : Int)).bind fun l5 => ((pMatch_L1 N p0 N l5 ([]) 0 : Option (List Int)).bind fun l17 => some l17))

set_option linter.unusedVariables false in
def pMatch_R (r : List Int) (w0 : World) (v : Value) (w : World) : Prop := ∃ (A0' : Option Addr) (c0' : Nat), v = .slice A0' r.length c0' ∧ St [] w0 w [rowE .i64 3 A0' c0' r]

set_option maxRecDepth 100000 in
set_option maxHeartbeats 4000000 in
theorem pMatch_ok (N : Nat) (p0 : List Int) (A0 : Option Addr) (c0 : Nat) (r : List Int) (hF : pMatch N p0 = some r) (w0 : World) (hv0 : Vw [] .u8 w0 A0 c0 p0) :
  Calls Try.prog 17 #[.slice A0 p0.length c0] w0 fun e w => ∃ v, e = .returned v ∧ pMatch_R r w0 v w := by
 have hS0 := St.start w0
 unfold pMatch at hF
 refine calls_of Try.func17 rfl ⟨((.slice A0 p0.length c0) :: un 62 ([])).toArray, []⟩ (by kernel_rfl) ?_
 refine gx_seq (fun K1 hK2 => ?_)
 refine gx_region ?_
 refine gx_k (.slice none 0 0) w0 ?_
 refine gx_nil ?_
 refine gx_thenN ?_
 refine hK2 _ _ ?_
 refine gx_seq (fun K3 hK4 => ?_)
 refine gx_region ?_
 refine gx_k (.slice A0 p0.length c0) w0 (gx_k (.int .i64 ((p0.length : Nat) : Int)) w0 ?_)
 obtain ⟨l5, hm6, hF⟩ := bind_in hF
 refine gx_r (st_make (T := 3) (k := .i64) (by_ := 8) rfl (by kernel_rfl) (by kernel_rfl) (by kernel_rfl) (by kernel_rfl) (by kernel_rfl) hS0 hm6) ?_
 rintro _ w7 ⟨A9, c10, rfl, hS8⟩
 have hS8 : St _ _ w7 [rowE .i64 3 A9 c10 l5] := hS8
 refine gx_k (.slice A9 l5.length c10) w7 ?_
 refine gx_nil ?_
 refine gx_thenN ?_
 refine hK4 _ _ ?_
 refine gx_seq (fun K11 hK12 => ?_)
 refine gx_region ?_
 refine gx_k (.slice none 0 0) w7 ?_
 refine gx_nil ?_
 refine gx_thenN ?_
 refine hK12 _ _ ?_
 obtain ⟨c18, hE19, hO20⟩ := bind_in hF
 refine gx_cut (fun a w => ∃ (l17 : List Int), selfA (fun u15 => ⟨((u15 0) :: undef :: (.slice none 0 0) :: (.slice A9 l5.length c10) :: dd u15 4 5 ((.int .i64 ((p0.length : Nat) : Int)) :: dd u15 10 52 (undef :: []))).toArray, []⟩) a ∧ l17 = c18 ∧ St [] w0 w [rowE .i64 3 A9 c10 l17] ∧ l5.length = l17.length) ?_ ?_
 ·refine gx_seq (fun K21 hK22 => ?_)
  refine gx_region ?_
  refine gx_k (.slice A0 p0.length c0) w7 (gx_k (.int .i64 ((p0.length : Nat) : Int)) w7 (gx_k (.int .i64 0) w7 ?_))
  refine gx_nil ?_
  refine gx_thenN ?_
  refine hK22 _ _ ?_
  refine gx_block ?_
  have hS23 : St _ _ w7 [rowE .i64 3 A9 c10 l5, rowE .i64 3 none 0 ([])] := hS8.nilrow .i64 3
  refine gx_loop (fun k a w => ∃ (l28 : List Int) (l31 : List Int) (x32 : Int) (A29 : Option Addr) (c30 : Nat), selfA (fun u26 => ⟨((u26 0) :: undef :: (.slice none 0 0) :: (.slice A9 l5.length c10) :: (.slice A29 l31.length c30) :: dd u26 5 4 ((.int .i64 ((p0.length : Nat) : Int)) :: (u26 10) :: (.slice A0 p0.length c0) :: (.int .i64 ((p0.length : Nat) : Int)) :: (.int .i64 x32) :: dd u26 14 48 (undef :: []))).toArray, []⟩) a ∧ pMatch_L1 N p0 k l28 l31 x32 = some c18 ∧ St [] w0 w [rowE .i64 3 A9 c10 l28, rowE .i64 3 A29 c30 l31] ∧ l5.length = l28.length) N ?_ ?_
  ·exact ⟨l5, ([]), 0, none, 0, selfA_i (by kernel_rfl), hE19, hS23, rfl⟩
  ·rintro k33 _ w24 ⟨l28, l31, x32, A29, c30, hq114, hL34, hS25, hn27⟩
   obtain ⟨u26, rfl⟩ := selfA_u hq114
   cases k33 with
   | zero => cases hL34
   | succ k33 =>
    rw [pMatch_L1] at hL34
    refine gx_seq (fun K35 hK36 => ?_)
    refine gx_region ?_
    rcases if_in hL34 with ⟨h37, hL34⟩ | ⟨h37, hL34⟩
    ·refine gx_v (.bool true) w24 (run_boolE (decide_eq_true h37) (by kernel_rfl)) ?_
     refine gx_nil ?_
     refine gx_thenN ?_
     refine hK36 _ _ ?_
     refine gx_seq (fun K38 hK39 => ?_)
     refine gx_yes (by kernel_rfl) ?_
     refine gx_pass ?_
     refine gx_thenN ?_
     refine hK39 _ _ ?_
     refine gx_seq (fun K40 hK41 => ?_)
     refine gx_block ?_
     refine gx_seq (fun K42 hK43 => ?_)
     refine gx_region ?_
     refine gx_k (.int .i64 x32) w24 ?_
     obtain ⟨x44, hx45, hL34⟩ := bind_in hL34
     refine gx_v (.pointer (Option.map (fun (p : Addr) => p.add (Int.toNat x32 * 1)) A0)) w24 (run_ixaddr (E := 26) (s := 1) (k := .i64) (c := c0) rfl (by kernel_rfl) (by kernel_rfl) (by kernel_rfl) (fun _ => by kernel_rfl) (ix_in hx45).1 (ix_in hx45).2.1 (num_nil (hS25.view hv0))) ?_
     refine gx_v (.int .u8 x44) w24 (run_loadix rfl (by kernel_rfl) (fun _ => by kernel_rfl) (hS25.view hv0) hx45) ?_
     refine gx_k (.int .i64 x32) w24 (gx_k (.int .u8 x44) w24 ?_)
     refine gx_nil ?_
     refine gx_thenN ?_
     refine hK43 _ _ ?_
     refine gx_seq (fun K46 hK47 => ?_)
     refine gx_region ?_
     refine gx_k (.slice A9 l5.length c10) w24 (gx_k (.int .i64 x32) w24 ?_)
     obtain ⟨x48, hx49, hL34⟩ := bind_in hL34
     refine gx_v (.pointer (Option.map (fun (p : Addr) => p.add (Int.toNat x32 * 1)) A9)) w24 (run_ixaddr (E := 3) (s := 1) (k := .i64) (c := c10) rfl (by kernel_rfl) (by kernel_rfl) (by kernel_rfl) (fun _ => by kernel_rfl) (ix_in hx49).1 (lt_len hn27 (ix_in hx49).2.1) (nil_len hn27 (num_nil (hS25.row 0 rfl).1))) ?_
     obtain ⟨l52, hx53, hL34⟩ := bind_in hL34
     refine gx_s (st_storeix rfl (by kernel_rfl) (by kernel_rfl) (fun _ => by kernel_rfl) hS25 0 rfl hx53) ?_
     rintro w50 hS51
     have hS51 : St _ _ w50 [rowE .i64 3 A9 c10 l52, rowE .i64 3 A29 c30 l31] := hS51
     refine gx_nil ?_
     refine gx_thenN ?_
     refine hK47 _ _ ?_
     refine gx_block ?_
     refine gx_seq (fun K54 hK55 => ?_)
     refine gx_region ?_
     refine gx_k (.int .u8 x44) w50 ?_
     have hP56 : St _ _ w50 ([] ++ [rowE .i64 3 A9 c10 l52, rowE .i64 3 A29 c30 l31]) := hS51
     obtain ⟨b58, hc57, hL34⟩ := bind_in hL34
     try dsimp only at hL34
     refine gx_c (pInit_R b58 w50) (pInit_ok N x44 _ hc57 w50 ) ?_
     rintro _ w59 ⟨rfl, hT61⟩
     have hS60 : St _ _ w59 [rowE .i64 3 A9 c10 l52, rowE .i64 3 A29 c30 l31] := hS51.take _ hT61
     refine gx_k (.bool b58) w59 ?_
     refine gx_nil ?_
     refine gx_thenN ?_
     refine hK55 _ _ ?_
     cases b58 with
     | true =>
      try dsimp only at hL34
      refine gx_yes (by kernel_rfl) ?_
      refine gx_region ?_
      refine gx_k (.slice A29 l31.length c30) w59 (gx_k (.int .i64 x32) w59 ?_)
      refine gx_r (st_made .i64 3 [x32] hS60 (by show 1 ≤ 1000000000; decide) (by kernel_rfl)) ?_
      rintro _ w62 ⟨rfl, hS63⟩
      have hS63 : St _ _ w62 [rowE .i64 3 A9 c10 l52, rowE .i64 3 A29 c30 l31, rowE .i64 3 (some ⟨w59.heap.size, 0, none⟩) 1 ([x32])] := hS63
      obtain ⟨l64, ha65, hL34⟩ := bind_in hL34
      obtain ⟨ha65, hq66⟩ := apx_in ha65
      refine gx_r (st_append rfl (by kernel_rfl) (by kernel_rfl) hS63 1 rfl (hS63.row 2 rfl).1 (hS63.row 2 rfl).2 ha65 (by kernel_rfl) (by kernel_rfl)) ?_
      rintro _ w69 ⟨A67, c68, rfl, hS70⟩
      rw [← hq66] at hS70 ⊢
      have hS70 : St _ _ w69 [rowE .i64 3 A9 c10 l52, rowE .i64 3 A67 c68 l64, rowE .i64 3 (some ⟨w59.heap.size, 0, none⟩) 1 ([x32])] := hS70
      refine gx_k (.slice A67 l64.length c68) w69 ?_
      refine gx_nil ?_
      refine gx_blkN ?_
      refine gx_blkN ?_
      refine gx_thenN ?_
      refine hK41 _ _ ?_
      refine gx_region ?_
      refine gx_k (.int .i64 (IntKind.i64.wrap (x32 + 1))) w69 (gx_k (.int .i64 (IntKind.i64.wrap (x32 + 1))) w69 ?_)
      refine gx_nil ?_
      refine gx_thenN ?_
      exact ⟨k33, Nat.lt_succ_self k33, l52, l64, (IntKind.i64.wrap (x32 + 1)), A67, c68, selfA_i (by kernel_rfl), hL34, (hS70.pick [0, 1] rfl rfl), (hn27.trans (setx_len hx53).symm)⟩
     | false =>
      try dsimp only at hL34
      refine gx_no (by kernel_rfl) ?_
      obtain ⟨c75, hE76, hO77⟩ := bind_in hL34
      refine gx_cut (fun a w => ∃ (b74 : Bool), selfA (fun u73 => ⟨((u26 0) :: undef :: (.slice none 0 0) :: (.slice A9 l5.length c10) :: (.slice A29 l31.length c30) :: (.int .i64 x32) :: (.int .u8 x44) :: dd u26 7 2 ((.int .i64 ((p0.length : Nat) : Int)) :: (u26 10) :: (.slice A0 p0.length c0) :: (.int .i64 ((p0.length : Nat) : Int)) :: (.int .i64 x32) :: (.bool true) :: (.int .i64 x32) :: (.pointer (Option.map (fun (p : Addr) => p.add (Int.toNat x32 * 1)) A0)) :: (.int .u8 x44) :: (u73 18) :: (.int .i64 x32) :: (.pointer (Option.map (fun (p : Addr) => p.add (Int.toNat x32 * 1)) A9)) :: (.bool false) :: (.int .u8 x44) :: (.bool false) :: dd u26 24 4 ((.bool b74) :: dd u73 29 7 (dd u26 36 26 (undef :: []))))).toArray, []⟩) a ∧ b74 = c75 ∧ St [] w0 w [rowE .i64 3 A9 c10 l52, rowE .i64 3 A29 c30 l31]) ?_ ?_
      ·refine gx_region ?_
       refine gx_k (.int .u8 x44) w59 ?_
       rcases if_in hE76 with ⟨h78, hE76⟩ | ⟨h78, hE76⟩
       ·refine gx_v (.bool true) w59 (run_boolE (decide_eq_true h78) (by kernel_rfl)) ?_
        refine gx_k (.bool true) w59 (gx_k (.slice A29 l31.length c30) w59 (gx_k (.int .i64 ((l31.length : Nat) : Int)) w59 ?_))
        rcases if_in hE76 with ⟨h79, hE76⟩ | ⟨h79, hE76⟩
        ·refine gx_v (.bool true) w59 (run_boolE (decide_eq_true h79) (by kernel_rfl)) ?_
         refine gx_k (.bool true) w59 (gx_k (.bool true) w59 ?_)
         refine gx_nil ?_
         refine gx_thenN ?_
         exact ⟨true, selfA_i (by kernel_rfl), (Option.some.inj hE76), hS60⟩
        ·refine gx_v (.bool false) w59 (run_boolE (decide_eq_false h79) (by kernel_rfl)) ?_
         refine gx_k (.bool false) w59 (gx_k (.bool false) w59 ?_)
         refine gx_nil ?_
         refine gx_thenN ?_
         exact ⟨false, selfA_i (by kernel_rfl), (Option.some.inj hE76), hS60⟩
       ·refine gx_v (.bool false) w59 (run_boolE (decide_eq_false h78) (by kernel_rfl)) ?_
        refine gx_k (.bool false) w59 (gx_o (gx_o (gx_o (gx_k (.bool false) w59 (gx_k (.bool false) w59 ?_)))))
        refine gx_nil ?_
        refine gx_thenN ?_
        exact ⟨false, selfA_i (by kernel_rfl), (Option.some.inj hE76), hS60⟩
      ·rintro _ w71 ⟨b74, hq111, rfl, hS72⟩
       obtain ⟨u73, rfl⟩ := selfA_u hq111
       try dsimp only at hO77
       cases b74 with
       | true =>
        try dsimp only at hO77
        refine gx_yes (by kernel_rfl) ?_
        refine gx_seq (fun K80 hK81 => ?_)
        refine gx_region ?_
        refine gx_k (.slice A29 l31.length c30) w71 (gx_k (.int .i64 ((l31.length : Nat) : Int)) w71 (gx_k (.int .i64 (IntKind.i64.wrap (((l31.length : Nat) : Int) - 1))) w71 (gx_k (.int .i64 (IntKind.i64.wrap (((l31.length : Nat) : Int) - 1))) w71 ?_)))
        refine gx_nil ?_
        refine gx_thenN ?_
        refine hK81 _ _ ?_
        refine gx_seq (fun K82 hK83 => ?_)
        refine gd_start (fun w => St [] w0 w [rowE .i64 3 A29 c30 l31]) 16 #[false, false, false, false, false, false, false, false, false, false, false, false, false, false, false, false] (by kernel_rfl) (by kernel_rfl) ?_
        have hS85 := hS72.drew
        generalize w71.drew = w84 at hS85 ⊢
        refine gd1 0 { dst := some 39, op := _, type := _, pos := _, after := _, guard := _ } (.slice A9 l5.length c10) rfl (hS85.pick [1] rfl rfl) (fun w hSw => by kernel_rfl) ?_
        refine gd1 1 { dst := some 40, op := _, type := _, pos := _, after := _, guard := _ } (.int .i64 x32) rfl (hS85.pick [1] rfl rfl) (fun w hSw => by kernel_rfl) ?_
        refine gd1 2 { dst := some 41, op := _, type := _, pos := _, after := _, guard := _ } (.slice A9 l5.length c10) rfl (hS85.pick [1] rfl rfl) (fun w hSw => by kernel_rfl) ?_
        refine gd1 3 { dst := some 42, op := _, type := _, pos := _, after := _, guard := _ } (.slice A29 l31.length c30) rfl (hS85.pick [1] rfl rfl) (fun w hSw => by kernel_rfl) ?_
        refine gd1 4 { dst := some 43, op := _, type := _, pos := _, after := _, guard := _ } (.int .i64 (IntKind.i64.wrap (((l31.length : Nat) : Int) - 1))) rfl (hS85.pick [1] rfl rfl) (fun w hSw => by kernel_rfl) ?_
        obtain ⟨x86, hx87, hO77⟩ := bind_in hO77
        refine gd1 5 { dst := some 44, op := _, type := _, pos := _, after := _, guard := _ } (.pointer (Option.map (fun (p : Addr) => p.add (Int.toNat (IntKind.i64.wrap (((l31.length : Nat) : Int) - 1)) * 1)) A29)) rfl (hS85.pick [1] rfl rfl) (fun w hSw => run_ixaddr (E := 3) (s := 1) (k := .i64) (c := c30) rfl (by kernel_rfl) (by kernel_rfl) (by kernel_rfl) (fun _ => by kernel_rfl) (ix_in hx87).1 (ix_in hx87).2.1 (num_nil (hS85.row 1 rfl).1)) ?_
        refine gd1 6 { dst := some 45, op := _, type := _, pos := _, after := _, guard := _ } (.int .i64 x86) rfl (hS85.pick [1] rfl rfl) (fun w hSw => run_loadix rfl (by kernel_rfl) (fun _ => by kernel_rfl) (hSw.row 0 rfl).1 hx87) ?_
        refine gd1 7 { dst := some 46, op := _, type := _, pos := _, after := _, guard := _ } (.slice A29 l31.length c30) rfl (hS85.pick [1] rfl rfl) (fun w hSw => by kernel_rfl) ?_
        refine gd1 8 { dst := some 47, op := _, type := _, pos := _, after := _, guard := _ } (.int .i64 (IntKind.i64.wrap (((l31.length : Nat) : Int) - 1))) rfl (hS85.pick [1] rfl rfl) (fun w hSw => by kernel_rfl) ?_
        obtain ⟨x88, hx89, hO77⟩ := bind_in hO77
        refine gd1 9 { dst := some 48, op := _, type := _, pos := _, after := _, guard := _ } (.pointer (Option.map (fun (p : Addr) => p.add (Int.toNat (IntKind.i64.wrap (((l31.length : Nat) : Int) - 1)) * 1)) A29)) rfl (hS85.pick [1] rfl rfl) (fun w hSw => run_ixaddr (E := 3) (s := 1) (k := .i64) (c := c30) rfl (by kernel_rfl) (by kernel_rfl) (by kernel_rfl) (fun _ => by kernel_rfl) (ix_in hx89).1 (ix_in hx89).2.1 (num_nil (hS85.row 1 rfl).1)) ?_
        refine gd1 10 { dst := some 49, op := _, type := _, pos := _, after := _, guard := _ } (.int .i64 x88) rfl (hS85.pick [1] rfl rfl) (fun w hSw => run_loadix rfl (by kernel_rfl) (fun _ => by kernel_rfl) (hSw.row 0 rfl).1 hx89) ?_
        refine gd1 11 { dst := some 50, op := _, type := _, pos := _, after := _, guard := _ } (.int .i64 x32) rfl (hS85.pick [1] rfl rfl) (fun w hSw => by kernel_rfl) ?_
        obtain ⟨x90, hx91, hO77⟩ := bind_in hO77
        refine gd1 12 { dst := some 51, op := _, type := _, pos := _, after := _, guard := _ } (.pointer (Option.map (fun (p : Addr) => p.add (Int.toNat x32 * 1)) A9)) rfl (hS85.pick [1] rfl rfl) (fun w hSw => run_ixaddr (E := 3) (s := 1) (k := .i64) (c := c10) rfl (by kernel_rfl) (by kernel_rfl) (by kernel_rfl) (fun _ => by kernel_rfl) (ix_in hx91).1 (lt_len (hn27.trans (setx_len hx53).symm) (ix_in hx91).2.1) (nil_len (hn27.trans (setx_len hx53).symm) (num_nil (hS85.row 0 rfl).1))) ?_
        obtain ⟨l94, hx95, hO77⟩ := bind_in hO77
        refine gdS 13 { dst := none, op := _, type := _, pos := _, after := _, guard := _ } rfl (st_storeix rfl (by kernel_rfl) (by kernel_rfl) (fun _ => by kernel_rfl) hS85 0 rfl hx95) ?_
        rintro w92 hS93
        have hS93 : St _ _ w92 [rowE .i64 3 A9 c10 l94, rowE .i64 3 A29 c30 l31] := hS93
        refine ⟨(hS93.pick [1] rfl rfl), ?_⟩
        obtain ⟨x96, hx97, hO77⟩ := bind_in hO77
        refine gd1 14 { dst := some 52, op := _, type := _, pos := _, after := _, guard := _ } (.pointer (Option.map (fun (p : Addr) => p.add (Int.toNat x86 * 1)) A9)) rfl (hS93.pick [1] rfl rfl) (fun w hSw => run_ixaddr (E := 3) (s := 1) (k := .i64) (c := c10) rfl (by kernel_rfl) (by kernel_rfl) (by kernel_rfl) (fun _ => by kernel_rfl) (ix_in hx97).1 (lt_len ((hn27.trans (setx_len hx53).symm).trans (setx_len hx95).symm) (ix_in hx97).2.1) (nil_len ((hn27.trans (setx_len hx53).symm).trans (setx_len hx95).symm) (num_nil (hS93.row 0 rfl).1))) ?_
        obtain ⟨l100, hx101, hO77⟩ := bind_in hO77
        refine gdS 15 { dst := none, op := _, type := _, pos := _, after := _, guard := _ } rfl (st_storeix rfl (by kernel_rfl) (by kernel_rfl) (fun _ => by kernel_rfl) hS93 0 rfl hx101) ?_
        rintro w98 hS99
        have hS99 : St _ _ w98 [rowE .i64 3 A9 c10 l100, rowE .i64 3 A29 c30 l31] := hS99
        refine ⟨(hS99.pick [1] rfl rfl), ?_⟩
        refine gd_done (by kernel_rfl) ?_
        refine gx_thenN ?_
        refine hK83 _ _ ?_
        refine gx_region ?_
        refine gx_k (.slice A29 l31.length c30) w98 (gx_k (.int .i64 (IntKind.i64.wrap (((l31.length : Nat) : Int) - 1))) w98 ?_)
        obtain ⟨l102, hx103, hO77⟩ := bind_in hO77
        refine gx_v (.slice A29 l102.length c30) w98 (run_trunc (TE := 3) (.int .i64 (IntKind.i64.wrap (((l31.length : Nat) : Int) - 1))) .i64 rfl (by kernel_rfl) (by kernel_rfl) rfl (by kernel_rfl) (fun _ => by kernel_rfl) (hS99.get 1 rfl) hx103) ?_
        have hS104 : St _ _ w98 [rowE .i64 3 A9 c10 l100, rowE .i64 3 A29 c30 l102] := hS99.trunc 1 rfl hx103
        refine gx_k (.slice A29 l102.length c30) w98 ?_
        refine gx_nil ?_
        refine gx_blkN ?_
        refine gx_blkN ?_
        refine gx_thenN ?_
        refine hK41 _ _ ?_
        refine gx_region ?_
        refine gx_k (.int .i64 (IntKind.i64.wrap (x32 + 1))) w98 (gx_k (.int .i64 (IntKind.i64.wrap (x32 + 1))) w98 ?_)
        refine gx_nil ?_
        refine gx_thenN ?_
        exact ⟨k33, Nat.lt_succ_self k33, l100, l102, (IntKind.i64.wrap (x32 + 1)), A29, c30, selfA_i (by kernel_rfl), hO77, hS104, (((hn27.trans (setx_len hx53).symm).trans (setx_len hx95).symm).trans (setx_len hx101).symm)⟩
       | false =>
        try dsimp only at hO77
        refine gx_no (by kernel_rfl) ?_
        refine gx_seq (fun K105 hK106 => ?_)
        refine gx_region ?_
        refine gx_k (.int .u8 x44) w71 ?_
        rcases if_in hO77 with ⟨h107, hO77⟩ | ⟨h107, hO77⟩
        ·refine gx_v (.bool true) w71 (run_boolE (decide_eq_true h107) (by kernel_rfl)) ?_
         refine gx_k (.bool true) w71 ?_
         refine gx_nil ?_
         refine gx_thenN ?_
         refine hK106 _ _ ?_
         refine gx_yes (by kernel_rfl) ?_
         refine gx_region ?_
         refine gx_k (.slice A29 l31.length c30) w71 ?_
         obtain ⟨l108, hx109, hO77⟩ := bind_in hO77
         refine gx_v (.slice A29 l108.length c30) w71 (run_trunc (TE := 3) (.int .i64 0) .i64 rfl (by kernel_rfl) (by kernel_rfl) rfl (by kernel_rfl) (fun _ => by kernel_rfl) (hS72.get 1 rfl) hx109) ?_
         have hS110 : St _ _ w71 [rowE .i64 3 A9 c10 l52, rowE .i64 3 A29 c30 l108] := hS72.trunc 1 rfl hx109
         refine gx_k (.slice A29 l108.length c30) w71 ?_
         refine gx_nil ?_
         refine gx_blkN ?_
         refine gx_blkN ?_
         refine gx_thenN ?_
         refine hK41 _ _ ?_
         refine gx_region ?_
         refine gx_k (.int .i64 (IntKind.i64.wrap (x32 + 1))) w71 (gx_k (.int .i64 (IntKind.i64.wrap (x32 + 1))) w71 ?_)
         refine gx_nil ?_
         refine gx_thenN ?_
         exact ⟨k33, Nat.lt_succ_self k33, l52, l108, (IntKind.i64.wrap (x32 + 1)), A29, c30, selfA_i (by kernel_rfl), hO77, hS110, (hn27.trans (setx_len hx53).symm)⟩
        ·refine gx_v (.bool false) w71 (run_boolE (decide_eq_false h107) (by kernel_rfl)) ?_
         refine gx_k (.bool false) w71 ?_
         refine gx_nil ?_
         refine gx_thenN ?_
         refine hK106 _ _ ?_
         refine gx_no (by kernel_rfl) ?_
         refine gx_pass ?_
         refine gx_blkN ?_
         refine gx_blkN ?_
         refine gx_thenN ?_
         refine hK41 _ _ ?_
         refine gx_region ?_
         refine gx_k (.int .i64 (IntKind.i64.wrap (x32 + 1))) w71 (gx_k (.int .i64 (IntKind.i64.wrap (x32 + 1))) w71 ?_)
         refine gx_nil ?_
         refine gx_thenN ?_
         exact ⟨k33, Nat.lt_succ_self k33, l52, l31, (IntKind.i64.wrap (x32 + 1)), A29, c30, selfA_i (by kernel_rfl), hO77, hS72, (hn27.trans (setx_len hx53).symm)⟩
    ·refine gx_v (.bool false) w24 (run_boolE (decide_eq_false h37) (by kernel_rfl)) ?_
     refine gx_nil ?_
     refine gx_thenN ?_
     refine hK36 _ _ ?_
     refine gx_seq (fun K112 hK113 => ?_)
     refine gx_no (by kernel_rfl) ?_
     refine gx_exit ?_
     refine gx_thenE ?_
     refine gx_thenE ?_
     refine gx_blkE ?_
     refine gx_thenN ?_
     exact ⟨l28, selfA_i (by kernel_rfl), (Option.some.inj hL34), (hS25.pick [0] rfl rfl), hn27⟩
 ·rintro _ w13 ⟨l17, hq117, rfl, hS14, hn16⟩
  obtain ⟨u15, rfl⟩ := selfA_u hq117
  try dsimp only at hO20
  refine gx_seq (fun K115 hK116 => ?_)
  refine gx_region ?_
  refine gx_k (.slice A9 l5.length c10) w13 (gx_k (.slice A9 l5.length c10) w13 ?_)
  refine gx_nil ?_
  refine gx_thenN ?_
  refine hK116 _ _ ?_
  refine gx_ret ?_
  obtain rfl := Option.some.inj hO20
  exact gx_fin (.slice A9 l5.length c10) (by kernel_rfl) (by kernel_rfl) ⟨_, rfl, A9, c10, by rw [← hn16] <;> kernel_rfl, hS14⟩

def pBase (N : Nat) (p0 : List Int) : Option (Int) :=
 ((pMatch N p0).bind fun l9 => ((pStrong N p0 l9 (0 : Int) ((p0.length : Nat) : Int)).bind fun x17 => ((pRw N x17).bind fun b23 => (match b23 with | true => some 1 | false => some 0))))

set_option linter.unusedVariables false in
def pBase_R (r : Int) (w0 : World) (v : Value) (w : World) : Prop := v = .int .u8 r ∧ St [] w0 w []

set_option maxRecDepth 100000 in
set_option maxHeartbeats 4000000 in
theorem pBase_ok (N : Nat) (p0 : List Int) (A0 : Option Addr) (c0 : Nat) (r : Int) (hF : pBase N p0 = some r) (w0 : World) (hv0 : Vw [] .u8 w0 A0 c0 p0) :
  Calls Try.prog 18 #[.slice A0 p0.length c0] w0 fun e w => ∃ v, e = .returned v ∧ pBase_R r w0 v w := by
 have hS0 := St.start w0
 unfold pBase at hF
 refine calls_of Try.func18 rfl ⟨((.slice A0 p0.length c0) :: un 9 ([])).toArray, []⟩ (by kernel_rfl) ?_
 refine gx_seq (fun K1 hK2 => ?_)
 refine gx_region ?_
 refine gx_k (.int .u8 0) w0 ?_
 refine gx_nil ?_
 refine gx_thenN ?_
 refine hK2 _ _ ?_
 refine gx_seq (fun K3 hK4 => ?_)
 refine gx_seq (fun K5 hK6 => ?_)
 refine gx_region ?_
 refine gx_k (.slice A0 p0.length c0) w0 (gx_k (.slice A0 p0.length c0) w0 ?_)
 have hP7 : St _ _ w0 ([] ++ []) := hS0
 obtain ⟨l9, hc8, hF⟩ := bind_in hF
 try dsimp only at hF
 refine gx_c (pMatch_R l9 w0) (pMatch_ok N p0 A0 c0 _ hc8 w0 (hP7.vwA hv0)) ?_
 rintro _ w12 ⟨A10, c11, rfl, hT14⟩
 have hS13 : St _ _ w12 [rowE .i64 3 A10 c11 l9] := hS0.take _ hT14
 refine gx_k (.slice A0 p0.length c0) w12 (gx_k (.int .i64 ((p0.length : Nat) : Int)) w12 ?_)
 have hP15 : St _ _ w12 ([] ++ [rowE .i64 3 A10 c11 l9]) := hS13
 obtain ⟨x17, hc16, hF⟩ := bind_in hF
 try dsimp only at hF
 refine gx_c (pStrong_R x17 w12) (pStrong_ok N p0 l9 (0 : Int) ((p0.length : Nat) : Int) A0 c0 A10 c11 _ hc16 w12 (hP15.vwA hv0) (hP15.vwB 0 rfl)) ?_
 rintro _ w18 ⟨rfl, hT20⟩
 have hS19 : St _ _ w18 [rowE .i64 3 A10 c11 l9] := hS13.take _ hT20
 have hP21 : St _ _ w18 ([] ++ [rowE .i64 3 A10 c11 l9]) := hS19
 obtain ⟨b23, hc22, hF⟩ := bind_in hF
 try dsimp only at hF
 refine gx_c (pRw_R b23 w18) (pRw_ok N x17 _ hc22 w18 ) ?_
 rintro _ w24 ⟨rfl, hT26⟩
 have hS25 : St _ _ w24 [rowE .i64 3 A10 c11 l9] := hS19.take _ hT26
 refine gx_nil ?_
 refine gx_thenN ?_
 refine hK6 _ _ ?_
 cases b23 with
 | true =>
  try dsimp only at hF
  refine gx_yes (by kernel_rfl) ?_
  refine gx_seq (fun K27 hK28 => ?_)
  refine gx_region ?_
  refine gx_k (.int .u8 1) w24 ?_
  refine gx_nil ?_
  refine gx_thenN ?_
  refine hK28 _ _ ?_
  refine gx_ret ?_
  refine gx_thenR ?_
  obtain rfl := Option.some.inj hF
  exact gx_fin (.int .u8 1) (by kernel_rfl) (by kernel_rfl) ⟨_, rfl, rfl, (hS25.pick [] rfl rfl)⟩
 | false =>
  try dsimp only at hF
  refine gx_no (by kernel_rfl) ?_
  refine gx_pass ?_
  refine gx_thenN ?_
  refine hK4 _ _ ?_
  refine gx_seq (fun K29 hK30 => ?_)
  refine gx_region ?_
  refine gx_k (.int .u8 0) w24 ?_
  refine gx_nil ?_
  refine gx_thenN ?_
  refine hK30 _ _ ?_
  refine gx_ret ?_
  obtain rfl := Option.some.inj hF
  exact gx_fin (.int .u8 0) (by kernel_rfl) (by kernel_rfl) ⟨_, rfl, rfl, (hS25.pick [] rfl rfl)⟩

def pIdx_L1 (N : Nat) (p0 : List Int) : Nat → Int → Option (Ctl (Unit) (Int))
  | 0, _ => none
  | k15+1, x14 => (if x14 < ((p0.length : Nat) : Int) then ((ix p0 x14).bind fun x28 => ((pUnk N x28).bind fun b32 => (match b32 with | true => some (Ctl.ret x14) | false => pIdx_L1 N p0 k15 (IntKind.i64.wrap (x14 + 1))))) else some (Ctl.go ()))
def pIdx (N : Nat) (p0 : List Int) : Option (Int) :=
  ((pIdx_L1 N p0 N 0 : Option (Ctl (Unit) (Int))).bind fun | Ctl.go () => some (-1) | Ctl.ret r => some r)

set_option linter.unusedVariables false in
def pIdx_R (r : Int) (w0 : World) (v : Value) (w : World) : Prop := v = .int .i64 r ∧ St [] w0 w []

set_option maxRecDepth 100000 in
set_option maxHeartbeats 4000000 in
theorem pIdx_ok (N : Nat) (p0 : List Int) (A0 : Option Addr) (c0 : Nat) (r : Int) (hF : pIdx N p0 = some r) (w0 : World) (hv0 : Vw [] .u8 w0 A0 c0 p0) :
    Calls Try.prog 46 #[.slice A0 p0.length c0, .func (.func 36) #[] #[]] w0 fun e w => ∃ v, e = .returned v ∧ pIdx_R r w0 v w := by
  have hS0 := St.start w0
  unfold pIdx at hF
  refine calls_of Try.func46 rfl ⟨((.slice A0 p0.length c0) :: (.func (.func 36) #[] #[]) :: un 17 ([])).toArray, []⟩ (by kernel_rfl) ?_
  refine gx_seq (fun K1 hK2 => ?_)
  refine gx_region ?_
  refine gx_val (.int .i64 0) w0 (by kernel_rfl) (by kernel_rfl) ?_
  refine gx_nil ?_
  refine gx_thenN ?_
  refine hK2 _ _ ?_
  obtain ⟨c6, hE7, hO8⟩ := bind_in hF
  refine gx_cut (fun a w => selfA (fun u5 => ⟨((u5 0) :: (.func (.func 36) #[] #[]) :: undef :: undef :: dd u5 4 15 ([])).toArray, []⟩) a ∧ Ctl.go () = c6 ∧ St [] w0 w []) ?_ ?_
  · refine gx_seq (fun K9 hK10 => ?_)
    refine gx_region ?_
    refine gx_val (.slice A0 p0.length c0) w0 (by kernel_rfl) (by kernel_rfl) ?_
    refine gx_val (.int .i64 ((p0.length : Nat) : Int)) w0 (by kernel_rfl) (by kernel_rfl) ?_
    refine gx_val (.int .i64 0) w0 (by kernel_rfl) (by kernel_rfl) ?_
    refine gx_nil ?_
    refine gx_thenN ?_
    refine hK10 _ _ ?_
    refine gx_block ?_
    refine gx_loop (fun k a w => ∃ (x14 : Int), selfA (fun u13 => ⟨((.slice A0 p0.length c0) :: (.func (.func 36) #[] #[]) :: undef :: undef :: dd u13 4 3 ((.int .i64 ((p0.length : Nat) : Int)) :: (.int .i64 x14) :: dd u13 9 10 ([]))).toArray, []⟩) a ∧ pIdx_L1 N p0 k x14 = some c6 ∧ St [] w0 w []) N ?_ ?_
    · exact ⟨0, selfA_i (by kernel_rfl), hE7, hS0⟩
    · rintro k15 _ w11 ⟨x14, hq40, hL16, hS12⟩
      obtain ⟨u13, rfl⟩ := selfA_u hq40
      cases k15 with
      | zero => cases hL16
      | succ k15 =>
        rw [pIdx_L1] at hL16
        refine gx_seq (fun K17 hK18 => ?_)
        refine gx_region ?_
        rcases if_in hL16 with ⟨h19, hL16⟩ | ⟨h19, hL16⟩
        · refine gx_val (.bool true) w11 (by kernel_rfl) (run_boolE (decide_eq_true h19) (by kernel_rfl)) ?_
          refine gx_nil ?_
          refine gx_thenN ?_
          refine hK18 _ _ ?_
          refine gx_seq (fun K20 hK21 => ?_)
          refine gx_yes (by kernel_rfl) ?_
          refine gx_pass ?_
          refine gx_thenN ?_
          refine hK21 _ _ ?_
          refine gx_seq (fun K22 hK23 => ?_)
          refine gx_block ?_
          refine gx_seq (fun K24 hK25 => ?_)
          refine gx_region ?_
          refine gx_val (.int .i64 x14) w11 (by kernel_rfl) (by kernel_rfl) ?_
          refine gx_val (.int .i64 x14) w11 (by kernel_rfl) (by kernel_rfl) ?_
          refine gx_nil ?_
          refine gx_thenN ?_
          refine hK25 _ _ ?_
          refine gx_seq (fun K26 hK27 => ?_)
          refine gx_region ?_
          refine gx_val (.func (.func 36) #[] #[]) w11 (by kernel_rfl) (by kernel_rfl) ?_
          refine gx_val (.slice A0 p0.length c0) w11 (by kernel_rfl) (by kernel_rfl) ?_
          refine gx_val (.int .i64 x14) w11 (by kernel_rfl) (by kernel_rfl) ?_
          obtain ⟨x28, hx29, hL16⟩ := bind_in hL16
          refine gx_val (.pointer (Option.map (fun (p : Addr) => p.add (Int.toNat x14 * 1)) A0)) w11 (by kernel_rfl) (run_ixaddr (E := 26) (s := 1) (k := .i64) (c := c0) rfl (by kernel_rfl) (by kernel_rfl) (by kernel_rfl) (fun _ => by kernel_rfl) (ix_in hx29).1 (ix_in hx29).2.1 (num_nil (hS12.view hv0))) ?_
          refine gx_val (.int .u8 x28) w11 (by kernel_rfl) (run_loadix rfl (by kernel_rfl) (fun _ => by kernel_rfl) (hS12.view hv0) hx29) ?_
          have hP30 : St _ _ w11 ([] ++ []) := hS12
          obtain ⟨b32, hc31, hL16⟩ := bind_in hL16
          try dsimp only at hL16
          refine gx_call (pUnk_R b32 w11) (by kernel_rfl) (by kernel_rfl) (pUnk_ok N x28 _ hc31 w11 ) ?_
          rintro _ w33 ⟨rfl, hT35⟩
          have hS34 : St _ _ w33 [] := hS12.take _ hT35
          refine gx_nil ?_
          refine gx_thenN ?_
          refine hK27 _ _ ?_
          cases b32 with
          | true =>
            try dsimp only at hL16
            refine gx_yes (by kernel_rfl) ?_
            refine gx_seq (fun K36 hK37 => ?_)
            refine gx_region ?_
            refine gx_val (.int .i64 x14) w33 (by kernel_rfl) (by kernel_rfl) ?_
            refine gx_val (.int .i64 x14) w33 (by kernel_rfl) (by kernel_rfl) ?_
            refine gx_nil ?_
            refine gx_thenN ?_
            refine hK37 _ _ ?_
            refine gx_ret ?_
            refine gx_blkR ?_
            refine gx_thenR ?_
            refine gx_thenR ?_
            refine gx_blkR ?_
            refine gx_thenR ?_
            obtain rfl := Option.some.inj hL16
            try dsimp only at hO8
            obtain rfl := Option.some.inj hO8
            exact gx_fin (.int .i64 x14) (by kernel_rfl) (by kernel_rfl) ⟨_, rfl, rfl, hS34⟩
          | false =>
            try dsimp only at hL16
            refine gx_no (by kernel_rfl) ?_
            refine gx_pass ?_
            refine gx_blkN ?_
            refine gx_thenN ?_
            refine hK23 _ _ ?_
            refine gx_region ?_
            refine gx_val (.int .i64 (IntKind.i64.wrap (x14 + 1))) w33 (by kernel_rfl) (by kernel_rfl) ?_
            refine gx_val (.int .i64 (IntKind.i64.wrap (x14 + 1))) w33 (by kernel_rfl) (by kernel_rfl) ?_
            refine gx_nil ?_
            refine gx_thenN ?_
            exact ⟨k15, Nat.lt_succ_self k15, (IntKind.i64.wrap (x14 + 1)), selfA_i (by kernel_rfl), hL16, hS34⟩
        · refine gx_val (.bool false) w11 (by kernel_rfl) (run_boolE (decide_eq_false h19) (by kernel_rfl)) ?_
          refine gx_nil ?_
          refine gx_thenN ?_
          refine hK18 _ _ ?_
          refine gx_seq (fun K38 hK39 => ?_)
          refine gx_no (by kernel_rfl) ?_
          refine gx_exit ?_
          refine gx_thenE ?_
          refine gx_thenE ?_
          refine gx_blkE ?_
          refine gx_thenN ?_
          exact ⟨selfA_i (by kernel_rfl), (Option.some.inj hL16), hS12⟩
  · rintro _ w3 ⟨hq43, rfl, hS4⟩
    obtain ⟨u5, rfl⟩ := selfA_u hq43
    try dsimp only at hO8
    refine gx_seq (fun K41 hK42 => ?_)
    refine gx_region ?_
    refine gx_val (.int .i64 (-1)) w3 (by kernel_rfl) (by kernel_rfl) ?_
    refine gx_nil ?_
    refine gx_thenN ?_
    refine hK42 _ _ ?_
    refine gx_ret ?_
    obtain rfl := Option.some.inj hO8
    exact gx_fin (.int .i64 (-1)) (by kernel_rfl) (by kernel_rfl) ⟨_, rfl, rfl, hS4⟩

def pHas (N : Nat) (p0 : List Int) : Option (Bool) :=
  ((pIdx N p0).bind fun x7 => some (decide (x7 ≥ 0)))

set_option linter.unusedVariables false in
def pHas_R (r : Bool) (w0 : World) (v : Value) (w : World) : Prop := v = .bool r ∧ St [] w0 w []

set_option maxRecDepth 100000 in
set_option maxHeartbeats 4000000 in
theorem pHas_ok (N : Nat) (p0 : List Int) (A0 : Option Addr) (c0 : Nat) (r : Bool) (hF : pHas N p0 = some r) (w0 : World) (hv0 : Vw [] .u8 w0 A0 c0 p0) :
    Calls Try.prog 35 #[.slice A0 p0.length c0, .func (.func 36) #[] #[]] w0 fun e w => ∃ v, e = .returned v ∧ pHas_R r w0 v w := by
  have hS0 := St.start w0
  unfold pHas at hF
  refine calls_of Try.func35 rfl ⟨((.slice A0 p0.length c0) :: (.func (.func 36) #[] #[]) :: un 7 ([])).toArray, []⟩ (by kernel_rfl) ?_
  refine gx_seq (fun K1 hK2 => ?_)
  refine gx_region ?_
  refine gx_val (.bool false) w0 (by kernel_rfl) (by kernel_rfl) ?_
  refine gx_nil ?_
  refine gx_thenN ?_
  refine hK2 _ _ ?_
  refine gx_seq (fun K3 hK4 => ?_)
  refine gx_region ?_
  refine gx_val (.slice A0 p0.length c0) w0 (by kernel_rfl) (by kernel_rfl) ?_
  refine gx_val (.func (.func 36) #[] #[]) w0 (by kernel_rfl) (by kernel_rfl) ?_
  have hP5 : St _ _ w0 ([] ++ []) := hS0
  obtain ⟨x7, hc6, hF⟩ := bind_in hF
  try dsimp only at hF
  refine gx_call (pIdx_R x7 w0) (by kernel_rfl) (by kernel_rfl) (pIdx_ok N p0 A0 c0 _ hc6 w0 (hP5.vwA hv0)) ?_
  rintro _ w8 ⟨rfl, hT10⟩
  have hS9 : St _ _ w8 [] := hS0.take _ hT10
  refine gx_val (.bool (decide (x7 ≥ 0))) w8 (by kernel_rfl) (by kernel_rfl) ?_
  refine gx_val (.bool (decide (x7 ≥ 0))) w8 (by kernel_rfl) (by kernel_rfl) ?_
  refine gx_nil ?_
  refine gx_thenN ?_
  refine hK4 _ _ ?_
  refine gx_ret ?_
  obtain rfl := Option.some.inj hF
  exact gx_fin (.bool (decide (x7 ≥ 0))) (by kernel_rfl) (by kernel_rfl) ⟨_, rfl, rfl, hS9⟩

def pCloneS (_N : Nat) (p0 : List Int) : Option (List Int) :=
  ((apx ([]) p0).bind fun l11 => some l11)

def pCloneS_R (r : List Int) (w0 : World) (v : Value) (w : World) : Prop := ∃ (A0' : Option Addr) (c0' : Nat), v = .slice A0' r.length c0' ∧ St [] w0 w [rowE .u8 26 A0' c0' r]

set_option maxRecDepth 100000 in
set_option maxHeartbeats 4000000 in
theorem pCloneS_ok (N : Nat) (p0 : List Int) (a0 : Addr) (c0 : Nat) (r : List Int) (hF : pCloneS N p0 = some r) (w0 : World) (hv0 : Vw [] .u8 w0 (some a0) c0 p0) :
    Calls Try.prog 48 #[.slice (some a0) p0.length c0] w0 fun e w => ∃ v, e = .returned v ∧ pCloneS_R r w0 v w := by
  have hS0 := St.start w0
  unfold pCloneS at hF
  refine calls_of Try.func48 rfl ⟨((.slice (some a0) p0.length c0) :: un 7 ([])).toArray, []⟩ (by kernel_rfl) ?_
  refine gx_seq (fun K1 hK2 => ?_)
  refine gx_region ?_
  refine gx_val (.slice none 0 0) w0 (by kernel_rfl) (by kernel_rfl) ?_
  refine gx_nil ?_
  refine gx_thenN ?_
  refine hK2 _ _ ?_
  refine gx_seq (fun K3 hK4 => ?_)
  refine gx_seq (fun K5 hK6 => ?_)
  refine gx_region ?_
  refine gx_val (.slice (some a0) p0.length c0) w0 (by kernel_rfl) (by kernel_rfl) ?_
  refine gx_val (.bool false) w0 (by kernel_rfl) (by kernel_rfl) ?_
  refine gx_nil ?_
  refine gx_thenN ?_
  refine hK6 _ _ ?_
  refine gx_no (by kernel_rfl) ?_
  refine gx_pass ?_
  refine gx_thenN ?_
  refine hK4 _ _ ?_
  refine gx_seq (fun K7 hK8 => ?_)
  refine gx_region ?_
  refine gx_R (by kernel_rfl) (st_made .u8 26 [] hS0 (by show 0 ≤ 1000000000; decide) (by kernel_rfl)) ?_
  rintro _ w9 ⟨rfl, hS10⟩
  have hS10 : St _ _ w9 [rowE .u8 26 (some ⟨w0.heap.size, 0, none⟩) 0 ([])] := hS10
  refine gx_val (.slice (some a0) p0.length c0) w9 (by kernel_rfl) (by kernel_rfl) ?_
  obtain ⟨l11, ha12, hF⟩ := bind_in hF
  obtain ⟨ha12, hq13⟩ := apx_in ha12
  refine gx_R (by kernel_rfl) (st_append rfl (by kernel_rfl) (by kernel_rfl) hS10 0 rfl (hS10.view hv0) hv0.nn ha12 (by kernel_rfl) (by kernel_rfl)) ?_
  rintro _ w16 ⟨A14, c15, rfl, hS17⟩
  rw [← hq13] at hS17 ⊢
  have hS17 : St _ _ w16 [rowE .u8 26 A14 c15 l11] := hS17
  refine gx_val (.slice A14 l11.length c15) w16 (by kernel_rfl) (by kernel_rfl) ?_
  refine gx_nil ?_
  refine gx_thenN ?_
  refine hK8 _ _ ?_
  refine gx_ret ?_
  obtain rfl := Option.some.inj hF
  exact gx_fin (.slice A14 l11.length c15) (by kernel_rfl) (by kernel_rfl) ⟨_, rfl, A14, c15, rfl, hS17⟩

def pCloneN (_N : Nat) : Option (List Int) :=
  some ([])

def pCloneN_R (r : List Int) (w0 : World) (v : Value) (w : World) : Prop := ∃ (A0' : Option Addr) (c0' : Nat), v = .slice A0' r.length c0' ∧ St [] w0 w [rowE .u8 26 A0' c0' r]

set_option maxRecDepth 100000 in
set_option maxHeartbeats 4000000 in
theorem pCloneN_ok (N : Nat)  (r : List Int) (hF : pCloneN N = some r) (w0 : World)  :
    Calls Try.prog 48 #[.slice none ((([] : List Int)).length) 0] w0 fun e w => ∃ v, e = .returned v ∧ pCloneN_R r w0 v w := by
  have hS0 := St.start w0
  unfold pCloneN at hF
  refine calls_of Try.func48 rfl ⟨((.slice none ((([] : List Int)).length) 0) :: un 7 ([])).toArray, []⟩ (by kernel_rfl) ?_
  refine gx_seq (fun K1 hK2 => ?_)
  refine gx_region ?_
  refine gx_val (.slice none 0 0) w0 (by kernel_rfl) (by kernel_rfl) ?_
  refine gx_nil ?_
  refine gx_thenN ?_
  refine hK2 _ _ ?_
  refine gx_seq (fun K3 hK4 => ?_)
  refine gx_seq (fun K5 hK6 => ?_)
  refine gx_region ?_
  refine gx_val (.slice none ((([] : List Int)).length) 0) w0 (by kernel_rfl) (by kernel_rfl) ?_
  refine gx_val (.bool true) w0 (by kernel_rfl) (by kernel_rfl) ?_
  refine gx_nil ?_
  refine gx_thenN ?_
  refine hK6 _ _ ?_
  refine gx_yes (by kernel_rfl) ?_
  refine gx_seq (fun K7 hK8 => ?_)
  refine gx_region ?_
  refine gx_val (.slice none 0 0) w0 (by kernel_rfl) (by kernel_rfl) ?_
  refine gx_nil ?_
  refine gx_thenN ?_
  refine hK8 _ _ ?_
  refine gx_ret ?_
  refine gx_thenR ?_
  have hS9 : St _ _ w0 [rowE .u8 26 none 0 ([])] := hS0.nilrow .u8 26
  obtain rfl := Option.some.inj hF
  exact gx_fin (.slice none (([] : List Int).length) 0) (by kernel_rfl) (by kernel_rfl) ⟨_, rfl, none, 0, rfl, hS9⟩

def pClone (N : Nat) (p0 : List Int) : Option (List Int) := pCloneS N p0
def pClone_R (r : List Int) (w0 : World) (v : Value) (w : World) : Prop := pCloneS_R r w0 v w
theorem pClone_ok (N : Nat) (p0 : List Int) (A0 : Option Addr) (c0 : Nat) (r : List Int) (hF : pClone N p0 = some r) (w0 : World) (hv0 : Vw [] .u8 w0 A0 c0 p0) :
    Calls Try.prog 48 #[.slice A0 p0.length c0] w0 fun e w => ∃ v, e = .returned v ∧ pClone_R r w0 v w := by
  cases A0 with
  | some a => exact pCloneS_ok N p0 a c0 r hF w0 hv0
  | none =>
    obtain rfl : p0 = [] := List.length_eq_zero_iff.1 (num_nil hv0.num rfl)
    obtain rfl := hv0.nn rfl
    have hr : r = [] := (Option.some.inj hF).symm
    subst hr
    exact pCloneN_ok N [] rfl w0

end Go.Proofs.Ytapfdafmhiilkaa
