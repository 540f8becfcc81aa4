/-
  The program, walked.
-/
import Derived.Test.YtjndolnjhbgflaaGu
namespace Go.Proofs.Ytjndolnjhbgflaa
open Go Go.RowKit
set_option linter.unusedVariables false

def pInit (_N : Nat) (p0 : Int) : Option (Bool) :=
 (if p0 = 20 then some true else (if p0 = 21 then some true else some (decide (p0 = 22))))

set_option linter.unusedVariables false in
def pInit_R (r : Bool) (w0 : World) (v : Value) (w : World) : Prop := v = .bool r ∧ St [] w0 w []

set_option maxRecDepth 100000 in
set_option maxHeartbeats 4000000 in
theorem pInit_ok (N : Nat) (p0 : Int)  (r : Bool) (hF : pInit N p0 = some r) (w0 : World)  :
  Calls Try.prog 35 #[.int .u8 p0] w0 fun e w => ∃ v, e = .returned v ∧ pInit_R r w0 v w := by
 have hS0 := St.start w0
 unfold pInit at hF
 refine calls_of Try.func35 rfl ⟨((.int .u8 p0) :: un 12 ([])).toArray, []⟩ (by kernel_rfl) ?_
 refine gx_seq (fun K1 hK2 => ?_)
 refine gx_region ?_
 refine gx_k (.bool false) w0 ?_
 refine gx_nil ?_
 refine gx_thenN ?_
 refine hK2 _ _ ?_
 refine gx_seq (fun K3 hK4 => ?_)
 refine gx_region ?_
 refine gx_k (.int .u8 p0) w0 ?_
 rcases if_in hF with ⟨h5, hF⟩ | ⟨h5, hF⟩
 ·refine gx_v (.bool true) w0 (run_boolE (decide_eq_true h5) (by kernel_rfl)) ?_
  refine gx_k (.bool true) w0 (gx_o (gx_o (gx_k (.bool true) w0 (gx_k (.bool true) w0 (gx_o (gx_o (gx_k (.bool true) w0 ?_)))))))
  refine gx_k (.bool true) w0 ?_
  refine gx_nil ?_
  refine gx_thenN ?_
  refine hK4 _ _ ?_
  refine gx_ret ?_
  obtain rfl := Option.some.inj hF
  exact gx_fin (.bool true) (by kernel_rfl) (by kernel_rfl) ⟨_, rfl, rfl, hS0⟩
 ·refine gx_v (.bool false) w0 (run_boolE (decide_eq_false h5) (by kernel_rfl)) ?_
  refine gx_k (.bool false) w0 (gx_k (.int .u8 p0) w0 ?_)
  rcases if_in hF with ⟨h6, hF⟩ | ⟨h6, hF⟩
  ·refine gx_v (.bool true) w0 (run_boolE (decide_eq_true h6) (by kernel_rfl)) ?_
   refine gx_k (.bool true) w0 (gx_k (.bool true) w0 (gx_o (gx_o (gx_k (.bool true) w0 (gx_k (.bool true) w0 ?_)))))
   refine gx_nil ?_
   refine gx_thenN ?_
   refine hK4 _ _ ?_
   refine gx_ret ?_
   obtain rfl := Option.some.inj hF
   exact gx_fin (.bool true) (by kernel_rfl) (by kernel_rfl) ⟨_, rfl, rfl, hS0⟩
  ·refine gx_v (.bool false) w0 (run_boolE (decide_eq_false h6) (by kernel_rfl)) ?_
   refine gx_k (.bool false) w0 (gx_k (.bool false) w0 (gx_k (.int .u8 p0) w0 (gx_k (.bool (decide (p0 = 22))) w0 (gx_k (.bool (decide (p0 = 22))) w0 (gx_k (.bool (decide (p0 = 22))) w0 ?_)))))
   refine gx_nil ?_
   refine gx_thenN ?_
   refine hK4 _ _ ?_
   refine gx_ret ?_
   obtain rfl := Option.some.inj hF
   exact gx_fin (.bool (decide (p0 = 22))) (by kernel_rfl) (by kernel_rfl) ⟨_, rfl, rfl, hS0⟩

def pRem (_N : Nat) (p0 : Int) : Option (Bool) :=
 (if p0 = 15 then some true else (if p0 = 16 then some true else (if p0 = 17 then some true else (if p0 = 18 then some true else (if p0 = 19 then some true else (if p0 = 10 then some true else some false))))))

set_option linter.unusedVariables false in
def pRem_R (r : Bool) (w0 : World) (v : Value) (w : World) : Prop := v = .bool r ∧ St [] w0 w []

set_option maxRecDepth 100000 in
set_option maxHeartbeats 4000000 in
theorem pRem_ok (N : Nat) (p0 : Int)  (r : Bool) (hF : pRem N p0 = some r) (w0 : World)  :
  Calls Try.prog 26 #[.int .u8 p0] w0 fun e w => ∃ v, e = .returned v ∧ pRem_R r w0 v w := by
 have hS0 := St.start w0
 unfold pRem at hF
 refine calls_of Try.func26 rfl ⟨((.int .u8 p0) :: un 10 ([])).toArray, []⟩ (by kernel_rfl) ?_
 refine gx_seq (fun K1 hK2 => ?_)
 refine gx_region ?_
 refine gx_k (.bool false) w0 ?_
 refine gx_nil ?_
 refine gx_thenN ?_
 refine hK2 _ _ ?_
 refine gx_seq (fun K3 hK4 => ?_)
 refine gx_seq (fun K5 hK6 => ?_)
 refine gx_region ?_
 refine gx_k (.int .u8 p0) w0 ?_
 refine gx_nil ?_
 refine gx_thenN ?_
 refine hK6 _ _ ?_
 refine gx_block ?_
 refine gx_seq (fun K7 hK8 => ?_)
 refine gx_seq (fun K9 hK10 => ?_)
 refine gx_region ?_
 rcases if_in hF with ⟨h11, hF⟩ | ⟨h11, hF⟩
 ·refine gx_v (.bool true) w0 (run_boolE (decide_eq_true h11) (by kernel_rfl)) ?_
  refine gx_k (.bool true) w0 ?_
  refine gx_nil ?_
  refine gx_thenN ?_
  refine hK10 _ _ ?_
  refine gx_yes (by kernel_rfl) ?_
  refine gx_pass ?_
  refine gx_thenN ?_
  refine hK8 _ _ ?_
  refine gx_yes (by kernel_rfl) ?_
  refine gx_seq (fun K12 hK13 => ?_)
  refine gx_region ?_
  refine gx_k (.bool true) w0 ?_
  refine gx_nil ?_
  refine gx_thenN ?_
  refine hK13 _ _ ?_
  refine gx_ret ?_
  refine gx_blkR ?_
  refine gx_thenR ?_
  obtain rfl := Option.some.inj hF
  exact gx_fin (.bool true) (by kernel_rfl) (by kernel_rfl) ⟨_, rfl, rfl, hS0⟩
 ·refine gx_v (.bool false) w0 (run_boolE (decide_eq_false h11) (by kernel_rfl)) ?_
  refine gx_k (.bool false) w0 ?_
  refine gx_nil ?_
  refine gx_thenN ?_
  refine hK10 _ _ ?_
  refine gx_no (by kernel_rfl) ?_
  refine gx_seq (fun K14 hK15 => ?_)
  refine gx_region ?_
  rcases if_in hF with ⟨h16, hF⟩ | ⟨h16, hF⟩
  ·refine gx_v (.bool true) w0 (run_boolE (decide_eq_true h16) (by kernel_rfl)) ?_
   refine gx_k (.bool true) w0 ?_
   refine gx_nil ?_
   refine gx_thenN ?_
   refine hK15 _ _ ?_
   refine gx_yes (by kernel_rfl) ?_
   refine gx_pass ?_
   refine gx_thenN ?_
   refine hK8 _ _ ?_
   refine gx_yes (by kernel_rfl) ?_
   refine gx_seq (fun K17 hK18 => ?_)
   refine gx_region ?_
   refine gx_k (.bool true) w0 ?_
   refine gx_nil ?_
   refine gx_thenN ?_
   refine hK18 _ _ ?_
   refine gx_ret ?_
   refine gx_blkR ?_
   refine gx_thenR ?_
   obtain rfl := Option.some.inj hF
   exact gx_fin (.bool true) (by kernel_rfl) (by kernel_rfl) ⟨_, rfl, rfl, hS0⟩
  ·refine gx_v (.bool false) w0 (run_boolE (decide_eq_false h16) (by kernel_rfl)) ?_
   refine gx_k (.bool false) w0 ?_
   refine gx_nil ?_
   refine gx_thenN ?_
   refine hK15 _ _ ?_
   refine gx_no (by kernel_rfl) ?_
   refine gx_seq (fun K19 hK20 => ?_)
   refine gx_region ?_
   rcases if_in hF with ⟨h21, hF⟩ | ⟨h21, hF⟩
   ·refine gx_v (.bool true) w0 (run_boolE (decide_eq_true h21) (by kernel_rfl)) ?_
    refine gx_k (.bool true) w0 ?_
    refine gx_nil ?_
    refine gx_thenN ?_
    refine hK20 _ _ ?_
    refine gx_yes (by kernel_rfl) ?_
    refine gx_pass ?_
    refine gx_thenN ?_
    refine hK8 _ _ ?_
    refine gx_yes (by kernel_rfl) ?_
    refine gx_seq (fun K22 hK23 => ?_)
    refine gx_region ?_
    refine gx_k (.bool true) w0 ?_
    refine gx_nil ?_
    refine gx_thenN ?_
    refine hK23 _ _ ?_
    refine gx_ret ?_
    refine gx_blkR ?_
    refine gx_thenR ?_
    obtain rfl := Option.some.inj hF
    exact gx_fin (.bool true) (by kernel_rfl) (by kernel_rfl) ⟨_, rfl, rfl, hS0⟩
   ·refine gx_v (.bool false) w0 (run_boolE (decide_eq_false h21) (by kernel_rfl)) ?_
    refine gx_k (.bool false) w0 ?_
    refine gx_nil ?_
    refine gx_thenN ?_
    refine hK20 _ _ ?_
    refine gx_no (by kernel_rfl) ?_
    refine gx_seq (fun K24 hK25 => ?_)
    refine gx_region ?_
    rcases if_in hF with ⟨h26, hF⟩ | ⟨h26, hF⟩
    ·refine gx_v (.bool true) w0 (run_boolE (decide_eq_true h26) (by kernel_rfl)) ?_
     refine gx_k (.bool true) w0 ?_
     refine gx_nil ?_
     refine gx_thenN ?_
     refine hK25 _ _ ?_
     refine gx_yes (by kernel_rfl) ?_
     refine gx_pass ?_
     refine gx_thenN ?_
     refine hK8 _ _ ?_
     refine gx_yes (by kernel_rfl) ?_
     refine gx_seq (fun K27 hK28 => ?_)
     refine gx_region ?_
     refine gx_k (.bool true) w0 ?_
     refine gx_nil ?_
     refine gx_thenN ?_
     refine hK28 _ _ ?_
     refine gx_ret ?_
     refine gx_blkR ?_
     refine gx_thenR ?_
     obtain rfl := Option.some.inj hF
     exact gx_fin (.bool true) (by kernel_rfl) (by kernel_rfl) ⟨_, rfl, rfl, hS0⟩
    ·refine gx_v (.bool false) w0 (run_boolE (decide_eq_false h26) (by kernel_rfl)) ?_
     refine gx_k (.bool false) w0 ?_
     refine gx_nil ?_
     refine gx_thenN ?_
     refine hK25 _ _ ?_
     refine gx_no (by kernel_rfl) ?_
     refine gx_seq (fun K29 hK30 => ?_)
     refine gx_region ?_
     rcases if_in hF with ⟨h31, hF⟩ | ⟨h31, hF⟩
     ·refine gx_v (.bool true) w0 (run_boolE (decide_eq_true h31) (by kernel_rfl)) ?_
      refine gx_k (.bool true) w0 ?_
      refine gx_nil ?_
      refine gx_thenN ?_
      refine hK30 _ _ ?_
      refine gx_yes (by kernel_rfl) ?_
      refine gx_pass ?_
      refine gx_thenN ?_
      refine hK8 _ _ ?_
      refine gx_yes (by kernel_rfl) ?_
      refine gx_seq (fun K32 hK33 => ?_)
      refine gx_region ?_
      refine gx_k (.bool true) w0 ?_
      refine gx_nil ?_
      refine gx_thenN ?_
      refine hK33 _ _ ?_
      refine gx_ret ?_
      refine gx_blkR ?_
      refine gx_thenR ?_
      obtain rfl := Option.some.inj hF
      exact gx_fin (.bool true) (by kernel_rfl) (by kernel_rfl) ⟨_, rfl, rfl, hS0⟩
     ·refine gx_v (.bool false) w0 (run_boolE (decide_eq_false h31) (by kernel_rfl)) ?_
      refine gx_k (.bool false) w0 ?_
      refine gx_nil ?_
      refine gx_thenN ?_
      refine hK30 _ _ ?_
      refine gx_no (by kernel_rfl) ?_
      refine gx_region ?_
      rcases if_in hF with ⟨h34, hF⟩ | ⟨h34, hF⟩
      ·refine gx_v (.bool true) w0 (run_boolE (decide_eq_true h34) (by kernel_rfl)) ?_
       refine gx_k (.bool true) w0 ?_
       refine gx_nil ?_
       refine gx_thenN ?_
       refine hK8 _ _ ?_
       refine gx_yes (by kernel_rfl) ?_
       refine gx_seq (fun K35 hK36 => ?_)
       refine gx_region ?_
       refine gx_k (.bool true) w0 ?_
       refine gx_nil ?_
       refine gx_thenN ?_
       refine hK36 _ _ ?_
       refine gx_ret ?_
       refine gx_blkR ?_
       refine gx_thenR ?_
       obtain rfl := Option.some.inj hF
       exact gx_fin (.bool true) (by kernel_rfl) (by kernel_rfl) ⟨_, rfl, rfl, hS0⟩
      ·refine gx_v (.bool false) w0 (run_boolE (decide_eq_false h34) (by kernel_rfl)) ?_
       refine gx_k (.bool false) w0 ?_
       refine gx_nil ?_
       refine gx_thenN ?_
       refine hK8 _ _ ?_
       refine gx_no (by kernel_rfl) ?_
       refine gx_pass ?_
       refine gx_blkN ?_
       refine gx_thenN ?_
       refine hK4 _ _ ?_
       refine gx_seq (fun K37 hK38 => ?_)
       refine gx_region ?_
       refine gx_k (.bool false) w0 ?_
       refine gx_nil ?_
       refine gx_thenN ?_
       refine hK38 _ _ ?_
       refine gx_ret ?_
       obtain rfl := Option.some.inj hF
       exact gx_fin (.bool false) (by kernel_rfl) (by kernel_rfl) ⟨_, rfl, rfl, hS0⟩

def pMatch_L1 (N : Nat) (p0 : List Int) : Nat → (List Int) → (List Int) → Int → Option (List Int)
 | 0, _, _, _ => none
 | k33+1, l28, l31, x32 => (if x32 < ((p0.length : Nat) : Int) then ((ix p0 x32).bind fun x44 => ((ix l28 x32).bind fun _x48 => ((setx l28 x32 (-1)).bind fun l52 => ((pInit N x44).bind fun b58 => (match b58 with | true => ((apx l31 ([x32])).bind fun l64 => pMatch_L1 N p0 k33 l52 l64 (IntKind.i64.wrap (x32 + 1))) | false => (((if x44 = 23 then (if ((l31.length : Nat) : Int) > 0 then some (true) else some (false)) else some (false)) : Option (Bool)).bind fun b74 => (match b74 with | true => ((ix l31 (IntKind.i64.wrap (((l31.length : Nat) : Int) - 1))).bind fun x86 => ((ix l31 (IntKind.i64.wrap (((l31.length : Nat) : Int) - 1))).bind fun x88 => ((ix l52 x32).bind fun _x90 => ((setx l52 x32 x88).bind fun l94 => ((ix l94 x86).bind fun _x96 => ((setx l94 x86 x32).bind fun l100 => ((cutx l31 0 (IntKind.i64.wrap (((l31.length : Nat) : Int) - 1))).bind fun l102 => pMatch_L1 N p0 k33 l100 l102 (IntKind.i64.wrap (x32 + 1))))))))) | false => (if x44 = 11 then ((cutx l31 0 (0 : Int)).bind fun l108 => pMatch_L1 N p0 k33 l52 l108 (IntKind.i64.wrap (x32 + 1))) else pMatch_L1 N p0 k33 l52 l31 (IntKind.i64.wrap (x32 + 1)))))))))) else some (l28))
def pMatch (N : Nat) (p0 : List Int) : Option (List Int) :=
 ((mkx ((p0.length : Nat) : Int)).bind fun l5 => ((pMatch_L1 N p0 N l5 ([]) 0 : Option (List Int)).bind fun l17 => some l17))

set_option linter.unusedVariables false in
def pMatch_R (r : List Int) (w0 : World) (v : Value) (w : World) : Prop := ∃ (A0' : Option Addr) (c0' : Nat), v = .slice A0' r.length c0' ∧ St [] w0 w [rowE .i64 3 A0' c0' r]

set_option maxRecDepth 100000 in
set_option maxHeartbeats 4000000 in
theorem pMatch_ok (N : Nat) (p0 : List Int) (A0 : Option Addr) (c0 : Nat) (r : List Int) (hF : pMatch N p0 = some r) (w0 : World) (hv0 : Vw [] .u8 w0 A0 c0 p0) :
  Calls Try.prog 25 #[.slice A0 p0.length c0] w0 fun e w => ∃ v, e = .returned v ∧ pMatch_R r w0 v w := by
 have hS0 := St.start w0
 unfold pMatch at hF
 refine calls_of Try.func25 rfl ⟨((.slice A0 p0.length c0) :: un 62 ([])).toArray, []⟩ (by kernel_rfl) ?_
 refine gx_seq (fun K1 hK2 => ?_)
 refine gx_region ?_
 refine gx_k (.slice none 0 0) w0 ?_
 refine gx_nil ?_
 refine gx_thenN ?_
 refine hK2 _ _ ?_
 refine gx_seq (fun K3 hK4 => ?_)
 refine gx_region ?_
 refine gx_k (.slice A0 p0.length c0) w0 (gx_k (.int .i64 ((p0.length : Nat) : Int)) w0 ?_)
 obtain ⟨l5, hm6, hF⟩ := bind_in hF
 refine gx_r (st_make (T := 3) (k := .i64) (by_ := 8) rfl (by kernel_rfl) (by kernel_rfl) (by kernel_rfl) (by kernel_rfl) (by kernel_rfl) hS0 hm6) ?_
 rintro _ w7 ⟨A9, c10, rfl, hS8⟩
 have hS8 : St _ _ w7 [rowE .i64 3 A9 c10 l5] := hS8
 refine gx_k (.slice A9 l5.length c10) w7 ?_
 refine gx_nil ?_
 refine gx_thenN ?_
 refine hK4 _ _ ?_
 refine gx_seq (fun K11 hK12 => ?_)
 refine gx_region ?_
 refine gx_k (.slice none 0 0) w7 ?_
 refine gx_nil ?_
 refine gx_thenN ?_
 refine hK12 _ _ ?_
 obtain ⟨c18, hE19, hO20⟩ := bind_in hF
 refine gx_cut (fun a w => ∃ (l17 : List Int), selfA (fun u15 => ⟨((u15 0) :: undef :: (.slice none 0 0) :: (.slice A9 l5.length c10) :: dd u15 4 5 ((.int .i64 ((p0.length : Nat) : Int)) :: dd u15 10 52 (undef :: []))).toArray, []⟩) a ∧ l17 = c18 ∧ St [] w0 w [rowE .i64 3 A9 c10 l17] ∧ l5.length = l17.length) ?_ ?_
 ·refine gx_seq (fun K21 hK22 => ?_)
  refine gx_region ?_
  refine gx_k (.slice A0 p0.length c0) w7 (gx_k (.int .i64 ((p0.length : Nat) : Int)) w7 (gx_k (.int .i64 0) w7 ?_))
  refine gx_nil ?_
  refine gx_thenN ?_
  refine hK22 _ _ ?_
  refine gx_block ?_
  have hS23 : St _ _ w7 [rowE .i64 3 A9 c10 l5, rowE .i64 3 none 0 ([])] := hS8.nilrow .i64 3
  refine gx_loop (fun k a w => ∃ (l28 : List Int) (l31 : List Int) (x32 : Int) (A29 : Option Addr) (c30 : Nat), selfA (fun u26 => ⟨((u26 0) :: undef :: (.slice none 0 0) :: (.slice A9 l5.length c10) :: (.slice A29 l31.length c30) :: dd u26 5 4 ((.int .i64 ((p0.length : Nat) : Int)) :: (u26 10) :: (.slice A0 p0.length c0) :: (.int .i64 ((p0.length : Nat) : Int)) :: (.int .i64 x32) :: dd u26 14 48 (undef :: []))).toArray, []⟩) a ∧ pMatch_L1 N p0 k l28 l31 x32 = some c18 ∧ St [] w0 w [rowE .i64 3 A9 c10 l28, rowE .i64 3 A29 c30 l31] ∧ l5.length = l28.length) N ?_ ?_
  ·exact ⟨l5, ([]), 0, none, 0, selfA_i (by kernel_rfl), hE19, hS23, rfl⟩
  ·rintro k33 _ w24 ⟨l28, l31, x32, A29, c30, hq114, hL34, hS25, hn27⟩
   obtain ⟨u26, rfl⟩ := selfA_u hq114
   cases k33 with
   | zero => cases hL34
   | succ k33 =>
    first | rw [pMatch_L1] at hL34 | unfold pMatch_L1 at hL34
    refine gx_seq (fun K35 hK36 => ?_)
    refine gx_region ?_
    rcases if_in hL34 with ⟨h37, hL34⟩ | ⟨h37, hL34⟩
    ·refine gx_v (.bool true) w24 (run_boolE (decide_eq_true h37) (by kernel_rfl)) ?_
     refine gx_nil ?_
     refine gx_thenN ?_
     refine hK36 _ _ ?_
     refine gx_seq (fun K38 hK39 => ?_)
     refine gx_yes (by kernel_rfl) ?_
     refine gx_pass ?_
     refine gx_thenN ?_
     refine hK39 _ _ ?_
     refine gx_seq (fun K40 hK41 => ?_)
     refine gx_block ?_
     refine gx_seq (fun K42 hK43 => ?_)
     refine gx_region ?_
     refine gx_k (.int .i64 x32) w24 ?_
     obtain ⟨x44, hx45, hL34⟩ := bind_in hL34
     refine gx_v (.pointer (Option.map (fun (p : Addr) => p.add (Int.toNat x32 * 1)) A0)) w24 (run_ixaddr (E := 34) (s := 1) (k := .i64) (c := c0) rfl (by kernel_rfl) (by kernel_rfl) (by kernel_rfl) (fun _ => by kernel_rfl) (ix_in hx45).1 (ix_in hx45).2.1 (num_nil (hS25.view hv0))) ?_
     refine gx_v (.int .u8 x44) w24 (run_loadix rfl (by kernel_rfl) (fun _ => by kernel_rfl) (hS25.view hv0) hx45) ?_
     refine gx_k (.int .i64 x32) w24 (gx_k (.int .u8 x44) w24 ?_)
     refine gx_nil ?_
     refine gx_thenN ?_
     refine hK43 _ _ ?_
     refine gx_seq (fun K46 hK47 => ?_)
     refine gx_region ?_
     refine gx_k (.slice A9 l5.length c10) w24 (gx_k (.int .i64 x32) w24 ?_)
     obtain ⟨x48, hx49, hL34⟩ := bind_in hL34
     refine gx_v (.pointer (Option.map (fun (p : Addr) => p.add (Int.toNat x32 * 1)) A9)) w24 (run_ixaddr (E := 3) (s := 1) (k := .i64) (c := c10) rfl (by kernel_rfl) (by kernel_rfl) (by kernel_rfl) (fun _ => by kernel_rfl) (ix_in hx49).1 (lt_len hn27 (ix_in hx49).2.1) (nil_len hn27 (num_nil (hS25.row 0 rfl).1))) ?_
     obtain ⟨l52, hx53, hL34⟩ := bind_in hL34
     refine gx_s (st_storeix rfl (by kernel_rfl) (by kernel_rfl) (fun _ => by kernel_rfl) hS25 0 rfl hx53) ?_
     rintro w50 hS51
     have hS51 : St _ _ w50 [rowE .i64 3 A9 c10 l52, rowE .i64 3 A29 c30 l31] := hS51
     refine gx_nil ?_
     refine gx_thenN ?_
     refine hK47 _ _ ?_
     refine gx_block ?_
     refine gx_seq (fun K54 hK55 => ?_)
     refine gx_region ?_
     refine gx_k (.int .u8 x44) w50 ?_
     have hP56 : St _ _ w50 ([] ++ [rowE .i64 3 A9 c10 l52, rowE .i64 3 A29 c30 l31]) := hS51
     obtain ⟨b58, hc57, hL34⟩ := bind_in hL34
     try dsimp only at hL34
     refine gx_c (pInit_R b58 w50) (pInit_ok N x44 _ hc57 w50 ) ?_
     rintro _ w59 ⟨rfl, hT61⟩
     have hS60 : St _ _ w59 [rowE .i64 3 A9 c10 l52, rowE .i64 3 A29 c30 l31] := hS51.take _ hT61
     refine gx_k (.bool b58) w59 ?_
     refine gx_nil ?_
     refine gx_thenN ?_
     refine hK55 _ _ ?_
     cases b58 with
     | true =>
      try dsimp only at hL34
      refine gx_yes (by kernel_rfl) ?_
      refine gx_region ?_
      refine gx_k (.slice A29 l31.length c30) w59 (gx_k (.int .i64 x32) w59 ?_)
      refine gx_r (st_made .i64 3 [x32] hS60 (by show 1 ≤ 1000000000; decide) (by kernel_rfl)) ?_
      rintro _ w62 ⟨rfl, hS63⟩
      have hS63 : St _ _ w62 [rowE .i64 3 A9 c10 l52, rowE .i64 3 A29 c30 l31, rowE .i64 3 (some ⟨w59.heap.size, 0, none⟩) 1 ([x32])] := hS63
      obtain ⟨l64, ha65, hL34⟩ := bind_in hL34
      obtain ⟨ha65, hq66⟩ := apx_in ha65
      refine gx_r (st_append rfl (by kernel_rfl) (by kernel_rfl) hS63 1 rfl (hS63.row 2 rfl).1 (hS63.row 2 rfl).2 ha65 (by kernel_rfl) (by kernel_rfl)) ?_
      rintro _ w69 ⟨A67, c68, rfl, hS70⟩
      rw [← hq66] at hS70 ⊢
      have hS70 : St _ _ w69 [rowE .i64 3 A9 c10 l52, rowE .i64 3 A67 c68 l64, rowE .i64 3 (some ⟨w59.heap.size, 0, none⟩) 1 ([x32])] := hS70
      refine gx_k (.slice A67 l64.length c68) w69 ?_
      refine gx_nil ?_
      refine gx_blkN ?_
      refine gx_blkN ?_
      refine gx_thenN ?_
      refine hK41 _ _ ?_
      refine gx_region ?_
      refine gx_k (.int .i64 (IntKind.i64.wrap (x32 + 1))) w69 (gx_k (.int .i64 (IntKind.i64.wrap (x32 + 1))) w69 ?_)
      refine gx_nil ?_
      refine gx_thenN ?_
      exact ⟨k33, Nat.lt_succ_self k33, l52, l64, (IntKind.i64.wrap (x32 + 1)), A67, c68, selfA_i (by kernel_rfl), hL34, (hS70.pick [0, 1] rfl rfl), (hn27.trans (setx_len hx53).symm)⟩
     | false =>
      try dsimp only at hL34
      refine gx_no (by kernel_rfl) ?_
      obtain ⟨c75, hE76, hO77⟩ := bind_in hL34
      refine gx_cut (fun a w => ∃ (b74 : Bool), selfA (fun u73 => ⟨((u26 0) :: undef :: (.slice none 0 0) :: (.slice A9 l5.length c10) :: (.slice A29 l31.length c30) :: (.int .i64 x32) :: (.int .u8 x44) :: dd u26 7 2 ((.int .i64 ((p0.length : Nat) : Int)) :: (u26 10) :: (.slice A0 p0.length c0) :: (.int .i64 ((p0.length : Nat) : Int)) :: (.int .i64 x32) :: (.bool true) :: (.int .i64 x32) :: (.pointer (Option.map (fun (p : Addr) => p.add (Int.toNat x32 * 1)) A0)) :: (.int .u8 x44) :: (u73 18) :: (.int .i64 x32) :: (.pointer (Option.map (fun (p : Addr) => p.add (Int.toNat x32 * 1)) A9)) :: (.bool false) :: (.int .u8 x44) :: (.bool false) :: dd u26 24 4 ((.bool b74) :: dd u73 29 7 (dd u26 36 26 (undef :: []))))).toArray, []⟩) a ∧ b74 = c75 ∧ St [] w0 w [rowE .i64 3 A9 c10 l52, rowE .i64 3 A29 c30 l31]) ?_ ?_
      ·refine gx_region ?_
       refine gx_k (.int .u8 x44) w59 ?_
       rcases if_in hE76 with ⟨h78, hE76⟩ | ⟨h78, hE76⟩
       ·refine gx_v (.bool true) w59 (run_boolE (decide_eq_true h78) (by kernel_rfl)) ?_
        refine gx_k (.bool true) w59 (gx_k (.slice A29 l31.length c30) w59 (gx_k (.int .i64 ((l31.length : Nat) : Int)) w59 ?_))
        rcases if_in hE76 with ⟨h79, hE76⟩ | ⟨h79, hE76⟩
        ·refine gx_v (.bool true) w59 (run_boolE (decide_eq_true h79) (by kernel_rfl)) ?_
         refine gx_k (.bool true) w59 (gx_k (.bool true) w59 ?_)
         refine gx_nil ?_
         refine gx_thenN ?_
         exact ⟨true, selfA_i (by kernel_rfl), (Option.some.inj hE76), hS60⟩
        ·refine gx_v (.bool false) w59 (run_boolE (decide_eq_false h79) (by kernel_rfl)) ?_
         refine gx_k (.bool false) w59 (gx_k (.bool false) w59 ?_)
         refine gx_nil ?_
         refine gx_thenN ?_
         exact ⟨false, selfA_i (by kernel_rfl), (Option.some.inj hE76), hS60⟩
       ·refine gx_v (.bool false) w59 (run_boolE (decide_eq_false h78) (by kernel_rfl)) ?_
        refine gx_k (.bool false) w59 (gx_o (gx_o (gx_o (gx_k (.bool false) w59 (gx_k (.bool false) w59 ?_)))))
        refine gx_nil ?_
        refine gx_thenN ?_
        exact ⟨false, selfA_i (by kernel_rfl), (Option.some.inj hE76), hS60⟩
      ·rintro _ w71 ⟨b74, hq111, rfl, hS72⟩
       obtain ⟨u73, rfl⟩ := selfA_u hq111
       try dsimp only at hO77
       cases b74 with
       | true =>
        try dsimp only at hO77
        refine gx_yes (by kernel_rfl) ?_
        refine gx_seq (fun K80 hK81 => ?_)
        refine gx_region ?_
        refine gx_k (.slice A29 l31.length c30) w71 (gx_k (.int .i64 ((l31.length : Nat) : Int)) w71 (gx_k (.int .i64 (IntKind.i64.wrap (((l31.length : Nat) : Int) - 1))) w71 (gx_k (.int .i64 (IntKind.i64.wrap (((l31.length : Nat) : Int) - 1))) w71 ?_)))
        refine gx_nil ?_
        refine gx_thenN ?_
        refine hK81 _ _ ?_
        refine gx_seq (fun K82 hK83 => ?_)
        refine gd_start (fun w => St [] w0 w [rowE .i64 3 A29 c30 l31]) 16 #[false, false, false, false, false, false, false, false, false, false, false, false, false, false, false, false] (by kernel_rfl) (by kernel_rfl) ?_
        have hS85 := hS72.drew
        generalize w71.drew = w84 at hS85 ⊢
        refine gd1 0 { dst := some 39, op := _, type := _, pos := _, after := _, guard := _ } (.slice A9 l5.length c10) rfl (hS85.pick [1] rfl rfl) (fun w hSw => by kernel_rfl) ?_
        refine gd1 1 { dst := some 40, op := _, type := _, pos := _, after := _, guard := _ } (.int .i64 x32) rfl (hS85.pick [1] rfl rfl) (fun w hSw => by kernel_rfl) ?_
        refine gd1 2 { dst := some 41, op := _, type := _, pos := _, after := _, guard := _ } (.slice A9 l5.length c10) rfl (hS85.pick [1] rfl rfl) (fun w hSw => by kernel_rfl) ?_
        refine gd1 3 { dst := some 42, op := _, type := _, pos := _, after := _, guard := _ } (.slice A29 l31.length c30) rfl (hS85.pick [1] rfl rfl) (fun w hSw => by kernel_rfl) ?_
        refine gd1 4 { dst := some 43, op := _, type := _, pos := _, after := _, guard := _ } (.int .i64 (IntKind.i64.wrap (((l31.length : Nat) : Int) - 1))) rfl (hS85.pick [1] rfl rfl) (fun w hSw => by kernel_rfl) ?_
        obtain ⟨x86, hx87, hO77⟩ := bind_in hO77
        refine gd1 5 { dst := some 44, op := _, type := _, pos := _, after := _, guard := _ } (.pointer (Option.map (fun (p : Addr) => p.add (Int.toNat (IntKind.i64.wrap (((l31.length : Nat) : Int) - 1)) * 1)) A29)) rfl (hS85.pick [1] rfl rfl) (fun w hSw => run_ixaddr (E := 3) (s := 1) (k := .i64) (c := c30) rfl (by kernel_rfl) (by kernel_rfl) (by kernel_rfl) (fun _ => by kernel_rfl) (ix_in hx87).1 (ix_in hx87).2.1 (num_nil (hS85.row 1 rfl).1)) ?_
        refine gd1 6 { dst := some 45, op := _, type := _, pos := _, after := _, guard := _ } (.int .i64 x86) rfl (hS85.pick [1] rfl rfl) (fun w hSw => run_loadix rfl (by kernel_rfl) (fun _ => by kernel_rfl) (hSw.row 0 rfl).1 hx87) ?_
        refine gd1 7 { dst := some 46, op := _, type := _, pos := _, after := _, guard := _ } (.slice A29 l31.length c30) rfl (hS85.pick [1] rfl rfl) (fun w hSw => by kernel_rfl) ?_
        refine gd1 8 { dst := some 47, op := _, type := _, pos := _, after := _, guard := _ } (.int .i64 (IntKind.i64.wrap (((l31.length : Nat) : Int) - 1))) rfl (hS85.pick [1] rfl rfl) (fun w hSw => by kernel_rfl) ?_
        obtain ⟨x88, hx89, hO77⟩ := bind_in hO77
        refine gd1 9 { dst := some 48, op := _, type := _, pos := _, after := _, guard := _ } (.pointer (Option.map (fun (p : Addr) => p.add (Int.toNat (IntKind.i64.wrap (((l31.length : Nat) : Int) - 1)) * 1)) A29)) rfl (hS85.pick [1] rfl rfl) (fun w hSw => run_ixaddr (E := 3) (s := 1) (k := .i64) (c := c30) rfl (by kernel_rfl) (by kernel_rfl) (by kernel_rfl) (fun _ => by kernel_rfl) (ix_in hx89).1 (ix_in hx89).2.1 (num_nil (hS85.row 1 rfl).1)) ?_
        refine gd1 10 { dst := some 49, op := _, type := _, pos := _, after := _, guard := _ } (.int .i64 x88) rfl (hS85.pick [1] rfl rfl) (fun w hSw => run_loadix rfl (by kernel_rfl) (fun _ => by kernel_rfl) (hSw.row 0 rfl).1 hx89) ?_
        refine gd1 11 { dst := some 50, op := _, type := _, pos := _, after := _, guard := _ } (.int .i64 x32) rfl (hS85.pick [1] rfl rfl) (fun w hSw => by kernel_rfl) ?_
        obtain ⟨x90, hx91, hO77⟩ := bind_in hO77
        refine gd1 12 { dst := some 51, op := _, type := _, pos := _, after := _, guard := _ } (.pointer (Option.map (fun (p : Addr) => p.add (Int.toNat x32 * 1)) A9)) rfl (hS85.pick [1] rfl rfl) (fun w hSw => run_ixaddr (E := 3) (s := 1) (k := .i64) (c := c10) rfl (by kernel_rfl) (by kernel_rfl) (by kernel_rfl) (fun _ => by kernel_rfl) (ix_in hx91).1 (lt_len (hn27.trans (setx_len hx53).symm) (ix_in hx91).2.1) (nil_len (hn27.trans (setx_len hx53).symm) (num_nil (hS85.row 0 rfl).1))) ?_
        obtain ⟨l94, hx95, hO77⟩ := bind_in hO77
        refine gdS 13 { dst := none, op := _, type := _, pos := _, after := _, guard := _ } rfl (st_storeix rfl (by kernel_rfl) (by kernel_rfl) (fun _ => by kernel_rfl) hS85 0 rfl hx95) ?_
        rintro w92 hS93
        have hS93 : St _ _ w92 [rowE .i64 3 A9 c10 l94, rowE .i64 3 A29 c30 l31] := hS93
        refine ⟨(hS93.pick [1] rfl rfl), ?_⟩
        obtain ⟨x96, hx97, hO77⟩ := bind_in hO77
        refine gd1 14 { dst := some 52, op := _, type := _, pos := _, after := _, guard := _ } (.pointer (Option.map (fun (p : Addr) => p.add (Int.toNat x86 * 1)) A9)) rfl (hS93.pick [1] rfl rfl) (fun w hSw => run_ixaddr (E := 3) (s := 1) (k := .i64) (c := c10) rfl (by kernel_rfl) (by kernel_rfl) (by kernel_rfl) (fun _ => by kernel_rfl) (ix_in hx97).1 (lt_len ((hn27.trans (setx_len hx53).symm).trans (setx_len hx95).symm) (ix_in hx97).2.1) (nil_len ((hn27.trans (setx_len hx53).symm).trans (setx_len hx95).symm) (num_nil (hS93.row 0 rfl).1))) ?_
        obtain ⟨l100, hx101, hO77⟩ := bind_in hO77
        refine gdS 15 { dst := none, op := _, type := _, pos := _, after := _, guard := _ } rfl (st_storeix rfl (by kernel_rfl) (by kernel_rfl) (fun _ => by kernel_rfl) hS93 0 rfl hx101) ?_
        rintro w98 hS99
        have hS99 : St _ _ w98 [rowE .i64 3 A9 c10 l100, rowE .i64 3 A29 c30 l31] := hS99
        refine ⟨(hS99.pick [1] rfl rfl), ?_⟩
        refine gd_done (by kernel_rfl) ?_
        refine gx_thenN ?_
        refine hK83 _ _ ?_
        refine gx_region ?_
        refine gx_k (.slice A29 l31.length c30) w98 (gx_k (.int .i64 (IntKind.i64.wrap (((l31.length : Nat) : Int) - 1))) w98 ?_)
        obtain ⟨l102, hx103, hO77⟩ := bind_in hO77
        refine gx_v (.slice A29 l102.length c30) w98 (run_trunc (TE := 3) (.int .i64 (IntKind.i64.wrap (((l31.length : Nat) : Int) - 1))) .i64 rfl (by kernel_rfl) (by kernel_rfl) rfl (by kernel_rfl) (fun _ => by kernel_rfl) (hS99.get 1 rfl) hx103) ?_
        have hS104 : St _ _ w98 [rowE .i64 3 A9 c10 l100, rowE .i64 3 A29 c30 l102] := hS99.trunc 1 rfl hx103
        refine gx_k (.slice A29 l102.length c30) w98 ?_
        refine gx_nil ?_
        refine gx_blkN ?_
        refine gx_blkN ?_
        refine gx_thenN ?_
        refine hK41 _ _ ?_
        refine gx_region ?_
        refine gx_k (.int .i64 (IntKind.i64.wrap (x32 + 1))) w98 (gx_k (.int .i64 (IntKind.i64.wrap (x32 + 1))) w98 ?_)
        refine gx_nil ?_
        refine gx_thenN ?_
        exact ⟨k33, Nat.lt_succ_self k33, l100, l102, (IntKind.i64.wrap (x32 + 1)), A29, c30, selfA_i (by kernel_rfl), hO77, hS104, (((hn27.trans (setx_len hx53).symm).trans (setx_len hx95).symm).trans (setx_len hx101).symm)⟩
       | false =>
        try dsimp only at hO77
        refine gx_no (by kernel_rfl) ?_
        refine gx_seq (fun K105 hK106 => ?_)
        refine gx_region ?_
        refine gx_k (.int .u8 x44) w71 ?_
        rcases if_in hO77 with ⟨h107, hO77⟩ | ⟨h107, hO77⟩
        ·refine gx_v (.bool true) w71 (run_boolE (decide_eq_true h107) (by kernel_rfl)) ?_
         refine gx_k (.bool true) w71 ?_
         refine gx_nil ?_
         refine gx_thenN ?_
         refine hK106 _ _ ?_
         refine gx_yes (by kernel_rfl) ?_
         refine gx_region ?_
         refine gx_k (.slice A29 l31.length c30) w71 ?_
         obtain ⟨l108, hx109, hO77⟩ := bind_in hO77
         refine gx_v (.slice A29 l108.length c30) w71 (run_trunc (TE := 3) (.int .i64 0) .i64 rfl (by kernel_rfl) (by kernel_rfl) rfl (by kernel_rfl) (fun _ => by kernel_rfl) (hS72.get 1 rfl) hx109) ?_
         have hS110 : St _ _ w71 [rowE .i64 3 A9 c10 l52, rowE .i64 3 A29 c30 l108] := hS72.trunc 1 rfl hx109
         refine gx_k (.slice A29 l108.length c30) w71 ?_
         refine gx_nil ?_
         refine gx_blkN ?_
         refine gx_blkN ?_
         refine gx_thenN ?_
         refine hK41 _ _ ?_
         refine gx_region ?_
         refine gx_k (.int .i64 (IntKind.i64.wrap (x32 + 1))) w71 (gx_k (.int .i64 (IntKind.i64.wrap (x32 + 1))) w71 ?_)
         refine gx_nil ?_
         refine gx_thenN ?_
         exact ⟨k33, Nat.lt_succ_self k33, l52, l108, (IntKind.i64.wrap (x32 + 1)), A29, c30, selfA_i (by kernel_rfl), hO77, hS110, (hn27.trans (setx_len hx53).symm)⟩
        ·refine gx_v (.bool false) w71 (run_boolE (decide_eq_false h107) (by kernel_rfl)) ?_
         refine gx_k (.bool false) w71 ?_
         refine gx_nil ?_
         refine gx_thenN ?_
         refine hK106 _ _ ?_
         refine gx_no (by kernel_rfl) ?_
         refine gx_pass ?_
         refine gx_blkN ?_
         refine gx_blkN ?_
         refine gx_thenN ?_
         refine hK41 _ _ ?_
         refine gx_region ?_
         refine gx_k (.int .i64 (IntKind.i64.wrap (x32 + 1))) w71 (gx_k (.int .i64 (IntKind.i64.wrap (x32 + 1))) w71 ?_)
         refine gx_nil ?_
         refine gx_thenN ?_
         exact ⟨k33, Nat.lt_succ_self k33, l52, l31, (IntKind.i64.wrap (x32 + 1)), A29, c30, selfA_i (by kernel_rfl), hO77, hS72, (hn27.trans (setx_len hx53).symm)⟩
    ·refine gx_v (.bool false) w24 (run_boolE (decide_eq_false h37) (by kernel_rfl)) ?_
     refine gx_nil ?_
     refine gx_thenN ?_
     refine hK36 _ _ ?_
     refine gx_seq (fun K112 hK113 => ?_)
     refine gx_no (by kernel_rfl) ?_
     refine gx_exit ?_
     refine gx_thenE ?_
     refine gx_thenE ?_
     refine gx_blkE ?_
     refine gx_thenN ?_
     exact ⟨l28, selfA_i (by kernel_rfl), (Option.some.inj hL34), (hS25.pick [0] rfl rfl), hn27⟩
 ·rintro _ w13 ⟨l17, hq117, rfl, hS14, hn16⟩
  obtain ⟨u15, rfl⟩ := selfA_u hq117
  try dsimp only at hO20
  refine gx_seq (fun K115 hK116 => ?_)
  refine gx_region ?_
  refine gx_k (.slice A9 l5.length c10) w13 (gx_k (.slice A9 l5.length c10) w13 ?_)
  refine gx_nil ?_
  refine gx_thenN ?_
  refine hK116 _ _ ?_
  refine gx_ret ?_
  obtain rfl := Option.some.inj hO20
  exact gx_fin (.slice A9 l5.length c10) (by kernel_rfl) (by kernel_rfl) ⟨_, rfl, A9, c10, by rw [← hn16] <;> kernel_rfl, hS14⟩

def pDirn_L1 (N : Nat) (p0 : List Int) : Nat → Int → Int → Option (Int)
 | 0, _, _ => none
 | k19+1, x17, x18 => (if x18 < ((p0.length : Nat) : Int) then ((ix p0 x18).bind fun x30 => pDirn_L1 N p0 k19 (if x17 < x30 then x30 else x17) (IntKind.i64.wrap (x18 + 1))) else some (x17))
def pDirn (N : Nat) (p0 : List Int) : Option (Int) :=
 ((pDirn_L1 N p0 N 0 0 : Option (Int)).bind fun x8 => (if (Int.tmod x8 2) = 1 then some 2 else some 1))

set_option linter.unusedVariables false in
def pDirn_R (r : Int) (w0 : World) (v : Value) (w : World) : Prop := v = .int .u8 r ∧ St [] w0 w []

set_option maxRecDepth 100000 in
set_option maxHeartbeats 4000000 in
theorem pDirn_ok (N : Nat) (p0 : List Int) (A0 : Option Addr) (c0 : Nat) (r : Int) (hF : pDirn N p0 = some r) (w0 : World) (hv0 : Vw [] .u8 w0 A0 c0 p0) :
  Calls Try.prog 28 #[.slice A0 p0.length c0] w0 fun e w => ∃ v, e = .returned v ∧ pDirn_R r w0 v w := by
 have hS0 := St.start w0
 unfold pDirn at hF
 refine calls_of Try.func28 rfl ⟨((.slice A0 p0.length c0) :: un 18 ([])).toArray, []⟩ (by kernel_rfl) ?_
 refine gx_seq (fun K1 hK2 => ?_)
 refine gx_region ?_
 refine gx_k (.int .u8 0) w0 ?_
 refine gx_nil ?_
 refine gx_thenN ?_
 refine hK2 _ _ ?_
 refine gx_seq (fun K3 hK4 => ?_)
 refine gx_region ?_
 refine gx_k (.int .u8 0) w0 ?_
 refine gx_nil ?_
 refine gx_thenN ?_
 refine hK4 _ _ ?_
 obtain ⟨c9, hE10, hO11⟩ := bind_in hF
 refine gx_cut (fun a w => ∃ (x8 : Int), selfA (fun u7 => ⟨((u7 0) :: undef :: (.int .u8 0) :: (.int .u8 x8) :: undef :: dd u7 5 11 (un 3 ([]))).toArray, []⟩) a ∧ x8 = c9 ∧ St [] w0 w []) ?_ ?_
 ·refine gx_seq (fun K12 hK13 => ?_)
  refine gx_region ?_
  refine gx_k (.slice A0 p0.length c0) w0 (gx_k (.int .i64 ((p0.length : Nat) : Int)) w0 (gx_k (.int .i64 0) w0 ?_))
  refine gx_nil ?_
  refine gx_thenN ?_
  refine hK13 _ _ ?_
  refine gx_block ?_
  refine gx_loop (fun k a w => ∃ (x17 : Int) (x18 : Int), selfA (fun u16 => ⟨((u16 0) :: undef :: (.int .u8 0) :: (.int .u8 x17) :: undef :: (u16 5) :: (.slice A0 p0.length c0) :: (.int .i64 ((p0.length : Nat) : Int)) :: (.int .i64 x18) :: dd u16 9 7 (un 3 ([]))).toArray, []⟩) a ∧ pDirn_L1 N p0 k x17 x18 = some c9 ∧ St [] w0 w []) N ?_ ?_
  ·exact ⟨0, 0, selfA_i (by kernel_rfl), hE10, hS0⟩
  ·rintro k19 _ w14 ⟨x17, x18, hq34, hL20, hS15⟩
   obtain ⟨u16, rfl⟩ := selfA_u hq34
   cases k19 with
   | zero => cases hL20
   | succ k19 =>
    first | rw [pDirn_L1] at hL20 | unfold pDirn_L1 at hL20
    refine gx_seq (fun K21 hK22 => ?_)
    refine gx_region ?_
    rcases if_in hL20 with ⟨h23, hL20⟩ | ⟨h23, hL20⟩
    ·refine gx_v (.bool true) w14 (run_boolE (decide_eq_true h23) (by kernel_rfl)) ?_
     refine gx_nil ?_
     refine gx_thenN ?_
     refine hK22 _ _ ?_
     refine gx_seq (fun K24 hK25 => ?_)
     refine gx_yes (by kernel_rfl) ?_
     refine gx_pass ?_
     refine gx_thenN ?_
     refine hK25 _ _ ?_
     refine gx_seq (fun K26 hK27 => ?_)
     refine gx_block ?_
     refine gx_seq (fun K28 hK29 => ?_)
     refine gx_region ?_
     obtain ⟨x30, hx31, hL20⟩ := bind_in hL20
     refine gx_v (.pointer (Option.map (fun (p : Addr) => p.add (Int.toNat x18 * 1)) A0)) w14 (run_ixaddr (E := 5) (s := 1) (k := .i64) (c := c0) rfl (by kernel_rfl) (by kernel_rfl) (by kernel_rfl) (fun _ => by kernel_rfl) (ix_in hx31).1 (ix_in hx31).2.1 (num_nil (hS15.view hv0))) ?_
     refine gx_v (.int .u8 x30) w14 (run_loadix rfl (by kernel_rfl) (fun _ => by kernel_rfl) (hS15.view hv0) hx31) ?_
     refine gx_k (.int .u8 x30) w14 ?_
     refine gx_nil ?_
     refine gx_thenN ?_
     refine hK29 _ _ ?_
     refine gx_region ?_
     refine gx_k (.int .u8 x17) w14 (gx_k (.int .u8 x30) w14 ?_)
     refine gx_v (.int .u8 (if x17 < x30 then x30 else x17)) w14 (run_max2 rfl (by kernel_rfl) (by kernel_rfl)) ?_
     refine gx_k (.int .u8 (if x17 < x30 then x30 else x17)) w14 ?_
     refine gx_nil ?_
     refine gx_blkN ?_
     refine gx_thenN ?_
     refine hK27 _ _ ?_
     refine gx_region ?_
     refine gx_k (.int .i64 (IntKind.i64.wrap (x18 + 1))) w14 (gx_k (.int .i64 (IntKind.i64.wrap (x18 + 1))) w14 ?_)
     refine gx_nil ?_
     refine gx_thenN ?_
     exact ⟨k19, Nat.lt_succ_self k19, (if x17 < x30 then x30 else x17), (IntKind.i64.wrap (x18 + 1)), selfA_i (by kernel_rfl), hL20, hS15⟩
    ·refine gx_v (.bool false) w14 (run_boolE (decide_eq_false h23) (by kernel_rfl)) ?_
     refine gx_nil ?_
     refine gx_thenN ?_
     refine hK22 _ _ ?_
     refine gx_seq (fun K32 hK33 => ?_)
     refine gx_no (by kernel_rfl) ?_
     refine gx_exit ?_
     refine gx_thenE ?_
     refine gx_thenE ?_
     refine gx_blkE ?_
     refine gx_thenN ?_
     exact ⟨x17, selfA_i (by kernel_rfl), (Option.some.inj hL20), hS15⟩
 ·rintro _ w5 ⟨x8, hq44, rfl, hS6⟩
  obtain ⟨u7, rfl⟩ := selfA_u hq44
  try dsimp only at hO11
  refine gx_seq (fun K35 hK36 => ?_)
  refine gx_seq (fun K37 hK38 => ?_)
  refine gx_region ?_
  refine gx_k (.int .u8 x8) w5 (gx_k (.int .u8 (Int.tmod x8 2)) w5 ?_)
  rcases if_in hO11 with ⟨h39, hO11⟩ | ⟨h39, hO11⟩
  ·refine gx_v (.bool true) w5 (run_boolE (decide_eq_true h39) (by kernel_rfl)) ?_
   refine gx_nil ?_
   refine gx_thenN ?_
   refine hK38 _ _ ?_
   refine gx_yes (by kernel_rfl) ?_
   refine gx_seq (fun K40 hK41 => ?_)
   refine gx_region ?_
   refine gx_k (.int .u8 2) w5 ?_
   refine gx_nil ?_
   refine gx_thenN ?_
   refine hK41 _ _ ?_
   refine gx_ret ?_
   refine gx_thenR ?_
   obtain rfl := Option.some.inj hO11
   exact gx_fin (.int .u8 2) (by kernel_rfl) (by kernel_rfl) ⟨_, rfl, rfl, hS6⟩
  ·refine gx_v (.bool false) w5 (run_boolE (decide_eq_false h39) (by kernel_rfl)) ?_
   refine gx_nil ?_
   refine gx_thenN ?_
   refine hK38 _ _ ?_
   refine gx_no (by kernel_rfl) ?_
   refine gx_pass ?_
   refine gx_thenN ?_
   refine hK36 _ _ ?_
   refine gx_seq (fun K42 hK43 => ?_)
   refine gx_region ?_
   refine gx_k (.int .u8 1) w5 ?_
   refine gx_nil ?_
   refine gx_thenN ?_
   refine hK43 _ _ ?_
   refine gx_ret ?_
   obtain rfl := Option.some.inj hO11
   exact gx_fin (.int .u8 1) (by kernel_rfl) (by kernel_rfl) ⟨_, rfl, rfl, hS6⟩

def pTextOf_L1 (N : Nat) (p0 : List Int) : Nat → (List Int) → Int → Option (List Int)
 | 0, _, _ => none
 | k34+1, l31, x32 => (if x32 < ((p0.length : Nat) : Int) then ((ix p0 x32).bind fun x45 => ((pRem N x45).bind fun b51 => (match b51 with | true => pTextOf_L1 N p0 k34 l31 (IntKind.i64.wrap (x32 + 1)) | false => ((apx l31 ([x32])).bind fun l57 => pTextOf_L1 N p0 k34 l57 (IntKind.i64.wrap (x32 + 1)))))) else some (l31))
def pTextOf (N : Nat) (p0 : List Int) (_p1 : List Int) (p2 : Int) : Option (Int × List Int × List Int) :=
 ((pMatch N p0).bind fun l7 => ((pTextOf_L1 N p0 N ([]) 0 : Option (List Int)).bind fun l20 => some (p2, l7, l20)))

set_option linter.unusedVariables false in
def pTextOf_R (p0 : List Int) (p1 : List Int) (p2 : Int) (A0 : Option Addr) (c0 : Nat) (A1 : Option Addr) (c1 : Nat) (r : Int × List Int × List Int) (w0 : World) (v : Value) (w : World) : Prop := ∃ (g0' : Nat) (A0_3' : Option Addr) (c0_3' : Nat) (A0_4' : Option Addr) (c0_4' : Nat), v = .pointer (some ⟨g0', 0, none⟩) ∧ St [] w0 w [boxE g0' [.slice A0 p0.length c0, .slice A1 p1.length c1, .int .u8 r.1, .slice A0_3' r.2.1.length c0_3', .slice A0_4' r.2.2.length c0_4'] 67, rowE .i64 3 A0_3' c0_3' r.2.1, rowE .i64 3 A0_4' c0_4' r.2.2]

set_option maxRecDepth 100000 in
set_option maxHeartbeats 4000000 in
theorem pTextOf_ok (N : Nat) (p0 : List Int) (p1 : List Int) (p2 : Int) (A0 : Option Addr) (c0 : Nat) (A1 : Option Addr) (c1 : Nat) (r : Int × List Int × List Int) (hF : pTextOf N p0 p1 p2 = some r) (w0 : World) (hv0 : Vw [] .u8 w0 A0 c0 p0) (_hv1 : Vw [] .u8 w0 A1 c1 p1) :
  Calls Try.prog 21 #[.slice A0 p0.length c0, .slice A1 p1.length c1, .int .u8 p2] w0 fun e w => ∃ v, e = .returned v ∧ pTextOf_R p0 p1 p2 A0 c0 A1 c1 r w0 v w := by
 have hS0 := St.start w0
 unfold pTextOf at hF
 refine calls_of Try.func21 rfl ⟨((.slice A0 p0.length c0) :: (.slice A1 p1.length c1) :: (.int .u8 p2) :: un 36 ([])).toArray, []⟩ (by kernel_rfl) ?_
 refine gx_seq (fun K1 hK2 => ?_)
 refine gx_region ?_
 refine gx_k (.pointer none) w0 ?_
 refine gx_nil ?_
 refine gx_thenN ?_
 refine hK2 _ _ ?_
 refine gx_seq (fun K3 hK4 => ?_)
 refine gx_region ?_
 refine gx_k (.slice A0 p0.length c0) w0 (gx_k (.slice A1 p1.length c1) w0 (gx_k (.int .u8 p2) w0 (gx_k (.slice A0 p0.length c0) w0 ?_)))
 have hP5 : St _ _ w0 ([] ++ []) := hS0
 obtain ⟨l7, hc6, hF⟩ := bind_in hF
 try dsimp only at hF
 refine gx_c (pMatch_R l7 w0) (pMatch_ok N p0 A0 c0 _ hc6 w0 (hP5.vwA hv0)) ?_
 rintro _ w10 ⟨A8, c9, rfl, hT12⟩
 have hS11 : St _ _ w10 [rowE .i64 3 A8 c9 l7] := hS0.take _ hT12
 refine gx_k (.agg #[.slice A0 p0.length c0, .slice A1 p1.length c1, .int .u8 p2, .slice A8 l7.length c9, .slice none 0 0]) w10 ?_
 refine gx_r (st_boxed [.slice A0 p0.length c0, .slice A1 p1.length c1, .int .u8 p2, .slice A8 l7.length c9, .slice none 0 0] 67 hS11 (by kernel_rfl)) ?_
 rintro _ w13 ⟨rfl, hS14⟩
 have hS14 : St _ _ w13 [rowE .i64 3 A8 c9 l7, boxE w10.heap.size [.slice A0 p0.length c0, .slice A1 p1.length c1, .int .u8 p2, .slice A8 l7.length c9, .slice none 0 0] 67] := hS14
 refine gx_k (.pointer (some ⟨w10.heap.size, 0, none⟩)) w13 ?_
 refine gx_nil ?_
 refine gx_thenN ?_
 refine hK4 _ _ ?_
 obtain ⟨c21, hE22, hO23⟩ := bind_in hF
 refine gx_cut (fun a w => ∃ (l20 : List Int) (A18 : Option Addr) (c19 : Nat), selfA (fun u17 => ⟨(dd u17 0 2 ((.int .u8 p2) :: un 3 ((.pointer none) :: (.pointer (some ⟨w10.heap.size, 0, none⟩)) :: dd u17 8 4 ((.int .u8 p2) :: dd u17 13 3 ((.pointer (some ⟨w10.heap.size, 0, none⟩)) :: dd u17 17 21 (undef :: [])))))).toArray, []⟩) a ∧ l20 = c21 ∧ St [] w0 w [rowE .i64 3 A8 c9 l7, rowE .i64 3 A18 c19 l20, boxE w10.heap.size [.slice A0 p0.length c0, .slice A1 p1.length c1, .int .u8 p2, .slice A8 l7.length c9, .slice A18 l20.length c19] 67]) ?_ ?_
 ·refine gx_seq (fun K24 hK25 => ?_)
  refine gx_region ?_
  refine gx_k (.slice A0 p0.length c0) w13 (gx_k (.int .i64 ((p0.length : Nat) : Int)) w13 (gx_k (.int .i64 0) w13 ?_))
  refine gx_nil ?_
  refine gx_thenN ?_
  refine hK25 _ _ ?_
  refine gx_block ?_
  have hS33 : St _ _ w13 [rowE .i64 3 A8 c9 l7, boxE w10.heap.size [.slice A0 p0.length c0, .slice A1 p1.length c1, .int .u8 p2, .slice A8 l7.length c9, .slice none 0 0] 67, rowE .i64 3 none 0 ([])] := hS14.nilrow .i64 3
  refine gx_loop (fun k a w => ∃ (l31 : List Int) (x32 : Int) (A29 : Option Addr) (c30 : Nat), selfA (fun u28 => ⟨(dd u28 0 2 ((.int .u8 p2) :: un 3 ((.pointer none) :: (.pointer (some ⟨w10.heap.size, 0, none⟩)) :: dd u28 8 4 ((.int .u8 p2) :: dd u28 13 3 ((.pointer (some ⟨w10.heap.size, 0, none⟩)) :: (.slice A0 p0.length c0) :: (.int .i64 ((p0.length : Nat) : Int)) :: (.int .i64 x32) :: dd u28 20 18 (undef :: [])))))).toArray, []⟩) a ∧ pTextOf_L1 N p0 k l31 x32 = some c21 ∧ St [] w0 w [rowE .i64 3 A8 c9 l7, rowE .i64 3 A29 c30 l31, boxE w10.heap.size [.slice A0 p0.length c0, .slice A1 p1.length c1, .int .u8 p2, .slice A8 l7.length c9, .slice A29 l31.length c30] 67]) N ?_ ?_
  ·exact ⟨([]), 0, none, 0, selfA_i (by kernel_rfl), hE22, (hS33.pick [0, 2, 1] rfl rfl)⟩
  ·rintro k34 _ w26 ⟨l31, x32, A29, c30, hq68, hL35, hS27⟩
   obtain ⟨u28, rfl⟩ := selfA_u hq68
   cases k34 with
   | zero => cases hL35
   | succ k34 =>
    first | rw [pTextOf_L1] at hL35 | unfold pTextOf_L1 at hL35
    refine gx_seq (fun K36 hK37 => ?_)
    refine gx_region ?_
    rcases if_in hL35 with ⟨h38, hL35⟩ | ⟨h38, hL35⟩
    ·refine gx_v (.bool true) w26 (run_boolE (decide_eq_true h38) (by kernel_rfl)) ?_
     refine gx_nil ?_
     refine gx_thenN ?_
     refine hK37 _ _ ?_
     refine gx_seq (fun K39 hK40 => ?_)
     refine gx_yes (by kernel_rfl) ?_
     refine gx_pass ?_
     refine gx_thenN ?_
     refine hK40 _ _ ?_
     refine gx_seq (fun K41 hK42 => ?_)
     refine gx_block ?_
     refine gx_seq (fun K43 hK44 => ?_)
     refine gx_region ?_
     refine gx_k (.int .i64 x32) w26 ?_
     obtain ⟨x45, hx46, hL35⟩ := bind_in hL35
     refine gx_v (.pointer (Option.map (fun (p : Addr) => p.add (Int.toNat x32 * 1)) A0)) w26 (run_ixaddr (E := 34) (s := 1) (k := .i64) (c := c0) rfl (by kernel_rfl) (by kernel_rfl) (by kernel_rfl) (fun _ => by kernel_rfl) (ix_in hx46).1 (ix_in hx46).2.1 (num_nil (hS27.view hv0))) ?_
     refine gx_v (.int .u8 x45) w26 (run_loadix rfl (by kernel_rfl) (fun _ => by kernel_rfl) (hS27.view hv0) hx46) ?_
     refine gx_k (.int .i64 x32) w26 (gx_k (.int .u8 x45) w26 ?_)
     refine gx_nil ?_
     refine gx_thenN ?_
     refine hK44 _ _ ?_
     refine gx_seq (fun K47 hK48 => ?_)
     refine gx_region ?_
     refine gx_k (.int .u8 x45) w26 ?_
     have hP49 : St _ _ w26 ([] ++ [rowE .i64 3 A8 c9 l7, rowE .i64 3 A29 c30 l31, boxE w10.heap.size [.slice A0 p0.length c0, .slice A1 p1.length c1, .int .u8 p2, .slice A8 l7.length c9, .slice A29 l31.length c30] 67]) := hS27
     obtain ⟨b51, hc50, hL35⟩ := bind_in hL35
     try dsimp only at hL35
     refine gx_c (pRem_R b51 w26) (pRem_ok N x45 _ hc50 w26 ) ?_
     rintro _ w52 ⟨rfl, hT54⟩
     have hS53 : St _ _ w52 [rowE .i64 3 A8 c9 l7, rowE .i64 3 A29 c30 l31, boxE w10.heap.size [.slice A0 p0.length c0, .slice A1 p1.length c1, .int .u8 p2, .slice A8 l7.length c9, .slice A29 l31.length c30] 67] := hS27.take _ hT54
     cases b51 with
     | true =>
      try dsimp only at hL35
      refine gx_k (.bool false) w52 ?_
      refine gx_nil ?_
      refine gx_thenN ?_
      refine hK48 _ _ ?_
      refine gx_no (by kernel_rfl) ?_
      refine gx_pass ?_
      refine gx_blkN ?_
      refine gx_thenN ?_
      refine hK42 _ _ ?_
      refine gx_region ?_
      refine gx_k (.int .i64 (IntKind.i64.wrap (x32 + 1))) w52 (gx_k (.int .i64 (IntKind.i64.wrap (x32 + 1))) w52 ?_)
      refine gx_nil ?_
      refine gx_thenN ?_
      exact ⟨k34, Nat.lt_succ_self k34, l31, (IntKind.i64.wrap (x32 + 1)), A29, c30, selfA_i (by kernel_rfl), hL35, hS53⟩
     | false =>
      try dsimp only at hL35
      refine gx_k (.bool true) w52 ?_
      refine gx_nil ?_
      refine gx_thenN ?_
      refine hK48 _ _ ?_
      refine gx_yes (by kernel_rfl) ?_
      refine gx_region ?_
      refine gx_k (.pointer (some ⟨w10.heap.size, 0, none⟩)) w52 (gx_k (.pointer (some ⟨w10.heap.size, 0, none⟩)) w52 (gx_k (.pointer (some ⟨w10.heap.size, 0, none⟩)) w52 (gx_k (.pointer (some ⟨w10.heap.size, 4, none⟩)) w52 ?_)))
      refine gx_v (.slice A29 l31.length c30) w52 (run_load1 rfl (by kernel_rfl) (fun _ => by kernel_rfl) (hS53.box 2 rfl 4 rfl)) ?_
      refine gx_k (.int .i64 x32) w52 ?_
      refine gx_r (st_made .i64 3 [x32] hS53 (by show 1 ≤ 1000000000; decide) (by kernel_rfl)) ?_
      rintro _ w55 ⟨rfl, hS56⟩
      have hS56 : St _ _ w55 [rowE .i64 3 A8 c9 l7, rowE .i64 3 A29 c30 l31, boxE w10.heap.size [.slice A0 p0.length c0, .slice A1 p1.length c1, .int .u8 p2, .slice A8 l7.length c9, .slice A29 l31.length c30] 67, rowE .i64 3 (some ⟨w52.heap.size, 0, none⟩) 1 ([x32])] := hS56
      obtain ⟨l57, ha58, hL35⟩ := bind_in hL35
      obtain ⟨ha58, hq59⟩ := apx_in ha58
      refine gx_r (st_append rfl (by kernel_rfl) (by kernel_rfl) hS56 1 rfl (hS56.row 3 rfl).1 (hS56.row 3 rfl).2 ha58 (by kernel_rfl) (by kernel_rfl)) ?_
      rintro _ w62 ⟨A60, c61, rfl, hS63⟩
      rw [← hq59] at hS63 ⊢
      have hS63 : St _ _ w62 [rowE .i64 3 A8 c9 l7, rowE .i64 3 A60 c61 l57, boxE w10.heap.size [.slice A0 p0.length c0, .slice A1 p1.length c1, .int .u8 p2, .slice A8 l7.length c9, .slice A29 l31.length c30] 67, rowE .i64 3 (some ⟨w52.heap.size, 0, none⟩) 1 ([x32])] := hS63
      refine gx_k (.pointer (some ⟨w10.heap.size, 0, none⟩)) w62 (gx_k (.pointer (some ⟨w10.heap.size, 4, none⟩)) w62 ?_)
      refine gx_s (st_store (j := 4) (v := (.slice A60 l57.length c61)) rfl (by kernel_rfl) (by kernel_rfl) rfl (fun _ => by kernel_rfl) hS63 2 rfl (by show 4 < 5; decide)) ?_
      rintro w64 hS65
      have hS65 : St _ _ w64 [rowE .i64 3 A8 c9 l7, rowE .i64 3 A60 c61 l57, boxE w10.heap.size [.slice A0 p0.length c0, .slice A1 p1.length c1, .int .u8 p2, .slice A8 l7.length c9, .slice A60 l57.length c61] 67, rowE .i64 3 (some ⟨w52.heap.size, 0, none⟩) 1 ([x32])] := hS65
      refine gx_nil ?_
      refine gx_blkN ?_
      refine gx_thenN ?_
      refine hK42 _ _ ?_
      refine gx_region ?_
      refine gx_k (.int .i64 (IntKind.i64.wrap (x32 + 1))) w64 (gx_k (.int .i64 (IntKind.i64.wrap (x32 + 1))) w64 ?_)
      refine gx_nil ?_
      refine gx_thenN ?_
      exact ⟨k34, Nat.lt_succ_self k34, l57, (IntKind.i64.wrap (x32 + 1)), A60, c61, selfA_i (by kernel_rfl), hL35, (hS65.pick [0, 1, 2] rfl rfl)⟩
    ·refine gx_v (.bool false) w26 (run_boolE (decide_eq_false h38) (by kernel_rfl)) ?_
     refine gx_nil ?_
     refine gx_thenN ?_
     refine hK37 _ _ ?_
     refine gx_seq (fun K66 hK67 => ?_)
     refine gx_no (by kernel_rfl) ?_
     refine gx_exit ?_
     refine gx_thenE ?_
     refine gx_thenE ?_
     refine gx_blkE ?_
     refine gx_thenN ?_
     exact ⟨l31, A29, c30, selfA_i (by kernel_rfl), (Option.some.inj hL35), hS27⟩
 ·rintro _ w15 ⟨l20, A18, c19, hq71, rfl, hS16⟩
  obtain ⟨u17, rfl⟩ := selfA_u hq71
  try dsimp only at hO23
  refine gx_seq (fun K69 hK70 => ?_)
  refine gx_region ?_
  refine gx_k (.pointer (some ⟨w10.heap.size, 0, none⟩)) w15 (gx_k (.pointer (some ⟨w10.heap.size, 0, none⟩)) w15 ?_)
  refine gx_nil ?_
  refine gx_thenN ?_
  refine hK70 _ _ ?_
  refine gx_ret ?_
  obtain rfl := Option.some.inj hO23
  exact gx_fin (.pointer (some ⟨w10.heap.size, 0, none⟩)) (by kernel_rfl) (by kernel_rfl) ⟨_, rfl, w10.heap.size, A8, c9, A18, c19, rfl, (hS16.pick [2, 0, 1] rfl rfl)⟩

end Go.Proofs.Ytjndolnjhbgflaa
