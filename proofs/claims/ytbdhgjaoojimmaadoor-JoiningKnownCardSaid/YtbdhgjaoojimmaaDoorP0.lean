/-
  The program, walked.
-/
import Derived.Test.YtbdhgjaoojimmaaDoorR0
import Derived.Test.YtbdhgjaoojimmaaDoorUc
import Derived.Test.YtbdhgjaoojimmaaDoorGo
import Derived.Test.YtbdhgjaoojimmaaDoorGy
import Derived.Test.YtbdhgjaoojimmaaDoorBa
namespace Go.Proofs.YtbdhgjaoojimmaaDoor
open Go Go.RowKit
set_option linter.unusedVariables false

def pJn (_N : Nat) (p0 : Int) (p1 : Int) : Option (Bool) :=
 (((if p0 = 2 then some (true) else (if p0 = 3 then some (true) else (if p0 = 5 then some (true) else some (false)))) : Option (Bool)).bind fun b10 => (match b10 with | true => (if p1 = 1 then some true else (if p1 = 2 then some true else some (decide (p1 = 3)))) | false => some false))

set_option linter.unusedVariables false in
def pJn_R (r : Bool) (w0 : World) (v : Value) (w : World) : Prop := v = .bool r ∧ St [] w0 w []

set_option maxRecDepth 100000 in
set_option maxHeartbeats 4000000 in
theorem pJn_ok (N : Nat) (p0 : Int) (p1 : Int)  (r : Bool) (hF : pJn N p0 p1 = some r) (w0 : World)  :
  Calls Tryd.prog 20 #[.int .u8 p0, .int .u8 p1] w0 fun e w => ∃ v, e = .returned v ∧ pJn_R r w0 v w := by
 have hS0 := St.start w0
 unfold pJn at hF
 refine calls_of Tryd.func20 rfl ⟨((.int .u8 p0) :: (.int .u8 p1) :: un 18 ([])).toArray, []⟩ (by kernel_rfl) ?_
 refine gx_seq (fun K1 hK2 => ?_)
 refine gx_region ?_
 refine gx_k (.bool false) w0 ?_
 refine gx_nil ?_
 refine gx_thenN ?_
 refine hK2 _ _ ?_
 refine gx_seq (fun K3 hK4 => ?_)
 refine gx_seq (fun K5 hK6 => ?_)
 refine gx_region ?_
 refine gx_k (.int .u8 p0) w0 ?_
 refine gx_nil ?_
 refine gx_thenN ?_
 refine hK6 _ _ ?_
 refine gx_block ?_
 obtain ⟨c11, hE12, hO13⟩ := bind_in hF
 refine gx_cut (fun a w => ∃ (b10 : Bool), selfA (fun u9 => ⟨((.int .u8 p0) :: (.int .u8 p1) :: undef :: undef :: (.bool false) :: (.int .u8 p0) :: (.bool b10) :: dd u9 7 3 (un 10 ([]))).toArray, []⟩) a ∧ b10 = c11 ∧ St [] w0 w []) ?_ ?_
 ·refine gx_seq (fun K14 hK15 => ?_)
  refine gx_region ?_
  rcases if_in hE12 with ⟨h16, hE12⟩ | ⟨h16, hE12⟩
  ·refine gx_v (.bool true) w0 (run_boolE (decide_eq_true h16) (by kernel_rfl)) ?_
   refine gx_k (.bool true) w0 ?_
   refine gx_nil ?_
   refine gx_thenN ?_
   refine hK15 _ _ ?_
   refine gx_yes (by kernel_rfl) ?_
   refine gx_pass ?_
   refine gx_thenN ?_
   exact ⟨true, selfA_i (by kernel_rfl), (Option.some.inj hE12), hS0⟩
  ·refine gx_v (.bool false) w0 (run_boolE (decide_eq_false h16) (by kernel_rfl)) ?_
   refine gx_k (.bool false) w0 ?_
   refine gx_nil ?_
   refine gx_thenN ?_
   refine hK15 _ _ ?_
   refine gx_no (by kernel_rfl) ?_
   refine gx_seq (fun K17 hK18 => ?_)
   refine gx_region ?_
   rcases if_in hE12 with ⟨h19, hE12⟩ | ⟨h19, hE12⟩
   ·refine gx_v (.bool true) w0 (run_boolE (decide_eq_true h19) (by kernel_rfl)) ?_
    refine gx_k (.bool true) w0 ?_
    refine gx_nil ?_
    refine gx_thenN ?_
    refine hK18 _ _ ?_
    refine gx_yes (by kernel_rfl) ?_
    refine gx_pass ?_
    refine gx_thenN ?_
    exact ⟨true, selfA_i (by kernel_rfl), (Option.some.inj hE12), hS0⟩
   ·refine gx_v (.bool false) w0 (run_boolE (decide_eq_false h19) (by kernel_rfl)) ?_
    refine gx_k (.bool false) w0 ?_
    refine gx_nil ?_
    refine gx_thenN ?_
    refine hK18 _ _ ?_
    refine gx_no (by kernel_rfl) ?_
    refine gx_region ?_
    rcases if_in hE12 with ⟨h20, hE12⟩ | ⟨h20, hE12⟩
    ·refine gx_v (.bool true) w0 (run_boolE (decide_eq_true h20) (by kernel_rfl)) ?_
     refine gx_k (.bool true) w0 ?_
     refine gx_nil ?_
     refine gx_thenN ?_
     exact ⟨true, selfA_i (by kernel_rfl), (Option.some.inj hE12), hS0⟩
    ·refine gx_v (.bool false) w0 (run_boolE (decide_eq_false h20) (by kernel_rfl)) ?_
     refine gx_k (.bool false) w0 ?_
     refine gx_nil ?_
     refine gx_thenN ?_
     exact ⟨false, selfA_i (by kernel_rfl), (Option.some.inj hE12), hS0⟩
 ·rintro _ w7 ⟨b10, hq27, rfl, hS8⟩
  obtain ⟨u9, rfl⟩ := selfA_u hq27
  try dsimp only at hO13
  cases b10 with
  | true =>
   try dsimp only at hO13
   refine gx_yes (by kernel_rfl) ?_
   refine gx_seq (fun K21 hK22 => ?_)
   refine gx_region ?_
   refine gx_k (.int .u8 p1) w7 ?_
   rcases if_in hO13 with ⟨h23, hO13⟩ | ⟨h23, hO13⟩
   ·refine gx_v (.bool true) w7 (run_boolE (decide_eq_true h23) (by kernel_rfl)) ?_
    refine gx_k (.bool true) w7 (gx_o (gx_o (gx_k (.bool true) w7 (gx_k (.bool true) w7 (gx_o (gx_o (gx_k (.bool true) w7 ?_)))))))
    refine gx_k (.bool true) w7 ?_
    refine gx_nil ?_
    refine gx_thenN ?_
    refine hK22 _ _ ?_
    refine gx_ret ?_
    refine gx_blkR ?_
    refine gx_thenR ?_
    obtain rfl := Option.some.inj hO13
    exact gx_fin (.bool true) (by kernel_rfl) (by kernel_rfl) ⟨_, rfl, rfl, hS8⟩
   ·refine gx_v (.bool false) w7 (run_boolE (decide_eq_false h23) (by kernel_rfl)) ?_
    refine gx_k (.bool false) w7 (gx_k (.int .u8 p1) w7 ?_)
    rcases if_in hO13 with ⟨h24, hO13⟩ | ⟨h24, hO13⟩
    ·refine gx_v (.bool true) w7 (run_boolE (decide_eq_true h24) (by kernel_rfl)) ?_
     refine gx_k (.bool true) w7 (gx_k (.bool true) w7 (gx_o (gx_o (gx_k (.bool true) w7 (gx_k (.bool true) w7 ?_)))))
     refine gx_nil ?_
     refine gx_thenN ?_
     refine hK22 _ _ ?_
     refine gx_ret ?_
     refine gx_blkR ?_
     refine gx_thenR ?_
     obtain rfl := Option.some.inj hO13
     exact gx_fin (.bool true) (by kernel_rfl) (by kernel_rfl) ⟨_, rfl, rfl, hS8⟩
    ·refine gx_v (.bool false) w7 (run_boolE (decide_eq_false h24) (by kernel_rfl)) ?_
     refine gx_k (.bool false) w7 (gx_k (.bool false) w7 (gx_k (.int .u8 p1) w7 (gx_k (.bool (decide (p1 = 3))) w7 (gx_k (.bool (decide (p1 = 3))) w7 (gx_k (.bool (decide (p1 = 3))) w7 ?_)))))
     refine gx_nil ?_
     refine gx_thenN ?_
     refine hK22 _ _ ?_
     refine gx_ret ?_
     refine gx_blkR ?_
     refine gx_thenR ?_
     obtain rfl := Option.some.inj hO13
     exact gx_fin (.bool (decide (p1 = 3))) (by kernel_rfl) (by kernel_rfl) ⟨_, rfl, rfl, hS8⟩
  | false =>
   try dsimp only at hO13
   refine gx_no (by kernel_rfl) ?_
   refine gx_pass ?_
   refine gx_blkN ?_
   refine gx_thenN ?_
   refine hK4 _ _ ?_
   refine gx_seq (fun K25 hK26 => ?_)
   refine gx_region ?_
   refine gx_k (.bool false) w7 ?_
   refine gx_nil ?_
   refine gx_thenN ?_
   refine hK26 _ _ ?_
   refine gx_ret ?_
   obtain rfl := Option.some.inj hO13
   exact gx_fin (.bool false) (by kernel_rfl) (by kernel_rfl) ⟨_, rfl, rfl, hS8⟩

def pNb (_N : Nat) (p0 : Bool) : Option (Int) :=
 (match p0 with | true => some 1 | false => some 0)

set_option linter.unusedVariables false in
def pNb_R (r : Int) (w0 : World) (v : Value) (w : World) : Prop := v = .int .i64 r ∧ St [] w0 w []

set_option maxRecDepth 100000 in
set_option maxHeartbeats 4000000 in
theorem pNb_ok (N : Nat) (p0 : Bool)  (r : Int) (hF : pNb N p0 = some r) (w0 : World)  :
  Calls Tryd.prog 26 #[.bool p0] w0 fun e w => ∃ v, e = .returned v ∧ pNb_R r w0 v w := by
 have hS0 := St.start w0
 unfold pNb at hF
 refine calls_of Tryd.func26 rfl ⟨((.bool p0) :: un 3 ([])).toArray, []⟩ (by kernel_rfl) ?_
 refine gx_seq (fun K1 hK2 => ?_)
 refine gx_region ?_
 refine gx_k (.int .i64 0) w0 ?_
 refine gx_nil ?_
 refine gx_thenN ?_
 refine hK2 _ _ ?_
 refine gx_seq (fun K3 hK4 => ?_)
 refine gx_seq (fun K5 hK6 => ?_)
 refine gx_region ?_
 refine gx_k (.bool p0) w0 ?_
 refine gx_nil ?_
 refine gx_thenN ?_
 refine hK6 _ _ ?_
 cases p0 with
 | true =>
  try dsimp only at hF
  refine gx_yes (by kernel_rfl) ?_
  refine gx_seq (fun K7 hK8 => ?_)
  refine gx_region ?_
  refine gx_k (.int .i64 1) w0 ?_
  refine gx_nil ?_
  refine gx_thenN ?_
  refine hK8 _ _ ?_
  refine gx_ret ?_
  refine gx_thenR ?_
  obtain rfl := Option.some.inj hF
  exact gx_fin (.int .i64 1) (by kernel_rfl) (by kernel_rfl) ⟨_, rfl, rfl, hS0⟩
 | false =>
  try dsimp only at hF
  refine gx_no (by kernel_rfl) ?_
  refine gx_pass ?_
  refine gx_thenN ?_
  refine hK4 _ _ ?_
  refine gx_seq (fun K9 hK10 => ?_)
  refine gx_region ?_
  refine gx_k (.int .i64 0) w0 ?_
  refine gx_nil ?_
  refine gx_thenN ?_
  refine hK10 _ _ ?_
  refine gx_ret ?_
  obtain rfl := Option.some.inj hF
  exact gx_fin (.int .i64 0) (by kernel_rfl) (by kernel_rfl) ⟨_, rfl, rfl, hS0⟩

def pJoins (N : Nat) (p0 : Int) (p1 : Int) : Option (Bool) :=
 ((ucJn N p0).bind fun x7 => ((ucJn N p1).bind fun x13 => ((pJn N x7 x13).bind fun b19 => some b19)))

set_option linter.unusedVariables false in
def pJoins_R (r : Bool) (w0 : World) (v : Value) (w : World) : Prop := v = .bool r ∧ St [] w0 w []

set_option maxRecDepth 100000 in
set_option maxHeartbeats 4000000 in
theorem pJoins_ok (N : Nat) (p0 : Int) (p1 : Int)  (r : Bool) (hF : pJoins N p0 p1 = some r) (w0 : World)  :
  Calls Tryd.prog 12 #[.int .i32 p0, .int .i32 p1] w0 fun e w => ∃ v, e = .returned v ∧ pJoins_R r w0 v w := by
 have hS0 := St.start w0
 unfold pJoins at hF
 refine calls_of Tryd.func12 rfl ⟨((.int .i32 p0) :: (.int .i32 p1) :: un 8 ([])).toArray, []⟩ (by kernel_rfl) ?_
 refine gx_seq (fun K1 hK2 => ?_)
 refine gx_region ?_
 refine gx_k (.bool false) w0 ?_
 refine gx_nil ?_
 refine gx_thenN ?_
 refine hK2 _ _ ?_
 refine gx_seq (fun K3 hK4 => ?_)
 refine gx_region ?_
 refine gx_k (.int .i32 p0) w0 ?_
 have hP5 : St _ _ w0 ([] ++ []) := hS0
 obtain ⟨x7, hc6, hF⟩ := bind_in hF
 try dsimp only at hF
 refine gx_c (ucJn_R x7 w0) (ucJn_ok N p0 _ hc6 w0 ) ?_
 rintro _ w8 ⟨rfl, hT10⟩
 have hS9 : St _ _ w8 [] := hS0.take _ hT10
 refine gx_k (.int .i32 p1) w8 ?_
 have hP11 : St _ _ w8 ([] ++ []) := hS9
 obtain ⟨x13, hc12, hF⟩ := bind_in hF
 try dsimp only at hF
 refine gx_c (ucJn_R x13 w8) (ucJn_ok N p1 _ hc12 w8 ) ?_
 rintro _ w14 ⟨rfl, hT16⟩
 have hS15 : St _ _ w14 [] := hS9.take _ hT16
 have hP17 : St _ _ w14 ([] ++ []) := hS15
 obtain ⟨b19, hc18, hF⟩ := bind_in hF
 try dsimp only at hF
 refine gx_c (pJn_R b19 w14) (pJn_ok N x7 x13 _ hc18 w14 ) ?_
 rintro _ w20 ⟨rfl, hT22⟩
 have hS21 : St _ _ w20 [] := hS15.take _ hT22
 refine gx_k (.bool b19) w20 ?_
 refine gx_nil ?_
 refine gx_thenN ?_
 refine hK4 _ _ ?_
 refine gx_ret ?_
 obtain rfl := Option.some.inj hF
 exact gx_fin (.bool b19) (by kernel_rfl) (by kernel_rfl) ⟨_, rfl, rfl, hS21⟩

def pForm (N : Nat) (p0_0 : Int) (p0_1 : Int) (p0_2 : Int) : Option (Int) :=
 (((if p0_1 = 1 then some (true) else (if p0_1 = 2 then some (true) else (if p0_1 = 5 then some (true) else some (false)))) : Option (Bool)).bind fun b12 => (match b12 with | true => ((pJn N p0_0 p0_1).bind fun b29 => ((pNb N b29).bind fun x35 => ((gix 2 x35).bind fun j39 => ((pJn N p0_1 p0_2).bind fun b43 => ((pNb N b43).bind fun x49 => ((gix 2 x49).bind fun j53 => some (fjL.getD ((0 + j39 * 2) + j53 * 1) 0))))))) | false => some 0))

set_option linter.unusedVariables false in
def pForm_R (r : Int) (w0 : World) (v : Value) (w : World) : Prop := v = .int .u8 r ∧ St [] w0 w []

set_option maxRecDepth 100000 in
set_option maxHeartbeats 4000000 in
theorem pForm_ok (N : Nat) (p0_0 : Int) (p0_1 : Int) (p0_2 : Int)  (r : Int) (hF : pForm N p0_0 p0_1 p0_2 = some r) (w0 : World) (hcd : MirB [] w0) :
  Calls Tryd.prog 17 #[.agg #[.int .u8 p0_0, .int .u8 p0_1, .int .u8 p0_2]] w0 fun e w => ∃ v, e = .returned v ∧ pForm_R r w0 v w := by
 have hS0 := St.start w0
 unfold pForm at hF
 refine calls_of Tryd.func17 rfl ⟨((.agg #[.int .u8 p0_0, .int .u8 p0_1, .int .u8 p0_2]) :: un 23 ([])).toArray, []⟩ (by kernel_rfl) ?_
 refine gx_seq (fun K1 hK2 => ?_)
 refine gx_region ?_
 refine gx_r (st_boxed [.int .u8 p0_0, .int .u8 p0_1, .int .u8 p0_2] 36 hS0 (by kernel_rfl)) ?_
 rintro _ w3 ⟨rfl, hS4⟩
 have hS4 : St _ _ w3 [boxE w0.heap.size [.int .u8 p0_0, .int .u8 p0_1, .int .u8 p0_2] 36] := hS4
 refine gx_k (.int .u8 0) w3 ?_
 refine gx_nil ?_
 refine gx_thenN ?_
 refine hK2 _ _ ?_
 refine gx_seq (fun K5 hK6 => ?_)
 refine gx_seq (fun K7 hK8 => ?_)
 refine gx_region ?_
 refine gx_k (.pointer (some ⟨w0.heap.size, 1, none⟩)) w3 ?_
 refine gx_v (.int .u8 p0_1) w3 (run_load1 rfl (by kernel_rfl) (fun _ => by kernel_rfl) (hS4.box 0 rfl 1 rfl)) ?_
 refine gx_nil ?_
 refine gx_thenN ?_
 refine hK8 _ _ ?_
 refine gx_block ?_
 obtain ⟨c13, hE14, hO15⟩ := bind_in hF
 refine gx_cut (fun a w => ∃ (b12 : Bool), selfA (fun u11 => ⟨((u11 0) :: (.pointer (some ⟨w0.heap.size, 0, none⟩)) :: (.int .u8 0) :: (.pointer (some ⟨w0.heap.size, 1, none⟩)) :: (.int .u8 p0_1) :: (.bool b12) :: dd u11 6 3 (un 15 ([]))).toArray, []⟩) a ∧ b12 = c13 ∧ St [] w0 w [boxE w0.heap.size [.int .u8 p0_0, .int .u8 p0_1, .int .u8 p0_2] 36]) ?_ ?_
 ·refine gx_seq (fun K16 hK17 => ?_)
  refine gx_region ?_
  rcases if_in hE14 with ⟨h18, hE14⟩ | ⟨h18, hE14⟩
  ·refine gx_v (.bool true) w3 (run_boolE (decide_eq_true h18) (by kernel_rfl)) ?_
   refine gx_k (.bool true) w3 ?_
   refine gx_nil ?_
   refine gx_thenN ?_
   refine hK17 _ _ ?_
   refine gx_yes (by kernel_rfl) ?_
   refine gx_pass ?_
   refine gx_thenN ?_
   exact ⟨true, selfA_i (by kernel_rfl), (Option.some.inj hE14), hS4⟩
  ·refine gx_v (.bool false) w3 (run_boolE (decide_eq_false h18) (by kernel_rfl)) ?_
   refine gx_k (.bool false) w3 ?_
   refine gx_nil ?_
   refine gx_thenN ?_
   refine hK17 _ _ ?_
   refine gx_no (by kernel_rfl) ?_
   refine gx_seq (fun K19 hK20 => ?_)
   refine gx_region ?_
   rcases if_in hE14 with ⟨h21, hE14⟩ | ⟨h21, hE14⟩
   ·refine gx_v (.bool true) w3 (run_boolE (decide_eq_true h21) (by kernel_rfl)) ?_
    refine gx_k (.bool true) w3 ?_
    refine gx_nil ?_
    refine gx_thenN ?_
    refine hK20 _ _ ?_
    refine gx_yes (by kernel_rfl) ?_
    refine gx_pass ?_
    refine gx_thenN ?_
    exact ⟨true, selfA_i (by kernel_rfl), (Option.some.inj hE14), hS4⟩
   ·refine gx_v (.bool false) w3 (run_boolE (decide_eq_false h21) (by kernel_rfl)) ?_
    refine gx_k (.bool false) w3 ?_
    refine gx_nil ?_
    refine gx_thenN ?_
    refine hK20 _ _ ?_
    refine gx_no (by kernel_rfl) ?_
    refine gx_region ?_
    rcases if_in hE14 with ⟨h22, hE14⟩ | ⟨h22, hE14⟩
    ·refine gx_v (.bool true) w3 (run_boolE (decide_eq_true h22) (by kernel_rfl)) ?_
     refine gx_k (.bool true) w3 ?_
     refine gx_nil ?_
     refine gx_thenN ?_
     exact ⟨true, selfA_i (by kernel_rfl), (Option.some.inj hE14), hS4⟩
    ·refine gx_v (.bool false) w3 (run_boolE (decide_eq_false h22) (by kernel_rfl)) ?_
     refine gx_k (.bool false) w3 ?_
     refine gx_nil ?_
     refine gx_thenN ?_
     exact ⟨false, selfA_i (by kernel_rfl), (Option.some.inj hE14), hS4⟩
 ·rintro _ w9 ⟨b12, hq57, rfl, hS10⟩
  obtain ⟨u11, rfl⟩ := selfA_u hq57
  try dsimp only at hO15
  cases b12 with
  | true =>
   try dsimp only at hO15
   refine gx_yes (by kernel_rfl) ?_
   refine gx_seq (fun K23 hK24 => ?_)
   refine gd_start (fun w => St [] w0 w [boxE w0.heap.size [.int .u8 p0_0, .int .u8 p0_1, .int .u8 p0_2] 36]) 16 #[false, false, false, false, false, false, false, false, false, false, false, false, false, false, false, false] (by kernel_rfl) (by kernel_rfl) ?_
   have hS26 := hS10.drew
   generalize w9.drew = w25 at hS26 ⊢
   refine gv1 0 9 (.pointer (some ⟨w0.heap.size, 0, none⟩)) rfl hS26 ?_
   refine gu1 1 10 (.int .u8 p0_0) rfl hS26 (fun w hSw => run_load1 rfl (by kernel_rfl) (fun _ => by kernel_rfl) (hSw.box 0 rfl 0 rfl)) ?_
   refine gv1 2 11 (.pointer (some ⟨w0.heap.size, 1, none⟩)) rfl hS26 ?_
   refine gu1 3 12 (.int .u8 p0_1) rfl hS26 (fun w hSw => run_load1 rfl (by kernel_rfl) (fun _ => by kernel_rfl) (hSw.box 0 rfl 1 rfl)) ?_
   refine gv1 6 15 (.pointer (some ⟨w0.heap.size, 1, none⟩)) rfl hS26 ?_
   refine gu1 7 16 (.int .u8 p0_1) rfl hS26 (fun w hSw => run_load1 rfl (by kernel_rfl) (fun _ => by kernel_rfl) (hSw.box 0 rfl 1 rfl)) ?_
   refine gv1 8 17 (.pointer (some ⟨w0.heap.size, 2, none⟩)) rfl hS26 ?_
   refine gu1 9 18 (.int .u8 p0_2) rfl hS26 (fun w hSw => run_load1 rfl (by kernel_rfl) (fun _ => by kernel_rfl) (hSw.box 0 rfl 2 rfl)) ?_
   have hP27 : St _ _ w25 ([] ++ [boxE w0.heap.size [.int .u8 p0_0, .int .u8 p0_1, .int .u8 p0_2] 36]) := hS26
   obtain ⟨b29, hc28, hO15⟩ := bind_in hO15
   try dsimp only at hO15
   refine gdC 4 { dst := some 13, op := _, type := _, pos := _, after := _, guard := _ } (pJn_R b29 w25) rfl (by kernel_rfl) (pJn_ok N p0_0 p0_1 _ hc28 w25 ) ?_
   rintro _ w30 ⟨rfl, hT32⟩
   have hS31 : St _ _ w30 [boxE w0.heap.size [.int .u8 p0_0, .int .u8 p0_1, .int .u8 p0_2] 36] := hS26.take _ hT32
   refine ⟨hS31, ?_⟩
   have hP33 : St _ _ w30 ([] ++ [boxE w0.heap.size [.int .u8 p0_0, .int .u8 p0_1, .int .u8 p0_2] 36]) := hS31
   obtain ⟨x35, hc34, hO15⟩ := bind_in hO15
   try dsimp only at hO15
   refine gdC 5 { dst := some 14, op := _, type := _, pos := _, after := _, guard := _ } (pNb_R x35 w30) rfl (by kernel_rfl) (pNb_ok N b29 _ hc34 w30 ) ?_
   rintro _ w36 ⟨rfl, hT38⟩
   have hS37 : St _ _ w36 [boxE w0.heap.size [.int .u8 p0_0, .int .u8 p0_1, .int .u8 p0_2] 36] := hS31.take _ hT38
   refine ⟨hS37, ?_⟩
   obtain ⟨j39, h40, hO15⟩ := bind_in hO15
   refine gu1 12 21 (.pointer (some ⟨0, (0 + j39 * 2), none⟩)) rfl hS37 (fun w hSw => run_ixarrO (E := 44) (s := 2) (m := 2) (k := .i64) (b := 0) (i := j39) rfl (by kernel_rfl) (by kernel_rfl) (gix_in h40).1 (by kernel_rfl) (fun _ => by kernel_rfl) (gix_in h40).2) ?_
   have hP41 : St _ _ w36 ([] ++ [boxE w0.heap.size [.int .u8 p0_0, .int .u8 p0_1, .int .u8 p0_2] 36]) := hS37
   obtain ⟨b43, hc42, hO15⟩ := bind_in hO15
   try dsimp only at hO15
   refine gdC 10 { dst := some 19, op := _, type := _, pos := _, after := _, guard := _ } (pJn_R b43 w36) rfl (by kernel_rfl) (pJn_ok N p0_1 p0_2 _ hc42 w36 ) ?_
   rintro _ w44 ⟨rfl, hT46⟩
   have hS45 : St _ _ w44 [boxE w0.heap.size [.int .u8 p0_0, .int .u8 p0_1, .int .u8 p0_2] 36] := hS37.take _ hT46
   refine ⟨hS45, ?_⟩
   have hP47 : St _ _ w44 ([] ++ [boxE w0.heap.size [.int .u8 p0_0, .int .u8 p0_1, .int .u8 p0_2] 36]) := hS45
   obtain ⟨x49, hc48, hO15⟩ := bind_in hO15
   try dsimp only at hO15
   refine gdC 11 { dst := some 20, op := _, type := _, pos := _, after := _, guard := _ } (pNb_R x49 w44) rfl (by kernel_rfl) (pNb_ok N b43 _ hc48 w44 ) ?_
   rintro _ w50 ⟨rfl, hT52⟩
   have hS51 : St _ _ w50 [boxE w0.heap.size [.int .u8 p0_0, .int .u8 p0_1, .int .u8 p0_2] 36] := hS45.take _ hT52
   refine ⟨hS51, ?_⟩
   obtain ⟨j53, h54, hO15⟩ := bind_in hO15
   refine gu1 13 22 (.pointer (some ⟨0, ((0 + j39 * 2) + j53 * 1), none⟩)) rfl hS51 (fun w hSw => run_ixarrO (E := 5) (s := 1) (m := 2) (k := .i64) (b := (0 + j39 * 2)) (i := j53) rfl (by kernel_rfl) (by kernel_rfl) (gix_in h54).1 (by kernel_rfl) (fun _ => by kernel_rfl) (gix_in h54).2) ?_
   refine gu1 14 23 (.int .u8 (fjL.getD ((0 + j39 * 2) + j53 * 1) 0)) rfl hS51 (fun w hSw => run_load1 rfl (by kernel_rfl) (fun _ => by kernel_rfl) (MirB.st hcd hSw _ (by have := (gix_in h40).2; have := (gix_in h54).2; have hb := (0 : Nat); omega))) ?_
   refine gv1 15 2 (.int .u8 (fjL.getD ((0 + j39 * 2) + j53 * 1) 0)) rfl hS51 ?_
   refine gd_done (by kernel_rfl) ?_
   refine gx_thenN ?_
   refine hK24 _ _ ?_
   refine gx_ret ?_
   refine gx_blkR ?_
   refine gx_thenR ?_
   obtain rfl := Option.some.inj hO15
   exact gx_fin (.int .u8 (fjL.getD ((0 + j39 * 2) + j53 * 1) 0)) (by kernel_rfl) (by kernel_rfl) ⟨_, rfl, rfl, (hS51.pick [] rfl rfl)⟩
  | false =>
   try dsimp only at hO15
   refine gx_no (by kernel_rfl) ?_
   refine gx_pass ?_
   refine gx_blkN ?_
   refine gx_thenN ?_
   refine hK6 _ _ ?_
   refine gx_seq (fun K55 hK56 => ?_)
   refine gx_region ?_
   refine gx_k (.int .u8 0) w9 ?_
   refine gx_nil ?_
   refine gx_thenN ?_
   refine hK56 _ _ ?_
   refine gx_ret ?_
   obtain rfl := Option.some.inj hO15
   exact gx_fin (.int .u8 0) (by kernel_rfl) (by kernel_rfl) ⟨_, rfl, rfl, (hS10.pick [] rfl rfl)⟩

def pNbs (_N : Nat) : Option (Unit) :=
 some ()

def pNbs_R (A0 : Option Addr) (n0 : Nat) (c0 : Nat) (_r : Unit) (w0 : World) (v : Value) (w : World) : Prop := ∃ (g0' : Nat), v = .func (.func 25) #[] #[.pointer (some ⟨g0', 0, none⟩)] ∧ St [] w0 w [boxE g0' [.slice A0 n0 c0] 22]

set_option maxRecDepth 100000 in
set_option maxHeartbeats 4000000 in
theorem pNbs_ok (N : Nat) (A0 : Option Addr) (n0 c0 : Nat) (r : Unit) (hF : pNbs N = some r) (w0 : World)  :
  Calls Tryd.prog 16 #[.slice A0 n0 c0] w0 fun e w => ∃ v, e = .returned v ∧ pNbs_R A0 n0 c0 r w0 v w := by
 have hS0 := St.start w0
 unfold pNbs at hF
 refine calls_of Tryd.func16 rfl ⟨((.slice A0 n0 c0) :: un 3 ([])).toArray, []⟩ (by kernel_rfl) ?_
 refine gx_seq (fun K1 hK2 => ?_)
 refine gx_region ?_
 refine gx_r (st_boxed [.slice A0 n0 c0] 22 hS0 (by kernel_rfl)) ?_
 rintro _ w3 ⟨rfl, hS4⟩
 have hS4 : St _ _ w3 [boxE w0.heap.size [.slice A0 n0 c0] 22] := hS4
 refine gx_k (Value.nilFunc) w3 ?_
 refine gx_nil ?_
 refine gx_thenN ?_
 refine hK2 _ _ ?_
 refine gx_seq (fun K5 hK6 => ?_)
 refine gx_region ?_
 refine gx_k (.func (.func 25) #[] #[.pointer (some ⟨w0.heap.size, 0, none⟩)]) w3 (gx_k (.func (.func 25) #[] #[.pointer (some ⟨w0.heap.size, 0, none⟩)]) w3 ?_)
 refine gx_nil ?_
 refine gx_thenN ?_
 refine hK6 _ _ ?_
 refine gx_ret ?_
 obtain rfl := Option.some.inj hF
 exact gx_fin (.func (.func 25) #[] #[.pointer (some ⟨w0.heap.size, 0, none⟩)]) (by kernel_rfl) (by kernel_rfl) ⟨_, rfl, w0.heap.size, rfl, hS4⟩
def encint_joiningcharacter (x : Int × Int × Int × Int) : Array Value := #[.int .i64 x.1, .agg #[.int .u8 x.2.1, .int .u8 x.2.2.1, .int .u8 x.2.2.2]]

def pNbs1_L1 (N : Nat) (p1 : List Int) : Nat → Int → Int → Int → Int → Int → Option (List (Int × Int × Int × Int))
 | 0, _, _, _, _, _ => none
 | k26+1, x17, x18, x19, x20, x21 => (if x21 < ((p1.length : Nat) : Int) then ((ix p1 x21).bind fun x40 => ((ucJn N x40).bind fun x48 => (if x48 = 4 then pNbs1_L1 N p1 k26 x17 x18 x19 x20 (IntKind.i64.wrap (x21 + 1)) else (if x20 ≥ 0 then (Option.map (fun is => (x20, x17, x18, x48) :: is) (pNbs1_L1 N p1 k26 x18 x48 0 x21 (IntKind.i64.wrap (x21 + 1)))) else pNbs1_L1 N p1 k26 x18 x48 0 x21 (IntKind.i64.wrap (x21 + 1)))))) else (if x20 ≥ 0 then (Option.map (fun is => (x20, x17, x18, x19) :: is) (some [])) else some []))
def pNbs1 (N : Nat) (p1 : List Int) : Option (List (Int × Int × Int × Int)) :=
 pNbs1_L1 N p1 N 0 0 0 (-1) 0

def pNbs1_kp (g1 : Nat) (A1 : Option Addr) (c1 : Nat) (p1 : List Int) (W : World) : Prop := W.heap[g1]? = some (.cells [.slice A1 p1.length c1].toArray 22 (0, 0)) ∧ NumZ .i32 W (.slice A1 p1.length c1) p1

theorem pNbs1_kp_ab {g1 : Nat} {A1 : Option Addr} {c1 : Nat} {p1 : List Int} {W W' : World} (hk : pNbs1_kp g1 A1 c1 p1 W) (hb : Below W.heap.size W W') : pNbs1_kp g1 A1 c1 p1 W' := ⟨(hb.block _ (own_row_lt hk.1)).trans hk.1, hk.2.below hb⟩

set_option maxRecDepth 100000 in
set_option maxHeartbeats 4000000 in
theorem pNbs1_iter (N : Nat) (p1 : List Int) (items : List (Int × Int × Int × Int)) (hF : pNbs1 N p1 = some items) (g1 : Nat) (A1 : Option Addr) (c1 : Nat) (hn1 : A1 = none → c1 = 0) : IterO Tryd.prog (.func (.func 25) #[] #[.pointer (some ⟨g1, 0, none⟩)]) encint_joiningcharacter items (pNbs1_kp g1 A1 c1 p1) := by
 refine ⟨_, _, rfl, fun _ _ => by kernel_rfl, ?_⟩
 intro n l J Jx W hab habx hlen hlenx hY hJ
 have hk := (hlen _ _ _ hJ).2
 have hS0 := St.start W
 unfold pNbs1 at hF
 refine callsin_of Tryd.func25 rfl ⟨((.func (.yield l) #[] #[]) :: (.pointer (some ⟨g1, 0, none⟩)) :: un 40 ([])).toArray, []⟩ (by kernel_rfl) ?_
 refine gx_seq (fun K1 hK2 => ?_)
 refine gx_region ?_
 refine gx_r (st_boxed [.int .u8 0, .int .u8 0, .int .u8 0] 36 hS0 (by kernel_rfl)) ?_
 rintro _ w3 ⟨rfl, hS4⟩
 have hS4 : St _ _ w3 [boxE W.heap.size [.int .u8 0, .int .u8 0, .int .u8 0] 36] := hS4
 refine gx_nil ?_
 refine gx_thenN ?_
 refine hK2 _ _ ?_
 refine gx_seq (fun K5 hK6 => ?_)
 have hJ7 : J items [boxE W.heap.size [.int .u8 0, .int .u8 0, .int .u8 0] 36] w3 := hab _ _ _ _ _ hJ hS4
 have hS8 : St (feet [boxE W.heap.size [.int .u8 0, .int .u8 0, .int .u8 0] 36]) w3 w3 [boxE W.heap.size [.int .u8 0, .int .u8 0, .int .u8 0] 36] := (hlen _ _ _ hJ7).1
 have hk9 := (hlen _ _ _ hJ7).2
 refine gx_region ?_
 refine gx_k (.int .i64 (-1)) w3 ?_
 refine gx_nil ?_
 refine gx_thenN ?_
 refine hK6 _ _ ?_
 refine gx_seq (fun K10 hK11 => ?_)
 refine gx_seq (fun K12 hK13 => ?_)
 refine gx_region ?_
 refine gx_v (.slice A1 p1.length c1) w3 (run_load1 rfl (by kernel_rfl) (fun _ => by kernel_rfl) ((St.start _).read hk9.1 0 rfl)) ?_
 refine gx_k (.int .i64 ((p1.length : Nat) : Int)) w3 (gx_k (.int .i64 0) w3 ?_)
 refine gx_nil ?_
 refine gx_thenN ?_
 refine hK13 _ _ ?_
 refine gx_block ?_
 refine gx_loop (fun k a w => ∃ (x17 : Int) (x18 : Int) (x19 : Int) (x20 : Int) (x21 : Int) (wb22 : World) (its23 : List (Int × Int × Int × Int)) (u16 : Nat → Value), a = ⟨((.func (.yield l) #[] #[]) :: (.pointer (some ⟨g1, 0, none⟩)) :: undef :: (.pointer (some ⟨W.heap.size, 0, none⟩)) :: (.int .i64 x20) :: dd u16 0 3 ((.slice A1 p1.length c1) :: (.int .i64 ((p1.length : Nat) : Int)) :: (.int .i64 x21) :: dd u16 3 25 (un 6 ([])))).toArray, []⟩ ∧ pNbs1_L1 N p1 k x17 x18 x19 x20 x21 = some its23 ∧ St (feet [boxE W.heap.size [.int .u8 x17, .int .u8 x18, .int .u8 x19] 36]) wb22 w [boxE W.heap.size [.int .u8 x17, .int .u8 x18, .int .u8 x19] 36] ∧ J its23 [boxE W.heap.size [.int .u8 x17, .int .u8 x18, .int .u8 x19] 36] wb22 ∧ (pNbs1_kp g1 A1 c1 p1) wb22) N ?_ ?_
 ·exact ⟨0, 0, 0, (-1), 0, w3, items, (fun i => List.getD (undef :: undef :: undef :: undef :: undef :: undef :: undef :: undef :: undef :: undef :: undef :: undef :: undef :: undef :: undef :: undef :: undef :: undef :: undef :: undef :: undef :: undef :: undef :: undef :: undef :: undef :: undef :: undef :: []) i undef), by kernel_rfl, hF, hS8, hJ7, hk9⟩
 ·rintro k26 _ w14 ⟨x17, x18, x19, x20, x21, wb22, its23, u16, rfl, hL27, hS15, hJ24, hk25⟩
  cases k26 with
  | zero => cases hL27
  | succ k26 =>
   first | rw [pNbs1_L1] at hL27 | unfold pNbs1_L1 at hL27
   refine gx_seq (fun K28 hK29 => ?_)
   have hJ30 : J its23 [boxE W.heap.size [.int .u8 x17, .int .u8 x18, .int .u8 x19] 36] w14 := hab _ _ _ _ _ hJ24 hS15
   have hS31 : St (feet [boxE W.heap.size [.int .u8 x17, .int .u8 x18, .int .u8 x19] 36]) w14 w14 [boxE W.heap.size [.int .u8 x17, .int .u8 x18, .int .u8 x19] 36] := (hlen _ _ _ hJ30).1
   have hk32 := (hlen _ _ _ hJ30).2
   refine gx_region ?_
   rcases if_in hL27 with ⟨h33, hL27⟩ | ⟨h33, hL27⟩
   ·refine gx_v (.bool true) w14 (run_boolE (decide_eq_true h33) (by kernel_rfl)) ?_
    refine gx_nil ?_
    refine gx_thenN ?_
    refine hK29 _ _ ?_
    refine gx_seq (fun K34 hK35 => ?_)
    refine gx_yes (by kernel_rfl) ?_
    refine gx_pass ?_
    refine gx_thenN ?_
    refine hK35 _ _ ?_
    refine gx_seq (fun K36 hK37 => ?_)
    refine gx_block ?_
    refine gx_seq (fun K38 hK39 => ?_)
    refine gx_region ?_
    refine gx_k (.int .i64 x21) w14 ?_
    obtain ⟨x40, hx41, hL27⟩ := bind_in hL27
    refine gx_v (.pointer (Option.map (fun (p : Addr) => p.add (Int.toNat x21 * 1)) A1)) w14 (run_ixaddr (E := 21) (s := 1) (k := .i64) (c := c1) rfl (by kernel_rfl) (by kernel_rfl) (by kernel_rfl) (fun _ => by kernel_rfl) (ix_in hx41).1 (ix_in hx41).2.1 (num_nil ((St.start _).view (Vw.of hk32.2 hn1)))) ?_
    refine gx_v (.int .i32 x40) w14 (run_loadix rfl (by kernel_rfl) (fun _ => by kernel_rfl) ((St.start _).view (Vw.of hk32.2 hn1)) hx41) ?_
    refine gx_k (.int .i64 x21) w14 (gx_k (.int .i32 x40) w14 ?_)
    refine gx_nil ?_
    refine gx_thenN ?_
    refine hK39 _ _ ?_
    refine gx_seq (fun K42 hK43 => ?_)
    refine gx_region ?_
    refine gx_k (.int .i32 x40) w14 ?_
    obtain ⟨x48, hc45, hL27⟩ := bind_in hL27
    try dsimp only at hL27
    refine gx_c (ucJn_R  x48 w14) (ucJn_ok N x40 _ hc45 w14 ) ?_
    rintro _ w46 ⟨rfl, hT49⟩
    have hS47 : St _ _ w46 [boxE W.heap.size [.int .u8 x17, .int .u8 x18, .int .u8 x19] 36] := hS31.take _ hT49
    refine gx_k (.int .u8 x48) w46 ?_
    refine gx_nil ?_
    refine gx_thenN ?_
    refine hK43 _ _ ?_
    refine gx_seq (fun K50 hK51 => ?_)
    refine gx_seq (fun K52 hK53 => ?_)
    have hJ54 : J its23 [boxE W.heap.size [.int .u8 x17, .int .u8 x18, .int .u8 x19] 36] w46 := hab _ _ _ _ _ hJ30 hS47
    have hS55 : St (feet [boxE W.heap.size [.int .u8 x17, .int .u8 x18, .int .u8 x19] 36]) w46 w46 [boxE W.heap.size [.int .u8 x17, .int .u8 x18, .int .u8 x19] 36] := (hlen _ _ _ hJ54).1
    have hk56 := (hlen _ _ _ hJ54).2
    refine gx_region ?_
    refine gx_k (.int .u8 x48) w46 ?_
    rcases if_in hL27 with ⟨h57, hL27⟩ | ⟨h57, hL27⟩
    ·refine gx_v (.bool true) w46 (run_boolE (decide_eq_true h57) (by kernel_rfl)) ?_
     refine gx_nil ?_
     refine gx_thenN ?_
     refine hK53 _ _ ?_
     refine gx_yes (by kernel_rfl) ?_
     refine gx_exit ?_
     refine gx_thenE ?_
     refine gx_blkE ?_
     refine gx_thenN ?_
     refine hK37 _ _ ?_
     refine gx_region ?_
     refine gx_k (.int .i64 (IntKind.i64.wrap (x21 + 1))) w46 (gx_k (.int .i64 (IntKind.i64.wrap (x21 + 1))) w46 ?_)
     refine gx_nil ?_
     refine gx_thenN ?_
     exact ⟨k26, Nat.lt_succ_self k26, x17, x18, x19, x20, (IntKind.i64.wrap (x21 + 1)), w46, its23, (fun i => List.getD ((.int .i64 x21) :: (.int .i32 x40) :: (.int .u8 x48) :: (.bool true) :: (.int .i64 x21) :: (.pointer (Option.map (fun (p : Addr) => p.add (Int.toNat x21 * 1)) A1)) :: (.int .i32 x40) :: (.int .i32 x40) :: (.int .u8 x48) :: (.int .u8 x48) :: (.bool true) :: (u16 11) :: (u16 12) :: (u16 13) :: (u16 14) :: (u16 15) :: (u16 16) :: (u16 17) :: (u16 18) :: (u16 19) :: (u16 20) :: (u16 21) :: (u16 22) :: (u16 23) :: (u16 24) :: (u16 25) :: (u16 26) :: (.int .i64 (IntKind.i64.wrap (x21 + 1))) :: []) i undef), by kernel_rfl, hL27, hS55, hJ54, hk56⟩
    ·refine gx_v (.bool false) w46 (run_boolE (decide_eq_false h57) (by kernel_rfl)) ?_
     refine gx_nil ?_
     refine gx_thenN ?_
     refine hK53 _ _ ?_
     refine gx_no (by kernel_rfl) ?_
     refine gx_pass ?_
     refine gx_thenN ?_
     refine hK51 _ _ ?_
     refine gx_seq (fun K58 hK59 => ?_)
     refine gx_region ?_
     refine gx_k (.int .u8 x48) w46 (gx_k (.pointer (some ⟨W.heap.size, 2, none⟩)) w46 ?_)
     refine gx_s (st_store (j := 2) (v := (.int .u8 x48)) rfl (by kernel_rfl) (by kernel_rfl) rfl (fun _ => by kernel_rfl) hS55 0 rfl (by show 2 < 3; decide)) ?_
     rintro w60 hS61
     have hS61 : St _ _ w60 [boxE W.heap.size [.int .u8 x17, .int .u8 x18, .int .u8 x48] 36] := hS61
     refine gx_nil ?_
     refine gx_thenN ?_
     refine hK59 _ _ ?_
     refine gx_seq (fun K62 hK63 => ?_)
     refine gx_seq (fun K64 hK65 => ?_)
     have hJ66 : J its23 [boxE W.heap.size [.int .u8 x17, .int .u8 x18, .int .u8 x48] 36] w60 := hab _ _ _ _ _ hJ54 hS61
     have hS67 : St (feet [boxE W.heap.size [.int .u8 x17, .int .u8 x18, .int .u8 x48] 36]) w60 w60 [boxE W.heap.size [.int .u8 x17, .int .u8 x18, .int .u8 x48] 36] := (hlen _ _ _ hJ66).1
     have hk68 := (hlen _ _ _ hJ66).2
     refine gx_region ?_
     refine gx_k (.int .i64 x20) w60 ?_
     rcases if_in hL27 with ⟨h69, hL27⟩ | ⟨h69, hL27⟩
     ·refine gx_v (.bool true) w60 (run_boolE (decide_eq_true h69) (by kernel_rfl)) ?_
      refine gx_k (.bool true) w60 (gx_k (.func (.yield l) #[] #[]) w60 (gx_k (.int .i64 x20) w60 ?_))
      refine gx_v (.agg #[.int .u8 x17, .int .u8 x18, .int .u8 x48]) w60 (run_loadG (d := _) rfl (by kernel_rfl) (hS67.get 0 rfl) rfl rfl (by kernel_rfl)) ?_
      obtain ⟨its70, hL27, hq71⟩ := Option.map_eq_some_iff.1 hL27
      rw [← hq71] at hJ66
      refine gx_yield (fun v w => (v = .bool true ∧ J its70 [boxE W.heap.size [.int .u8 x17, .int .u8 x18, .int .u8 x48] 36] w) ∨ (v = .bool false ∧ Jx [boxE W.heap.size [.int .u8 x17, .int .u8 x18, .int .u8 x48] 36] w)) (by kernel_rfl) (run_yieldcall2 rfl (by kernel_rfl) (by kernel_rfl) (by kernel_rfl)) (yield_out2 (hY _ _ _ _ hJ66)) ?_
      rintro _ w72 (⟨rfl, hJ73⟩ | ⟨rfl, hx75⟩)
      ·have hS76 : St (feet [boxE W.heap.size [.int .u8 x17, .int .u8 x18, .int .u8 x48] 36]) w72 w72 [boxE W.heap.size [.int .u8 x17, .int .u8 x18, .int .u8 x48] 36] := (hlen _ _ _ hJ73).1
       have hk74 := (hlen _ _ _ hJ73).2
       refine gx_k (.bool false) w72 (gx_k (.bool false) w72 ?_)
       refine gx_nil ?_
       refine gx_thenN ?_
       refine hK65 _ _ ?_
       refine gx_no (by kernel_rfl) ?_
       refine gx_pass ?_
       refine gx_thenN ?_
       refine hK63 _ _ ?_
       refine gd_start (fun w => St (feet [boxE W.heap.size [.int .u8 x17, .int .u8 x18, .int .u8 x48] 36]) w72 w [boxE W.heap.size [.int .u8 x17, .int .u8 x18, .int .u8 x48] 36]) 7 #[false, false, false, false, false, false, false] (by kernel_rfl) (by kernel_rfl) ?_
       have hS78 := hS76.drew
       generalize w72.drew = w77 at hS78 ⊢
       refine gv1 0 30 (.int .i64 x21) rfl hS78 ?_
       refine gv1 1 31 (.pointer (some ⟨W.heap.size, 1, none⟩)) rfl hS78 ?_
       refine gu1 2 32 (.int .u8 x18) rfl hS78 (fun w hSw => run_load1 rfl (by kernel_rfl) (fun _ => by kernel_rfl) (hSw.box 0 rfl 1 rfl)) ?_
       refine gv1 3 33 (.int .u8 x48) rfl hS78 ?_
       refine gv1 4 34 (.agg #[.int .u8 x18, .int .u8 x48, .int .u8 0]) rfl hS78 ?_
       refine gv1 5 4 (.int .i64 x21) rfl hS78 ?_
       refine gdSz 6 { dst := none, op := _, type := _, pos := _, after := _, guard := _ } rfl (st_storeG (cs := [.int .u8 x17, .int .u8 x18, .int .u8 x48]) (ds := [.int .u8 x18, .int .u8 x48, .int .u8 0]) rfl (by kernel_rfl) (by kernel_rfl) (by kernel_rfl) rfl rfl hS78 0 rfl) ?_
       rintro w79 hS80
       have hS80 : St _ _ w79 [boxE W.heap.size [.int .u8 x18, .int .u8 x48, .int .u8 0] 36] := hS80
       refine gd_done (by kernel_rfl) ?_
       refine gx_blkN ?_
       refine gx_thenN ?_
       refine hK37 _ _ ?_
       have hJ81 : J its70 [boxE W.heap.size [.int .u8 x18, .int .u8 x48, .int .u8 0] 36] w79 := hab _ _ _ _ _ hJ73 hS80
       have hS82 : St (feet [boxE W.heap.size [.int .u8 x18, .int .u8 x48, .int .u8 0] 36]) w79 w79 [boxE W.heap.size [.int .u8 x18, .int .u8 x48, .int .u8 0] 36] := (hlen _ _ _ hJ81).1
       have hk83 := (hlen _ _ _ hJ81).2
       refine gx_region ?_
       refine gx_k (.int .i64 (IntKind.i64.wrap (x21 + 1))) w79 (gx_k (.int .i64 (IntKind.i64.wrap (x21 + 1))) w79 ?_)
       refine gx_nil ?_
       refine gx_thenN ?_
       exact ⟨k26, Nat.lt_succ_self k26, x18, x48, 0, x21, (IntKind.i64.wrap (x21 + 1)), w79, its70, (fun i => List.getD ((.int .i64 x21) :: (.int .i32 x40) :: (.int .u8 x48) :: (.bool true) :: (.int .i64 x21) :: (.pointer (Option.map (fun (p : Addr) => p.add (Int.toNat x21 * 1)) A1)) :: (.int .i32 x40) :: (.int .i32 x40) :: (.int .u8 x48) :: (.int .u8 x48) :: (.bool false) :: (.int .u8 x48) :: (.pointer (some ⟨W.heap.size, 2, none⟩)) :: (.int .i64 x20) :: (.bool true) :: (.bool true) :: (.func (.yield l) #[] #[]) :: (.int .i64 x20) :: (.agg #[.int .u8 x17, .int .u8 x18, .int .u8 x48]) :: (.bool true) :: (.bool false) :: (.bool false) :: (.int .i64 x21) :: (.pointer (some ⟨W.heap.size, 1, none⟩)) :: (.int .u8 x18) :: (.int .u8 x48) :: (.agg #[.int .u8 x18, .int .u8 x48, .int .u8 0]) :: (.int .i64 (IntKind.i64.wrap (x21 + 1))) :: []) i undef), by kernel_rfl, hL27, hS82, hJ81, hk83⟩
      ·have hS76 : St (feet [boxE W.heap.size [.int .u8 x17, .int .u8 x18, .int .u8 x48] 36]) w72 w72 [boxE W.heap.size [.int .u8 x17, .int .u8 x18, .int .u8 x48] 36] := hlenx _ _ hx75
       refine gx_k (.bool true) w72 (gx_k (.bool true) w72 ?_)
       refine gx_nil ?_
       refine gx_thenN ?_
       refine hK65 _ _ ?_
       refine gx_yes (by kernel_rfl) ?_
       refine gx_ret ?_
       refine gx_thenR ?_
       refine gx_blkR ?_
       refine gx_thenR ?_
       refine gx_thenR ?_
       refine gx_blkR ?_
       refine gx_thenR ?_
       exact gx_fin (.tuple #[]) (by kernel_rfl) (by kernel_rfl) ⟨⟨_, rfl⟩, _, .inr (habx _ _ _ _ hx75 hS76)⟩
     ·refine gx_v (.bool false) w60 (run_boolE (decide_eq_false h69) (by kernel_rfl)) ?_
      refine gx_k (.bool false) w60 (gx_o (gx_o (gx_o (gx_o (gx_o (gx_k (.bool false) w60 ?_))))))
      refine gx_nil ?_
      refine gx_thenN ?_
      refine hK65 _ _ ?_
      refine gx_no (by kernel_rfl) ?_
      refine gx_pass ?_
      refine gx_thenN ?_
      refine hK63 _ _ ?_
      refine gd_start (fun w => St (feet [boxE W.heap.size [.int .u8 x17, .int .u8 x18, .int .u8 x48] 36]) w60 w [boxE W.heap.size [.int .u8 x17, .int .u8 x18, .int .u8 x48] 36]) 7 #[false, false, false, false, false, false, false] (by kernel_rfl) (by kernel_rfl) ?_
      have hS85 := hS67.drew
      generalize w60.drew = w84 at hS85 ⊢
      refine gv1 0 30 (.int .i64 x21) rfl hS85 ?_
      refine gv1 1 31 (.pointer (some ⟨W.heap.size, 1, none⟩)) rfl hS85 ?_
      refine gu1 2 32 (.int .u8 x18) rfl hS85 (fun w hSw => run_load1 rfl (by kernel_rfl) (fun _ => by kernel_rfl) (hSw.box 0 rfl 1 rfl)) ?_
      refine gv1 3 33 (.int .u8 x48) rfl hS85 ?_
      refine gv1 4 34 (.agg #[.int .u8 x18, .int .u8 x48, .int .u8 0]) rfl hS85 ?_
      refine gv1 5 4 (.int .i64 x21) rfl hS85 ?_
      refine gdSz 6 { dst := none, op := _, type := _, pos := _, after := _, guard := _ } rfl (st_storeG (cs := [.int .u8 x17, .int .u8 x18, .int .u8 x48]) (ds := [.int .u8 x18, .int .u8 x48, .int .u8 0]) rfl (by kernel_rfl) (by kernel_rfl) (by kernel_rfl) rfl rfl hS85 0 rfl) ?_
      rintro w86 hS87
      have hS87 : St _ _ w86 [boxE W.heap.size [.int .u8 x18, .int .u8 x48, .int .u8 0] 36] := hS87
      refine gd_done (by kernel_rfl) ?_
      refine gx_blkN ?_
      refine gx_thenN ?_
      refine hK37 _ _ ?_
      have hJ88 : J its23 [boxE W.heap.size [.int .u8 x18, .int .u8 x48, .int .u8 0] 36] w86 := hab _ _ _ _ _ hJ66 hS87
      have hS89 : St (feet [boxE W.heap.size [.int .u8 x18, .int .u8 x48, .int .u8 0] 36]) w86 w86 [boxE W.heap.size [.int .u8 x18, .int .u8 x48, .int .u8 0] 36] := (hlen _ _ _ hJ88).1
      have hk90 := (hlen _ _ _ hJ88).2
      refine gx_region ?_
      refine gx_k (.int .i64 (IntKind.i64.wrap (x21 + 1))) w86 (gx_k (.int .i64 (IntKind.i64.wrap (x21 + 1))) w86 ?_)
      refine gx_nil ?_
      refine gx_thenN ?_
      exact ⟨k26, Nat.lt_succ_self k26, x18, x48, 0, x21, (IntKind.i64.wrap (x21 + 1)), w86, its23, (fun i => List.getD ((.int .i64 x21) :: (.int .i32 x40) :: (.int .u8 x48) :: (.bool true) :: (.int .i64 x21) :: (.pointer (Option.map (fun (p : Addr) => p.add (Int.toNat x21 * 1)) A1)) :: (.int .i32 x40) :: (.int .i32 x40) :: (.int .u8 x48) :: (.int .u8 x48) :: (.bool false) :: (.int .u8 x48) :: (.pointer (some ⟨W.heap.size, 2, none⟩)) :: (.int .i64 x20) :: (.bool false) :: (.bool false) :: undef :: undef :: undef :: undef :: undef :: (.bool false) :: (.int .i64 x21) :: (.pointer (some ⟨W.heap.size, 1, none⟩)) :: (.int .u8 x18) :: (.int .u8 x48) :: (.agg #[.int .u8 x18, .int .u8 x48, .int .u8 0]) :: (.int .i64 (IntKind.i64.wrap (x21 + 1))) :: []) i undef), by kernel_rfl, hL27, hS89, hJ88, hk90⟩
   ·refine gx_v (.bool false) w14 (run_boolE (decide_eq_false h33) (by kernel_rfl)) ?_
    refine gx_nil ?_
    refine gx_thenN ?_
    refine hK29 _ _ ?_
    refine gx_seq (fun K91 hK92 => ?_)
    refine gx_no (by kernel_rfl) ?_
    refine gx_exit ?_
    refine gx_thenE ?_
    refine gx_thenE ?_
    refine gx_blkE ?_
    refine gx_thenN ?_
    refine hK11 _ _ ?_
    refine gx_seq (fun K93 hK94 => ?_)
    refine gx_region ?_
    refine gx_k (.int .i64 x20) w14 ?_
    rcases if_in hL27 with ⟨h95, hL27⟩ | ⟨h95, hL27⟩
    ·refine gx_v (.bool true) w14 (run_boolE (decide_eq_true h95) (by kernel_rfl)) ?_
     refine gx_nil ?_
     refine gx_thenN ?_
     refine hK94 _ _ ?_
     refine gx_yes (by kernel_rfl) ?_
     refine gx_region ?_
     refine gx_k (.func (.yield l) #[] #[]) w14 (gx_k (.int .i64 x20) w14 ?_)
     refine gx_v (.agg #[.int .u8 x17, .int .u8 x18, .int .u8 x19]) w14 (run_loadG (d := _) rfl (by kernel_rfl) (hS31.get 0 rfl) rfl rfl (by kernel_rfl)) ?_
     obtain ⟨its96, hL27, hq97⟩ := Option.map_eq_some_iff.1 hL27
     rw [← hq97] at hJ30
     refine gx_yield (fun v w => (v = .bool true ∧ J its96 [boxE W.heap.size [.int .u8 x17, .int .u8 x18, .int .u8 x19] 36] w) ∨ (v = .bool false ∧ Jx [boxE W.heap.size [.int .u8 x17, .int .u8 x18, .int .u8 x19] 36] w)) (by kernel_rfl) (run_yieldcall2 rfl (by kernel_rfl) (by kernel_rfl) (by kernel_rfl)) (yield_out2 (hY _ _ _ _ hJ30)) ?_
     rintro _ w98 (⟨rfl, hJ99⟩ | ⟨rfl, hx101⟩)
     ·have hS102 : St (feet [boxE W.heap.size [.int .u8 x17, .int .u8 x18, .int .u8 x19] 36]) w98 w98 [boxE W.heap.size [.int .u8 x17, .int .u8 x18, .int .u8 x19] 36] := (hlen _ _ _ hJ99).1
      have hk100 := (hlen _ _ _ hJ99).2
      refine gx_nil ?_
      obtain rfl := Option.some.inj hL27
      exact gx_finN (.tuple #[]) (by kernel_rfl) (by kernel_rfl) ⟨⟨_, rfl⟩, _, .inl (hab _ _ _ _ _ hJ99 hS102)⟩
     ·have hS102 : St (feet [boxE W.heap.size [.int .u8 x17, .int .u8 x18, .int .u8 x19] 36]) w98 w98 [boxE W.heap.size [.int .u8 x17, .int .u8 x18, .int .u8 x19] 36] := hlenx _ _ hx101
      refine gx_nil ?_
      exact gx_finN (.tuple #[]) (by kernel_rfl) (by kernel_rfl) ⟨⟨_, rfl⟩, _, .inr (habx _ _ _ _ hx101 hS102)⟩
    ·refine gx_v (.bool false) w14 (run_boolE (decide_eq_false h95) (by kernel_rfl)) ?_
     refine gx_nil ?_
     refine gx_thenN ?_
     refine hK94 _ _ ?_
     refine gx_no (by kernel_rfl) ?_
     refine gx_pass ?_
     obtain rfl := Option.some.inj hL27
     exact gx_finN (.tuple #[]) (by kernel_rfl) (by kernel_rfl) ⟨⟨_, rfl⟩, _, .inl (hab _ _ _ _ _ hJ30 hS31)⟩

end Go.Proofs.YtbdhgjaoojimmaaDoor
