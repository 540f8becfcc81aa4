/-
  slices.Sort, walked.
-/
import Derived.Test.YtcleaepcjbfmhaaGu
namespace Go.Proofs.Ytcleaepcjbfmhaa
open Go Go.RowKit
set_option linter.unusedVariables false

def zNaN (_N : Nat) (p0 : Int) : Option (Bool) :=
 some (p0 != p0)

set_option linter.unusedVariables false in
def zNaN_R (r : Bool) (w0 : World) (v : Value) (w : World) : Prop := v = .bool r ∧ St [] w0 w []

set_option maxRecDepth 100000 in
set_option maxHeartbeats 4000000 in
theorem zNaN_ok (N : Nat) (p0 : Int)  (r : Bool) (hF : zNaN N p0 = some r) (w0 : World)  :
  Calls Try.prog 75 #[.int .u16 p0] w0 fun e w => ∃ v, e = .returned v ∧ zNaN_R r w0 v w := by
 have hS0 := St.start w0
 unfold zNaN at hF
 refine calls_of Try.func75 rfl ⟨((.int .u16 p0) :: un 5 ([])).toArray, []⟩ (by kernel_rfl) ?_
 refine gx_seq (fun K1 hK2 => ?_)
 refine gx_region ?_
 refine gx_k (.bool false) w0 ?_
 refine gx_nil ?_
 refine gx_thenN ?_
 refine hK2 _ _ ?_
 refine gx_seq (fun K3 hK4 => ?_)
 refine gx_region ?_
 refine gx_k (.int .u16 p0) w0 (gx_k (.int .u16 p0) w0 (gx_k (.bool (p0 != p0)) w0 (gx_k (.bool (p0 != p0)) w0 ?_)))
 refine gx_nil ?_
 refine gx_thenN ?_
 refine hK4 _ _ ?_
 refine gx_ret ?_
 obtain rfl := Option.some.inj hF
 exact gx_fin (.bool (p0 != p0)) (by kernel_rfl) (by kernel_rfl) ⟨_, rfl, rfl, hS0⟩

def zLess (N : Nat) (p0 : Int) (p1 : Int) : Option (Bool) :=
 ((zNaN N p0).bind fun b7 => (match b7 with | true => ((zNaN N p1).bind fun b13 => (match b13 with | true => some (decide (p0 < p1)) | false => some true)) | false => some (decide (p0 < p1))))

set_option linter.unusedVariables false in
def zLess_R (r : Bool) (w0 : World) (v : Value) (w : World) : Prop := v = .bool r ∧ St [] w0 w []

set_option maxRecDepth 100000 in
set_option maxHeartbeats 4000000 in
theorem zLess_ok (N : Nat) (p0 : Int) (p1 : Int)  (r : Bool) (hF : zLess N p0 p1 = some r) (w0 : World)  :
  Calls Try.prog 60 #[.int .u16 p0, .int .u16 p1] w0 fun e w => ∃ v, e = .returned v ∧ zLess_R r w0 v w := by
 have hS0 := St.start w0
 unfold zLess at hF
 refine calls_of Try.func60 rfl ⟨((.int .u16 p0) :: (.int .u16 p1) :: un 15 ([])).toArray, []⟩ (by kernel_rfl) ?_
 refine gx_seq (fun K1 hK2 => ?_)
 refine gx_region ?_
 refine gx_k (.bool false) w0 ?_
 refine gx_nil ?_
 refine gx_thenN ?_
 refine hK2 _ _ ?_
 refine gx_seq (fun K3 hK4 => ?_)
 refine gx_region ?_
 refine gx_k (.int .u16 p0) w0 ?_
 have hP5 : St _ _ w0 ([] ++ []) := hS0
 obtain ⟨b7, hc6, hF⟩ := bind_in hF
 try dsimp only at hF
 refine gx_c (zNaN_R b7 w0) (zNaN_ok N p0 _ hc6 w0 ) ?_
 rintro _ w8 ⟨rfl, hT10⟩
 have hS9 : St _ _ w8 [] := hS0.take _ hT10
 refine gx_k (.bool b7) w8 ?_
 cases b7 with
 | true =>
  try dsimp only at hF
  refine gx_k (.int .u16 p1) w8 ?_
  have hP11 : St _ _ w8 ([] ++ []) := hS9
  obtain ⟨b13, hc12, hF⟩ := bind_in hF
  try dsimp only at hF
  refine gx_c (zNaN_R b13 w8) (zNaN_ok N p1 _ hc12 w8 ) ?_
  rintro _ w14 ⟨rfl, hT16⟩
  have hS15 : St _ _ w14 [] := hS9.take _ hT16
  cases b13 with
  | true =>
   try dsimp only at hF
   refine gx_k (.bool false) w14 (gx_k (.bool false) w14 (gx_k (.bool false) w14 (gx_k (.int .u16 p0) w14 (gx_k (.int .u16 p1) w14 (gx_k (.bool (decide (p0 < p1))) w14 (gx_k (.bool (decide (p0 < p1))) w14 (gx_k (.bool (decide (p0 < p1))) w14 ?_)))))))
   refine gx_nil ?_
   refine gx_thenN ?_
   refine hK4 _ _ ?_
   refine gx_ret ?_
   obtain rfl := Option.some.inj hF
   exact gx_fin (.bool (decide (p0 < p1))) (by kernel_rfl) (by kernel_rfl) ⟨_, rfl, rfl, hS15⟩
  | false =>
   try dsimp only at hF
   refine gx_k (.bool true) w14 (gx_k (.bool true) w14 (gx_k (.bool true) w14 (gx_o (gx_o (gx_o (gx_k (.bool true) w14 (gx_k (.bool true) w14 ?_)))))))
   refine gx_nil ?_
   refine gx_thenN ?_
   refine hK4 _ _ ?_
   refine gx_ret ?_
   obtain rfl := Option.some.inj hF
   exact gx_fin (.bool true) (by kernel_rfl) (by kernel_rfl) ⟨_, rfl, rfl, hS15⟩
 | false =>
  try dsimp only at hF
  refine gx_o (gx_o (gx_o (gx_k (.bool false) w8 (gx_k (.bool false) w8 (gx_k (.int .u16 p0) w8 (gx_k (.int .u16 p1) w8 (gx_k (.bool (decide (p0 < p1))) w8 ?_)))))))
  refine gx_k (.bool (decide (p0 < p1))) w8 (gx_k (.bool (decide (p0 < p1))) w8 ?_)
  refine gx_nil ?_
  refine gx_thenN ?_
  refine hK4 _ _ ?_
  refine gx_ret ?_
  obtain rfl := Option.some.inj hF
  exact gx_fin (.bool (decide (p0 < p1))) (by kernel_rfl) (by kernel_rfl) ⟨_, rfl, rfl, hS9⟩

def tab_zLen64 : ByteArray := ⟨([0, 1, 2, 2, 3, 3, 3, 3, 4, 4, 4, 4, 4, 4, 4, 4, 5, 5, 5, 5, 5, 5, 5, 5, 5, 5, 5, 5, 5, 5, 5, 5] ++ [6, 6, 6, 6, 6, 6, 6, 6, 6, 6, 6, 6, 6, 6, 6, 6, 6, 6, 6, 6, 6, 6, 6, 6, 6, 6, 6, 6, 6, 6, 6, 6] ++ [7, 7, 7, 7, 7, 7, 7, 7, 7, 7, 7, 7, 7, 7, 7, 7, 7, 7, 7, 7, 7, 7, 7, 7, 7, 7, 7, 7, 7, 7, 7, 7] ++ [7, 7, 7, 7, 7, 7, 7, 7, 7, 7, 7, 7, 7, 7, 7, 7, 7, 7, 7, 7, 7, 7, 7, 7, 7, 7, 7, 7, 7, 7, 7, 7] ++ [8, 8, 8, 8, 8, 8, 8, 8, 8, 8, 8, 8, 8, 8, 8, 8, 8, 8, 8, 8, 8, 8, 8, 8, 8, 8, 8, 8, 8, 8, 8, 8] ++ [8, 8, 8, 8, 8, 8, 8, 8, 8, 8, 8, 8, 8, 8, 8, 8, 8, 8, 8, 8, 8, 8, 8, 8, 8, 8, 8, 8, 8, 8, 8, 8] ++ [8, 8, 8, 8, 8, 8, 8, 8, 8, 8, 8, 8, 8, 8, 8, 8, 8, 8, 8, 8, 8, 8, 8, 8, 8, 8, 8, 8, 8, 8, 8, 8] ++ [8, 8, 8, 8, 8, 8, 8, 8, 8, 8, 8, 8, 8, 8, 8, 8, 8, 8, 8, 8, 8, 8, 8, 8, 8, 8, 8, 8, 8, 8, 8, 8] : List UInt8).toArray⟩

def zLen64 (_N : Nat) (p0 : Int) : Option (Int) :=
 (((if p0 ≥ 4294967296 then some (((Int.fdiv p0 4294967296), 32)) else some ((p0, 0))) : Option (Int × Int)).bind fun (x6, x7) => (((if x6 ≥ 65536 then some (((Int.fdiv x6 65536), (IntKind.i64.wrap (x7 + 16)))) else some ((x6, x7))) : Option (Int × Int)).bind fun (x19, x20) => (((if x19 ≥ 256 then some (((Int.fdiv x19 256), (IntKind.i64.wrap (x20 + 8)))) else some ((x19, x20))) : Option (Int × Int)).bind fun (x32, x33) => ((ix (strL tab_zLen64) (IntKind.u8.wrap x32)).bind fun x44 => some (IntKind.i64.wrap (x33 + (IntKind.i64.wrap x44)))))))

set_option linter.unusedVariables false in
def zLen64_R (r : Int) (w0 : World) (v : Value) (w : World) : Prop := v = .int .i64 r ∧ St [] w0 w []

set_option maxRecDepth 100000 in
set_option maxHeartbeats 4000000 in
theorem zLen64_ok (N : Nat) (p0 : Int)  (r : Int) (hF : zLen64 N p0 = some r) (w0 : World)  :
  Calls Try.prog 64 #[.int .u64 p0] w0 fun e w => ∃ v, e = .returned v ∧ zLen64_R r w0 v w := by
 have hS0 := St.start w0
 unfold zLen64 at hF
 refine calls_of Try.func64 rfl ⟨((.int .u64 p0) :: un 24 ([])).toArray, []⟩ (by kernel_rfl) ?_
 refine gx_seq (fun K1 hK2 => ?_)
 refine gx_region ?_
 refine gx_k (.int .i64 0) w0 ?_
 refine gx_nil ?_
 refine gx_thenN ?_
 refine hK2 _ _ ?_
 obtain ⟨c8, hE9, hO10⟩ := bind_in hF
 refine gx_cut (fun a w => ∃ (x6 : Int) (x7 : Int), selfA (fun u5 => ⟨((.int .u64 x6) :: undef :: (.int .i64 x7) :: dd u5 3 4 (un 18 ([]))).toArray, []⟩) a ∧ (x6, x7) = c8 ∧ St [] w0 w []) ?_ ?_
 ·refine gx_seq (fun K11 hK12 => ?_)
  refine gx_region ?_
  refine gx_k (.int .u64 p0) w0 ?_
  rcases if_in hE9 with ⟨h13, hE9⟩ | ⟨h13, hE9⟩
  ·refine gx_v (.bool true) w0 (run_boolE (decide_eq_true h13) (by kernel_rfl)) ?_
   refine gx_nil ?_
   refine gx_thenN ?_
   refine hK12 _ _ ?_
   refine gx_yes (by kernel_rfl) ?_
   refine gx_seq (fun K14 hK15 => ?_)
   refine gx_region ?_
   refine gx_k (.int .u64 p0) w0 (gx_k (.int .u64 (Int.fdiv p0 4294967296)) w0 (gx_k (.int .u64 (Int.fdiv p0 4294967296)) w0 ?_))
   refine gx_nil ?_
   refine gx_thenN ?_
   refine hK15 _ _ ?_
   refine gx_region ?_
   refine gx_k (.int .i64 32) w0 ?_
   refine gx_nil ?_
   refine gx_thenN ?_
   exact ⟨(Int.fdiv p0 4294967296), 32, selfA_i (by kernel_rfl), (Option.some.inj hE9), hS0⟩
  ·refine gx_v (.bool false) w0 (run_boolE (decide_eq_false h13) (by kernel_rfl)) ?_
   refine gx_nil ?_
   refine gx_thenN ?_
   refine hK12 _ _ ?_
   refine gx_no (by kernel_rfl) ?_
   refine gx_pass ?_
   refine gx_thenN ?_
   exact ⟨p0, 0, selfA_i (by kernel_rfl), (Option.some.inj hE9), hS0⟩
 ·rintro _ w3 ⟨x6, x7, hq48, rfl, hS4⟩
  obtain ⟨u5, rfl⟩ := selfA_u hq48
  try dsimp only at hO10
  obtain ⟨c21, hE22, hO23⟩ := bind_in hO10
  refine gx_cut (fun a w => ∃ (x19 : Int) (x20 : Int), selfA (fun u18 => ⟨((.int .u64 x19) :: undef :: (.int .i64 x20) :: dd u5 3 4 (dd u18 7 6 (un 12 ([])))).toArray, []⟩) a ∧ (x19, x20) = c21 ∧ St [] w0 w []) ?_ ?_
  ·refine gx_seq (fun K24 hK25 => ?_)
   refine gx_region ?_
   refine gx_k (.int .u64 x6) w3 ?_
   rcases if_in hE22 with ⟨h26, hE22⟩ | ⟨h26, hE22⟩
   ·refine gx_v (.bool true) w3 (run_boolE (decide_eq_true h26) (by kernel_rfl)) ?_
    refine gx_nil ?_
    refine gx_thenN ?_
    refine hK25 _ _ ?_
    refine gx_yes (by kernel_rfl) ?_
    refine gx_seq (fun K27 hK28 => ?_)
    refine gx_region ?_
    refine gx_k (.int .u64 x6) w3 (gx_k (.int .u64 (Int.fdiv x6 65536)) w3 (gx_k (.int .u64 (Int.fdiv x6 65536)) w3 ?_))
    refine gx_nil ?_
    refine gx_thenN ?_
    refine hK28 _ _ ?_
    refine gx_region ?_
    refine gx_k (.int .i64 x7) w3 (gx_k (.int .i64 (IntKind.i64.wrap (x7 + 16))) w3 (gx_k (.int .i64 (IntKind.i64.wrap (x7 + 16))) w3 ?_))
    refine gx_nil ?_
    refine gx_thenN ?_
    exact ⟨(Int.fdiv x6 65536), (IntKind.i64.wrap (x7 + 16)), selfA_i (by kernel_rfl), (Option.some.inj hE22), hS4⟩
   ·refine gx_v (.bool false) w3 (run_boolE (decide_eq_false h26) (by kernel_rfl)) ?_
    refine gx_nil ?_
    refine gx_thenN ?_
    refine hK25 _ _ ?_
    refine gx_no (by kernel_rfl) ?_
    refine gx_pass ?_
    refine gx_thenN ?_
    exact ⟨x6, x7, selfA_i (by kernel_rfl), (Option.some.inj hE22), hS4⟩
  ·rintro _ w16 ⟨x19, x20, hq47, rfl, hS17⟩
   obtain ⟨u18, rfl⟩ := selfA_u hq47
   try dsimp only at hO23
   obtain ⟨c34, hE35, hO36⟩ := bind_in hO23
   refine gx_cut (fun a w => ∃ (x32 : Int) (x33 : Int), selfA (fun u31 => ⟨((.int .u64 x32) :: undef :: (.int .i64 x33) :: dd u5 3 4 (dd u18 7 6 (dd u31 13 6 (un 6 ([]))))).toArray, []⟩) a ∧ (x32, x33) = c34 ∧ St [] w0 w []) ?_ ?_
   ·refine gx_seq (fun K37 hK38 => ?_)
    refine gx_region ?_
    refine gx_k (.int .u64 x19) w16 ?_
    rcases if_in hE35 with ⟨h39, hE35⟩ | ⟨h39, hE35⟩
    ·refine gx_v (.bool true) w16 (run_boolE (decide_eq_true h39) (by kernel_rfl)) ?_
     refine gx_nil ?_
     refine gx_thenN ?_
     refine hK38 _ _ ?_
     refine gx_yes (by kernel_rfl) ?_
     refine gx_seq (fun K40 hK41 => ?_)
     refine gx_region ?_
     refine gx_k (.int .u64 x19) w16 (gx_k (.int .u64 (Int.fdiv x19 256)) w16 (gx_k (.int .u64 (Int.fdiv x19 256)) w16 ?_))
     refine gx_nil ?_
     refine gx_thenN ?_
     refine hK41 _ _ ?_
     refine gx_region ?_
     refine gx_k (.int .i64 x20) w16 (gx_k (.int .i64 (IntKind.i64.wrap (x20 + 8))) w16 (gx_k (.int .i64 (IntKind.i64.wrap (x20 + 8))) w16 ?_))
     refine gx_nil ?_
     refine gx_thenN ?_
     exact ⟨(Int.fdiv x19 256), (IntKind.i64.wrap (x20 + 8)), selfA_i (by kernel_rfl), (Option.some.inj hE35), hS17⟩
    ·refine gx_v (.bool false) w16 (run_boolE (decide_eq_false h39) (by kernel_rfl)) ?_
     refine gx_nil ?_
     refine gx_thenN ?_
     refine hK38 _ _ ?_
     refine gx_no (by kernel_rfl) ?_
     refine gx_pass ?_
     refine gx_thenN ?_
     exact ⟨x19, x20, selfA_i (by kernel_rfl), (Option.some.inj hE35), hS17⟩
   ·rintro _ w29 ⟨x32, x33, hq46, rfl, hS30⟩
    obtain ⟨u31, rfl⟩ := selfA_u hq46
    try dsimp only at hO36
    refine gx_seq (fun K42 hK43 => ?_)
    refine gx_region ?_
    refine gx_k (.int .i64 x33) w29 (gx_k (.int .u64 x32) w29 (gx_k (.int .u8 (IntKind.u8.wrap x32)) w29 ?_))
    obtain ⟨x44, hx45, hO36⟩ := bind_in hO36
    refine gx_v (.int .u8 x44) w29 (run_strix (k := .u8) rfl (by kernel_rfl) (by kernel_rfl) (by kernel_rfl) hx45) ?_
    refine gx_k (.int .i64 (IntKind.i64.wrap x44)) w29 (gx_k (.int .i64 (IntKind.i64.wrap (x33 + (IntKind.i64.wrap x44)))) w29 (gx_k (.int .i64 (IntKind.i64.wrap (x33 + (IntKind.i64.wrap x44)))) w29 ?_))
    refine gx_nil ?_
    refine gx_thenN ?_
    refine hK43 _ _ ?_
    refine gx_ret ?_
    obtain rfl := Option.some.inj hO36
    exact gx_fin (.int .i64 (IntKind.i64.wrap (x33 + (IntKind.i64.wrap x44)))) (by kernel_rfl) (by kernel_rfl) ⟨_, rfl, rfl, hS30⟩

def zLen (N : Nat) (p0 : Int) : Option (Int) :=
 ((zLen64 N p0).bind fun x9 => some x9)

set_option linter.unusedVariables false in
def zLen_R (r : Int) (w0 : World) (v : Value) (w : World) : Prop := v = .int .i64 r ∧ St [] w0 w []

set_option maxRecDepth 100000 in
set_option maxHeartbeats 4000000 in
theorem zLen_ok (N : Nat) (p0 : Int)  (r : Int) (hF : zLen N p0 = some r) (w0 : World)  :
  Calls Try.prog 42 #[.int .u64 p0] w0 fun e w => ∃ v, e = .returned v ∧ zLen_R r w0 v w := by
 have hS0 := St.start w0
 unfold zLen at hF
 refine calls_of Try.func42 rfl ⟨((.int .u64 p0) :: un 7 ([])).toArray, []⟩ (by kernel_rfl) ?_
 refine gx_seq (fun K1 hK2 => ?_)
 refine gx_region ?_
 refine gx_k (.int .i64 0) w0 ?_
 refine gx_nil ?_
 refine gx_thenN ?_
 refine hK2 _ _ ?_
 refine gx_seq (fun K3 hK4 => ?_)
 refine gx_no (by kernel_rfl) ?_
 refine gx_pass ?_
 refine gx_thenN ?_
 refine hK4 _ _ ?_
 refine gx_seq (fun K5 hK6 => ?_)
 refine gx_region ?_
 refine gx_k (.int .u64 p0) w0 ?_
 have hP7 : St _ _ w0 ([] ++ []) := hS0
 obtain ⟨x9, hc8, hF⟩ := bind_in hF
 try dsimp only at hF
 refine gx_c (zLen64_R x9 w0) (zLen64_ok N p0 _ hc8 w0 ) ?_
 rintro _ w10 ⟨rfl, hT12⟩
 have hS11 : St _ _ w10 [] := hS0.take _ hT12
 refine gx_k (.int .i64 x9) w10 ?_
 refine gx_nil ?_
 refine gx_thenN ?_
 refine hK6 _ _ ?_
 refine gx_ret ?_
 obtain rfl := Option.some.inj hF
 exact gx_fin (.int .i64 x9) (by kernel_rfl) (by kernel_rfl) ⟨_, rfl, rfl, hS11⟩

def zPow (N : Nat) (p0 : Int) : Option (Int) :=
 ((zLen N (IntKind.u64.wrap p0)).bind fun x7 => (if x7 < 0 then none else some (ishl .u64 1 x7)))

set_option linter.unusedVariables false in
def zPow_R (r : Int) (w0 : World) (v : Value) (w : World) : Prop := v = .int .u64 r ∧ St [] w0 w []

set_option maxRecDepth 100000 in
set_option maxHeartbeats 4000000 in
theorem zPow_ok (N : Nat) (p0 : Int)  (r : Int) (hF : zPow N p0 = some r) (w0 : World)  :
  Calls Try.prog 71 #[.int .i64 p0] w0 fun e w => ∃ v, e = .returned v ∧ zPow_R r w0 v w := by
 have hS0 := St.start w0
 unfold zPow at hF
 refine calls_of Try.func71 rfl ⟨((.int .i64 p0) :: un 6 ([])).toArray, []⟩ (by kernel_rfl) ?_
 refine gx_seq (fun K1 hK2 => ?_)
 refine gx_region ?_
 refine gx_k (.int .u64 0) w0 ?_
 refine gx_nil ?_
 refine gx_thenN ?_
 refine hK2 _ _ ?_
 refine gx_seq (fun K3 hK4 => ?_)
 refine gx_region ?_
 refine gx_k (.int .i64 p0) w0 (gx_k (.int .u64 (IntKind.u64.wrap p0)) w0 ?_)
 have hP5 : St _ _ w0 ([] ++ []) := hS0
 obtain ⟨x7, hc6, hF⟩ := bind_in hF
 try dsimp only at hF
 refine gx_c (zLen_R x7 w0) (zLen_ok N (IntKind.u64.wrap p0) _ hc6 w0 ) ?_
 rintro _ w8 ⟨rfl, hT10⟩
 have hS9 : St _ _ w8 [] := hS0.take _ hT10
 rcases if_in hF with ⟨h11, hF⟩ | ⟨h11, hF⟩
 ·cases hF
 ·refine gx_v (.int .u64 (ishl .u64 1 x7)) w8 (run_shl (k2 := .i64) rfl (by kernel_rfl) (by kernel_rfl) h11) ?_
  refine gx_k (.int .u64 (ishl .u64 1 x7)) w8 ?_
  refine gx_nil ?_
  refine gx_thenN ?_
  refine hK4 _ _ ?_
  refine gx_ret ?_
  obtain rfl := Option.some.inj hF
  exact gx_fin (.int .u64 (ishl .u64 1 x7)) (by kernel_rfl) (by kernel_rfl) ⟨_, rfl, rfl, hS9⟩

def zXor (_N : Nat) (p0_0 : Int) : Option (Int × Int) :=
 some ((ixor .u64 (ixor .u64 (ixor .u64 p0_0 (IntKind.u64.wrap (p0_0 * 8192))) (Int.fdiv (ixor .u64 p0_0 (IntKind.u64.wrap (p0_0 * 8192))) 128)) (IntKind.u64.wrap ((ixor .u64 (ixor .u64 p0_0 (IntKind.u64.wrap (p0_0 * 8192))) (Int.fdiv (ixor .u64 p0_0 (IntKind.u64.wrap (p0_0 * 8192))) 128)) * 131072))), (ixor .u64 (ixor .u64 (ixor .u64 p0_0 (IntKind.u64.wrap (p0_0 * 8192))) (Int.fdiv (ixor .u64 p0_0 (IntKind.u64.wrap (p0_0 * 8192))) 128)) (IntKind.u64.wrap ((ixor .u64 (ixor .u64 p0_0 (IntKind.u64.wrap (p0_0 * 8192))) (Int.fdiv (ixor .u64 p0_0 (IntKind.u64.wrap (p0_0 * 8192))) 128)) * 131072))))

set_option linter.unusedVariables false in
def zXor_R (p0_0 : Int) (g0 : Nat) (r : Int × Int) (w0 : World) (v : Value) (w : World) : Prop := v = .int .u64 r.1 ∧ St (foots [boxE g0 [.int .u64 p0_0] 121]) w0 w [boxE g0 [.int .u64 r.2] 121]

set_option maxRecDepth 100000 in
set_option maxHeartbeats 4000000 in
theorem zXor_ok (N : Nat) (p0_0 : Int) (g0 : Nat) (r : Int × Int) (hF : zXor N p0_0 = some r) (w0 : World) (hl : St (foots [boxE g0 [.int .u64 p0_0] 121]) w0 w0 [boxE g0 [.int .u64 p0_0] 121]) :
  Calls Try.prog 72 #[.pointer (some ⟨g0, 0, none⟩)] w0 fun e w => ∃ v, e = .returned v ∧ zXor_R p0_0 g0 r w0 v w := by
 have hS0 := hl
 unfold zXor at hF
 refine calls_of Try.func72 rfl ⟨((.pointer (some ⟨g0, 0, none⟩)) :: un 32 ([])).toArray, []⟩ (by kernel_rfl) ?_
 refine gx_seq (fun K1 hK2 => ?_)
 refine gx_region ?_
 refine gx_k (.int .u64 0) w0 ?_
 refine gx_nil ?_
 refine gx_thenN ?_
 refine hK2 _ _ ?_
 refine gx_seq (fun K3 hK4 => ?_)
 refine gd_start (fun w => St (foots [boxE g0 [.int .u64 p0_0] 121]) w0 w []) 10 #[false, false, false, false, false, false, false, false, false, false] (by kernel_rfl) (by kernel_rfl) ?_
 have hS7 := hS0.drew
 generalize w0.drew = w6 at hS7 ⊢
 refine gd_share (X := Unit) (fun _ => ⟨((.pointer (some ⟨g0, 0, none⟩)) :: undef :: (.int .u64 0) :: (.pointer (some ⟨g0, 0, none⟩)) :: (.pointer (some ⟨g0, 0, none⟩)) :: (.int .u64 p0_0) :: (.pointer (some ⟨g0, 0, none⟩)) :: (.pointer (some ⟨g0, 0, none⟩)) :: (.int .u64 p0_0) :: (.int .u64 (IntKind.u64.wrap (p0_0 * 8192))) :: (.int .u64 (ixor .u64 p0_0 (IntKind.u64.wrap (p0_0 * 8192)))) :: (.pointer (some ⟨g0, 0, none⟩)) :: un 21 ([])).toArray, []⟩) (fun _ w => St (foots [boxE g0 [.int .u64 p0_0] 121]) w0 w [boxE g0 [.int .u64 (ixor .u64 p0_0 (IntKind.u64.wrap (p0_0 * 8192)))] 121]) ?_ ?_
 ·rintro _ w8 hS9
  have hS9 : St _ _ w8 [boxE g0 [.int .u64 (ixor .u64 p0_0 (IntKind.u64.wrap (p0_0 * 8192)))] 121] := hS9
  show WQ _ _ ⟨((.pointer (some ⟨g0, 0, none⟩)) :: undef :: (.int .u64 0) :: (.pointer (some ⟨g0, 0, none⟩)) :: (.pointer (some ⟨g0, 0, none⟩)) :: (.int .u64 p0_0) :: (.pointer (some ⟨g0, 0, none⟩)) :: (.pointer (some ⟨g0, 0, none⟩)) :: (.int .u64 p0_0) :: (.int .u64 (IntKind.u64.wrap (p0_0 * 8192))) :: (.int .u64 (ixor .u64 p0_0 (IntKind.u64.wrap (p0_0 * 8192)))) :: (.pointer (some ⟨g0, 0, none⟩)) :: un 21 ([])).toArray, []⟩ _
  refine gx_thenN ?_
  refine hK4 _ _ ?_
  refine gx_seq (fun K10 hK11 => ?_)
  refine gd_start (fun w => St (foots [boxE g0 [.int .u64 p0_0] 121]) w0 w []) 10 #[false, false, false, false, false, false, false, false, false, false] (by kernel_rfl) (by kernel_rfl) ?_
  have hS14 := hS9.drew
  generalize w8.drew = w13 at hS14 ⊢
  refine gd_share (X := Unit) (fun _ => ⟨((.pointer (some ⟨g0, 0, none⟩)) :: undef :: (.int .u64 0) :: (.pointer (some ⟨g0, 0, none⟩)) :: (.pointer (some ⟨g0, 0, none⟩)) :: (.int .u64 p0_0) :: (.pointer (some ⟨g0, 0, none⟩)) :: (.pointer (some ⟨g0, 0, none⟩)) :: (.int .u64 p0_0) :: (.int .u64 (IntKind.u64.wrap (p0_0 * 8192))) :: (.int .u64 (ixor .u64 p0_0 (IntKind.u64.wrap (p0_0 * 8192)))) :: (.pointer (some ⟨g0, 0, none⟩)) :: (.pointer (some ⟨g0, 0, none⟩)) :: (.pointer (some ⟨g0, 0, none⟩)) :: (.int .u64 (ixor .u64 p0_0 (IntKind.u64.wrap (p0_0 * 8192)))) :: (.pointer (some ⟨g0, 0, none⟩)) :: (.pointer (some ⟨g0, 0, none⟩)) :: (.int .u64 (ixor .u64 p0_0 (IntKind.u64.wrap (p0_0 * 8192)))) :: (.int .u64 (Int.fdiv (ixor .u64 p0_0 (IntKind.u64.wrap (p0_0 * 8192))) 128)) :: (.int .u64 (ixor .u64 (ixor .u64 p0_0 (IntKind.u64.wrap (p0_0 * 8192))) (Int.fdiv (ixor .u64 p0_0 (IntKind.u64.wrap (p0_0 * 8192))) 128))) :: (.pointer (some ⟨g0, 0, none⟩)) :: un 12 ([])).toArray, []⟩) (fun _ w => St (foots [boxE g0 [.int .u64 p0_0] 121]) w0 w [boxE g0 [.int .u64 (ixor .u64 (ixor .u64 p0_0 (IntKind.u64.wrap (p0_0 * 8192))) (Int.fdiv (ixor .u64 p0_0 (IntKind.u64.wrap (p0_0 * 8192))) 128))] 121]) ?_ ?_
  ·rintro _ w15 hS16
   have hS16 : St _ _ w15 [boxE g0 [.int .u64 (ixor .u64 (ixor .u64 p0_0 (IntKind.u64.wrap (p0_0 * 8192))) (Int.fdiv (ixor .u64 p0_0 (IntKind.u64.wrap (p0_0 * 8192))) 128))] 121] := hS16
   show WQ _ _ ⟨((.pointer (some ⟨g0, 0, none⟩)) :: undef :: (.int .u64 0) :: (.pointer (some ⟨g0, 0, none⟩)) :: (.pointer (some ⟨g0, 0, none⟩)) :: (.int .u64 p0_0) :: (.pointer (some ⟨g0, 0, none⟩)) :: (.pointer (some ⟨g0, 0, none⟩)) :: (.int .u64 p0_0) :: (.int .u64 (IntKind.u64.wrap (p0_0 * 8192))) :: (.int .u64 (ixor .u64 p0_0 (IntKind.u64.wrap (p0_0 * 8192)))) :: (.pointer (some ⟨g0, 0, none⟩)) :: (.pointer (some ⟨g0, 0, none⟩)) :: (.pointer (some ⟨g0, 0, none⟩)) :: (.int .u64 (ixor .u64 p0_0 (IntKind.u64.wrap (p0_0 * 8192)))) :: (.pointer (some ⟨g0, 0, none⟩)) :: (.pointer (some ⟨g0, 0, none⟩)) :: (.int .u64 (ixor .u64 p0_0 (IntKind.u64.wrap (p0_0 * 8192)))) :: (.int .u64 (Int.fdiv (ixor .u64 p0_0 (IntKind.u64.wrap (p0_0 * 8192))) 128)) :: (.int .u64 (ixor .u64 (ixor .u64 p0_0 (IntKind.u64.wrap (p0_0 * 8192))) (Int.fdiv (ixor .u64 p0_0 (IntKind.u64.wrap (p0_0 * 8192))) 128))) :: (.pointer (some ⟨g0, 0, none⟩)) :: un 12 ([])).toArray, []⟩ _
   refine gx_thenN ?_
   refine hK11 _ _ ?_
   refine gx_seq (fun K17 hK18 => ?_)
   refine gd_start (fun w => St (foots [boxE g0 [.int .u64 p0_0] 121]) w0 w []) 10 #[false, false, false, false, false, false, false, false, false, false] (by kernel_rfl) (by kernel_rfl) ?_
   have hS21 := hS16.drew
   generalize w15.drew = w20 at hS21 ⊢
   refine gd_share (X := Unit) (fun _ => ⟨((.pointer (some ⟨g0, 0, none⟩)) :: undef :: (.int .u64 0) :: (.pointer (some ⟨g0, 0, none⟩)) :: (.pointer (some ⟨g0, 0, none⟩)) :: (.int .u64 p0_0) :: (.pointer (some ⟨g0, 0, none⟩)) :: (.pointer (some ⟨g0, 0, none⟩)) :: (.int .u64 p0_0) :: (.int .u64 (IntKind.u64.wrap (p0_0 * 8192))) :: (.int .u64 (ixor .u64 p0_0 (IntKind.u64.wrap (p0_0 * 8192)))) :: (.pointer (some ⟨g0, 0, none⟩)) :: (.pointer (some ⟨g0, 0, none⟩)) :: (.pointer (some ⟨g0, 0, none⟩)) :: (.int .u64 (ixor .u64 p0_0 (IntKind.u64.wrap (p0_0 * 8192)))) :: (.pointer (some ⟨g0, 0, none⟩)) :: (.pointer (some ⟨g0, 0, none⟩)) :: (.int .u64 (ixor .u64 p0_0 (IntKind.u64.wrap (p0_0 * 8192)))) :: (.int .u64 (Int.fdiv (ixor .u64 p0_0 (IntKind.u64.wrap (p0_0 * 8192))) 128)) :: (.int .u64 (ixor .u64 (ixor .u64 p0_0 (IntKind.u64.wrap (p0_0 * 8192))) (Int.fdiv (ixor .u64 p0_0 (IntKind.u64.wrap (p0_0 * 8192))) 128))) :: (.pointer (some ⟨g0, 0, none⟩)) :: (.pointer (some ⟨g0, 0, none⟩)) :: (.pointer (some ⟨g0, 0, none⟩)) :: (.int .u64 (ixor .u64 (ixor .u64 p0_0 (IntKind.u64.wrap (p0_0 * 8192))) (Int.fdiv (ixor .u64 p0_0 (IntKind.u64.wrap (p0_0 * 8192))) 128))) :: (.pointer (some ⟨g0, 0, none⟩)) :: (.pointer (some ⟨g0, 0, none⟩)) :: (.int .u64 (ixor .u64 (ixor .u64 p0_0 (IntKind.u64.wrap (p0_0 * 8192))) (Int.fdiv (ixor .u64 p0_0 (IntKind.u64.wrap (p0_0 * 8192))) 128))) :: (.int .u64 (IntKind.u64.wrap ((ixor .u64 (ixor .u64 p0_0 (IntKind.u64.wrap (p0_0 * 8192))) (Int.fdiv (ixor .u64 p0_0 (IntKind.u64.wrap (p0_0 * 8192))) 128)) * 131072))) :: (.int .u64 (ixor .u64 (ixor .u64 (ixor .u64 p0_0 (IntKind.u64.wrap (p0_0 * 8192))) (Int.fdiv (ixor .u64 p0_0 (IntKind.u64.wrap (p0_0 * 8192))) 128)) (IntKind.u64.wrap ((ixor .u64 (ixor .u64 p0_0 (IntKind.u64.wrap (p0_0 * 8192))) (Int.fdiv (ixor .u64 p0_0 (IntKind.u64.wrap (p0_0 * 8192))) 128)) * 131072)))) :: (.pointer (some ⟨g0, 0, none⟩)) :: un 3 ([])).toArray, []⟩) (fun _ w => St (foots [boxE g0 [.int .u64 p0_0] 121]) w0 w [boxE g0 [.int .u64 (ixor .u64 (ixor .u64 (ixor .u64 p0_0 (IntKind.u64.wrap (p0_0 * 8192))) (Int.fdiv (ixor .u64 p0_0 (IntKind.u64.wrap (p0_0 * 8192))) 128)) (IntKind.u64.wrap ((ixor .u64 (ixor .u64 p0_0 (IntKind.u64.wrap (p0_0 * 8192))) (Int.fdiv (ixor .u64 p0_0 (IntKind.u64.wrap (p0_0 * 8192))) 128)) * 131072)))] 121]) ?_ ?_
   ·rintro _ w22 hS23
    have hS23 : St _ _ w22 [boxE g0 [.int .u64 (ixor .u64 (ixor .u64 (ixor .u64 p0_0 (IntKind.u64.wrap (p0_0 * 8192))) (Int.fdiv (ixor .u64 p0_0 (IntKind.u64.wrap (p0_0 * 8192))) 128)) (IntKind.u64.wrap ((ixor .u64 (ixor .u64 p0_0 (IntKind.u64.wrap (p0_0 * 8192))) (Int.fdiv (ixor .u64 p0_0 (IntKind.u64.wrap (p0_0 * 8192))) 128)) * 131072)))] 121] := hS23
    show WQ _ _ ⟨((.pointer (some ⟨g0, 0, none⟩)) :: undef :: (.int .u64 0) :: (.pointer (some ⟨g0, 0, none⟩)) :: (.pointer (some ⟨g0, 0, none⟩)) :: (.int .u64 p0_0) :: (.pointer (some ⟨g0, 0, none⟩)) :: (.pointer (some ⟨g0, 0, none⟩)) :: (.int .u64 p0_0) :: (.int .u64 (IntKind.u64.wrap (p0_0 * 8192))) :: (.int .u64 (ixor .u64 p0_0 (IntKind.u64.wrap (p0_0 * 8192)))) :: (.pointer (some ⟨g0, 0, none⟩)) :: (.pointer (some ⟨g0, 0, none⟩)) :: (.pointer (some ⟨g0, 0, none⟩)) :: (.int .u64 (ixor .u64 p0_0 (IntKind.u64.wrap (p0_0 * 8192)))) :: (.pointer (some ⟨g0, 0, none⟩)) :: (.pointer (some ⟨g0, 0, none⟩)) :: (.int .u64 (ixor .u64 p0_0 (IntKind.u64.wrap (p0_0 * 8192)))) :: (.int .u64 (Int.fdiv (ixor .u64 p0_0 (IntKind.u64.wrap (p0_0 * 8192))) 128)) :: (.int .u64 (ixor .u64 (ixor .u64 p0_0 (IntKind.u64.wrap (p0_0 * 8192))) (Int.fdiv (ixor .u64 p0_0 (IntKind.u64.wrap (p0_0 * 8192))) 128))) :: (.pointer (some ⟨g0, 0, none⟩)) :: (.pointer (some ⟨g0, 0, none⟩)) :: (.pointer (some ⟨g0, 0, none⟩)) :: (.int .u64 (ixor .u64 (ixor .u64 p0_0 (IntKind.u64.wrap (p0_0 * 8192))) (Int.fdiv (ixor .u64 p0_0 (IntKind.u64.wrap (p0_0 * 8192))) 128))) :: (.pointer (some ⟨g0, 0, none⟩)) :: (.pointer (some ⟨g0, 0, none⟩)) :: (.int .u64 (ixor .u64 (ixor .u64 p0_0 (IntKind.u64.wrap (p0_0 * 8192))) (Int.fdiv (ixor .u64 p0_0 (IntKind.u64.wrap (p0_0 * 8192))) 128))) :: (.int .u64 (IntKind.u64.wrap ((ixor .u64 (ixor .u64 p0_0 (IntKind.u64.wrap (p0_0 * 8192))) (Int.fdiv (ixor .u64 p0_0 (IntKind.u64.wrap (p0_0 * 8192))) 128)) * 131072))) :: (.int .u64 (ixor .u64 (ixor .u64 (ixor .u64 p0_0 (IntKind.u64.wrap (p0_0 * 8192))) (Int.fdiv (ixor .u64 p0_0 (IntKind.u64.wrap (p0_0 * 8192))) 128)) (IntKind.u64.wrap ((ixor .u64 (ixor .u64 p0_0 (IntKind.u64.wrap (p0_0 * 8192))) (Int.fdiv (ixor .u64 p0_0 (IntKind.u64.wrap (p0_0 * 8192))) 128)) * 131072)))) :: (.pointer (some ⟨g0, 0, none⟩)) :: un 3 ([])).toArray, []⟩ _
    refine gx_thenN ?_
    refine hK18 _ _ ?_
    refine gx_seq (fun K24 hK25 => ?_)
    refine gx_region ?_
    refine gx_k (.pointer (some ⟨g0, 0, none⟩)) w22 (gx_k (.pointer (some ⟨g0, 0, none⟩)) w22 ?_)
    refine gx_v (.int .u64 (ixor .u64 (ixor .u64 (ixor .u64 p0_0 (IntKind.u64.wrap (p0_0 * 8192))) (Int.fdiv (ixor .u64 p0_0 (IntKind.u64.wrap (p0_0 * 8192))) 128)) (IntKind.u64.wrap ((ixor .u64 (ixor .u64 p0_0 (IntKind.u64.wrap (p0_0 * 8192))) (Int.fdiv (ixor .u64 p0_0 (IntKind.u64.wrap (p0_0 * 8192))) 128)) * 131072)))) w22 (run_load1 rfl (by kernel_rfl) (fun _ => by kernel_rfl) (hS23.box 0 rfl 0 rfl)) ?_
    refine gx_k (.int .u64 (ixor .u64 (ixor .u64 (ixor .u64 p0_0 (IntKind.u64.wrap (p0_0 * 8192))) (Int.fdiv (ixor .u64 p0_0 (IntKind.u64.wrap (p0_0 * 8192))) 128)) (IntKind.u64.wrap ((ixor .u64 (ixor .u64 p0_0 (IntKind.u64.wrap (p0_0 * 8192))) (Int.fdiv (ixor .u64 p0_0 (IntKind.u64.wrap (p0_0 * 8192))) 128)) * 131072)))) w22 ?_
    refine gx_nil ?_
    refine gx_thenN ?_
    refine hK25 _ _ ?_
    refine gx_ret ?_
    obtain rfl := Option.some.inj hF
    exact gx_fin (.int .u64 (ixor .u64 (ixor .u64 (ixor .u64 p0_0 (IntKind.u64.wrap (p0_0 * 8192))) (Int.fdiv (ixor .u64 p0_0 (IntKind.u64.wrap (p0_0 * 8192))) 128)) (IntKind.u64.wrap ((ixor .u64 (ixor .u64 p0_0 (IntKind.u64.wrap (p0_0 * 8192))) (Int.fdiv (ixor .u64 p0_0 (IntKind.u64.wrap (p0_0 * 8192))) 128)) * 131072)))) (by kernel_rfl) (by kernel_rfl) ⟨_, rfl, rfl, hS23⟩
   ·intro K26
    refine gd1 0 { dst := some 21, op := _, type := _, pos := _, after := _, guard := _ } (.pointer (some ⟨g0, 0, none⟩)) rfl (hS21.pick [] rfl rfl) (fun w hSw => by kernel_rfl) ?_
    refine gd1 1 { dst := some 22, op := _, type := _, pos := _, after := _, guard := _ } (.pointer (some ⟨g0, 0, none⟩)) rfl (hS21.pick [] rfl rfl) (fun w hSw => by kernel_rfl) ?_
    refine gd1 3 { dst := some 24, op := _, type := _, pos := _, after := _, guard := _ } (.pointer (some ⟨g0, 0, none⟩)) rfl (hS21.pick [] rfl rfl) (fun w hSw => by kernel_rfl) ?_
    refine gd1 4 { dst := some 25, op := _, type := _, pos := _, after := _, guard := _ } (.pointer (some ⟨g0, 0, none⟩)) rfl (hS21.pick [] rfl rfl) (fun w hSw => by kernel_rfl) ?_
    refine gd_fork2 2 5 { dst := some 23, op := _, type := _, pos := _, after := _, guard := _ } { dst := some 26, op := _, type := _, pos := _, after := _, guard := _ } rfl rfl ?_ ?_
    ·refine gfR 2 { dst := some 23, op := _, type := _, pos := _, after := _, guard := _ } (R := fun v w => v = .int .u64 (ixor .u64 (ixor .u64 p0_0 (IntKind.u64.wrap (p0_0 * 8192))) (Int.fdiv (ixor .u64 p0_0 (IntKind.u64.wrap (p0_0 * 8192))) 128)) ∧ w20 = w) rfl ⟨_, _, run_load1 rfl (by kernel_rfl) (fun _ => by kernel_rfl) (hS21.box 0 rfl 0 rfl), rfl, rfl⟩ ?_
     rintro _ _ ⟨rfl, rfl⟩
     refine ⟨(hS21.pick [] rfl rfl), ?_⟩
     refine gdR 5 { dst := some 26, op := _, type := _, pos := _, after := _, guard := _ } (R := fun v w => v = .int .u64 (ixor .u64 (ixor .u64 p0_0 (IntKind.u64.wrap (p0_0 * 8192))) (Int.fdiv (ixor .u64 p0_0 (IntKind.u64.wrap (p0_0 * 8192))) 128)) ∧ w20 = w) rfl ⟨_, _, run_load1 rfl (by kernel_rfl) (fun _ => by kernel_rfl) (hS21.box 0 rfl 0 rfl), rfl, rfl⟩ ?_
     rintro _ _ ⟨rfl, rfl⟩
     refine ⟨(hS21.pick [] rfl rfl), ?_⟩
     refine gd1 6 { dst := some 27, op := _, type := _, pos := _, after := _, guard := _ } (.int .u64 (IntKind.u64.wrap ((ixor .u64 (ixor .u64 p0_0 (IntKind.u64.wrap (p0_0 * 8192))) (Int.fdiv (ixor .u64 p0_0 (IntKind.u64.wrap (p0_0 * 8192))) 128)) * 131072))) rfl (hS21.pick [] rfl rfl) (fun w hSw => by kernel_rfl) ?_
     refine gd1 7 { dst := some 28, op := _, type := _, pos := _, after := _, guard := _ } (.int .u64 (ixor .u64 (ixor .u64 (ixor .u64 p0_0 (IntKind.u64.wrap (p0_0 * 8192))) (Int.fdiv (ixor .u64 p0_0 (IntKind.u64.wrap (p0_0 * 8192))) 128)) (IntKind.u64.wrap ((ixor .u64 (ixor .u64 p0_0 (IntKind.u64.wrap (p0_0 * 8192))) (Int.fdiv (ixor .u64 p0_0 (IntKind.u64.wrap (p0_0 * 8192))) 128)) * 131072)))) rfl (hS21.pick [] rfl rfl) (fun w hSw => by kernel_rfl) ?_
     refine gd1 8 { dst := some 29, op := _, type := _, pos := _, after := _, guard := _ } (.pointer (some ⟨g0, 0, none⟩)) rfl (hS21.pick [] rfl rfl) (fun w hSw => by kernel_rfl) ?_
     refine gdS 9 { dst := none, op := _, type := _, pos := _, after := _, guard := _ } rfl (st_store (j := 0) (v := (.int .u64 (ixor .u64 (ixor .u64 (ixor .u64 p0_0 (IntKind.u64.wrap (p0_0 * 8192))) (Int.fdiv (ixor .u64 p0_0 (IntKind.u64.wrap (p0_0 * 8192))) 128)) (IntKind.u64.wrap ((ixor .u64 (ixor .u64 p0_0 (IntKind.u64.wrap (p0_0 * 8192))) (Int.fdiv (ixor .u64 p0_0 (IntKind.u64.wrap (p0_0 * 8192))) 128)) * 131072))))) rfl (by kernel_rfl) (by kernel_rfl) rfl (fun _ => by kernel_rfl) hS21 0 rfl (by show 0 < 1; decide)) ?_
     rintro wz3_18o9_1 hSz3_18o9_2
     have hSz3_18o9_2 : St _ _ wz3_18o9_1 [boxE g0 [.int .u64 (ixor .u64 (ixor .u64 (ixor .u64 p0_0 (IntKind.u64.wrap (p0_0 * 8192))) (Int.fdiv (ixor .u64 p0_0 (IntKind.u64.wrap (p0_0 * 8192))) 128)) (IntKind.u64.wrap ((ixor .u64 (ixor .u64 p0_0 (IntKind.u64.wrap (p0_0 * 8192))) (Int.fdiv (ixor .u64 p0_0 (IntKind.u64.wrap (p0_0 * 8192))) 128)) * 131072)))] 121] := hSz3_18o9_2
     refine ⟨(hSz3_18o9_2.pick [] rfl rfl), ?_⟩
     exact gd_meet (by kernel_rfl) (by kernel_rfl) (K26 () _ hSz3_18o9_2)
    ·refine gfR 5 { dst := some 26, op := _, type := _, pos := _, after := _, guard := _ } (R := fun v w => v = .int .u64 (ixor .u64 (ixor .u64 p0_0 (IntKind.u64.wrap (p0_0 * 8192))) (Int.fdiv (ixor .u64 p0_0 (IntKind.u64.wrap (p0_0 * 8192))) 128)) ∧ w20 = w) rfl ⟨_, _, run_load1 rfl (by kernel_rfl) (fun _ => by kernel_rfl) (hS21.box 0 rfl 0 rfl), rfl, rfl⟩ ?_
     rintro _ _ ⟨rfl, rfl⟩
     refine ⟨(hS21.pick [] rfl rfl), ?_⟩
     refine gd1 6 { dst := some 27, op := _, type := _, pos := _, after := _, guard := _ } (.int .u64 (IntKind.u64.wrap ((ixor .u64 (ixor .u64 p0_0 (IntKind.u64.wrap (p0_0 * 8192))) (Int.fdiv (ixor .u64 p0_0 (IntKind.u64.wrap (p0_0 * 8192))) 128)) * 131072))) rfl (hS21.pick [] rfl rfl) (fun w hSw => by kernel_rfl) ?_
     refine gdR 2 { dst := some 23, op := _, type := _, pos := _, after := _, guard := _ } (R := fun v w => v = .int .u64 (ixor .u64 (ixor .u64 p0_0 (IntKind.u64.wrap (p0_0 * 8192))) (Int.fdiv (ixor .u64 p0_0 (IntKind.u64.wrap (p0_0 * 8192))) 128)) ∧ w20 = w) rfl ⟨_, _, run_load1 rfl (by kernel_rfl) (fun _ => by kernel_rfl) (hS21.box 0 rfl 0 rfl), rfl, rfl⟩ ?_
     rintro _ _ ⟨rfl, rfl⟩
     refine ⟨(hS21.pick [] rfl rfl), ?_⟩
     refine gd1 7 { dst := some 28, op := _, type := _, pos := _, after := _, guard := _ } (.int .u64 (ixor .u64 (ixor .u64 (ixor .u64 p0_0 (IntKind.u64.wrap (p0_0 * 8192))) (Int.fdiv (ixor .u64 p0_0 (IntKind.u64.wrap (p0_0 * 8192))) 128)) (IntKind.u64.wrap ((ixor .u64 (ixor .u64 p0_0 (IntKind.u64.wrap (p0_0 * 8192))) (Int.fdiv (ixor .u64 p0_0 (IntKind.u64.wrap (p0_0 * 8192))) 128)) * 131072)))) rfl (hS21.pick [] rfl rfl) (fun w hSw => by kernel_rfl) ?_
     refine gd1 8 { dst := some 29, op := _, type := _, pos := _, after := _, guard := _ } (.pointer (some ⟨g0, 0, none⟩)) rfl (hS21.pick [] rfl rfl) (fun w hSw => by kernel_rfl) ?_
     refine gdS 9 { dst := none, op := _, type := _, pos := _, after := _, guard := _ } rfl (st_store (j := 0) (v := (.int .u64 (ixor .u64 (ixor .u64 (ixor .u64 p0_0 (IntKind.u64.wrap (p0_0 * 8192))) (Int.fdiv (ixor .u64 p0_0 (IntKind.u64.wrap (p0_0 * 8192))) 128)) (IntKind.u64.wrap ((ixor .u64 (ixor .u64 p0_0 (IntKind.u64.wrap (p0_0 * 8192))) (Int.fdiv (ixor .u64 p0_0 (IntKind.u64.wrap (p0_0 * 8192))) 128)) * 131072))))) rfl (by kernel_rfl) (by kernel_rfl) rfl (fun _ => by kernel_rfl) hS21 0 rfl (by show 0 < 1; decide)) ?_
     rintro wz3_18o9_1 hSz3_18o9_2
     have hSz3_18o9_2 : St _ _ wz3_18o9_1 [boxE g0 [.int .u64 (ixor .u64 (ixor .u64 (ixor .u64 p0_0 (IntKind.u64.wrap (p0_0 * 8192))) (Int.fdiv (ixor .u64 p0_0 (IntKind.u64.wrap (p0_0 * 8192))) 128)) (IntKind.u64.wrap ((ixor .u64 (ixor .u64 p0_0 (IntKind.u64.wrap (p0_0 * 8192))) (Int.fdiv (ixor .u64 p0_0 (IntKind.u64.wrap (p0_0 * 8192))) 128)) * 131072)))] 121] := hSz3_18o9_2
     refine ⟨(hSz3_18o9_2.pick [] rfl rfl), ?_⟩
     exact gd_meet (by kernel_rfl) (by kernel_rfl) (K26 () _ hSz3_18o9_2)
  ·intro K27
   refine gd1 0 { dst := some 12, op := _, type := _, pos := _, after := _, guard := _ } (.pointer (some ⟨g0, 0, none⟩)) rfl (hS14.pick [] rfl rfl) (fun w hSw => by kernel_rfl) ?_
   refine gd1 1 { dst := some 13, op := _, type := _, pos := _, after := _, guard := _ } (.pointer (some ⟨g0, 0, none⟩)) rfl (hS14.pick [] rfl rfl) (fun w hSw => by kernel_rfl) ?_
   refine gd1 3 { dst := some 15, op := _, type := _, pos := _, after := _, guard := _ } (.pointer (some ⟨g0, 0, none⟩)) rfl (hS14.pick [] rfl rfl) (fun w hSw => by kernel_rfl) ?_
   refine gd1 4 { dst := some 16, op := _, type := _, pos := _, after := _, guard := _ } (.pointer (some ⟨g0, 0, none⟩)) rfl (hS14.pick [] rfl rfl) (fun w hSw => by kernel_rfl) ?_
   refine gd_fork2 2 5 { dst := some 14, op := _, type := _, pos := _, after := _, guard := _ } { dst := some 17, op := _, type := _, pos := _, after := _, guard := _ } rfl rfl ?_ ?_
   ·refine gfR 2 { dst := some 14, op := _, type := _, pos := _, after := _, guard := _ } (R := fun v w => v = .int .u64 (ixor .u64 p0_0 (IntKind.u64.wrap (p0_0 * 8192))) ∧ w13 = w) rfl ⟨_, _, run_load1 rfl (by kernel_rfl) (fun _ => by kernel_rfl) (hS14.box 0 rfl 0 rfl), rfl, rfl⟩ ?_
    rintro _ _ ⟨rfl, rfl⟩
    refine ⟨(hS14.pick [] rfl rfl), ?_⟩
    refine gdR 5 { dst := some 17, op := _, type := _, pos := _, after := _, guard := _ } (R := fun v w => v = .int .u64 (ixor .u64 p0_0 (IntKind.u64.wrap (p0_0 * 8192))) ∧ w13 = w) rfl ⟨_, _, run_load1 rfl (by kernel_rfl) (fun _ => by kernel_rfl) (hS14.box 0 rfl 0 rfl), rfl, rfl⟩ ?_
    rintro _ _ ⟨rfl, rfl⟩
    refine ⟨(hS14.pick [] rfl rfl), ?_⟩
    refine gd1 6 { dst := some 18, op := _, type := _, pos := _, after := _, guard := _ } (.int .u64 (Int.fdiv (ixor .u64 p0_0 (IntKind.u64.wrap (p0_0 * 8192))) 128)) rfl (hS14.pick [] rfl rfl) (fun w hSw => by kernel_rfl) ?_
    refine gd1 7 { dst := some 19, op := _, type := _, pos := _, after := _, guard := _ } (.int .u64 (ixor .u64 (ixor .u64 p0_0 (IntKind.u64.wrap (p0_0 * 8192))) (Int.fdiv (ixor .u64 p0_0 (IntKind.u64.wrap (p0_0 * 8192))) 128))) rfl (hS14.pick [] rfl rfl) (fun w hSw => by kernel_rfl) ?_
    refine gd1 8 { dst := some 20, op := _, type := _, pos := _, after := _, guard := _ } (.pointer (some ⟨g0, 0, none⟩)) rfl (hS14.pick [] rfl rfl) (fun w hSw => by kernel_rfl) ?_
    refine gdS 9 { dst := none, op := _, type := _, pos := _, after := _, guard := _ } rfl (st_store (j := 0) (v := (.int .u64 (ixor .u64 (ixor .u64 p0_0 (IntKind.u64.wrap (p0_0 * 8192))) (Int.fdiv (ixor .u64 p0_0 (IntKind.u64.wrap (p0_0 * 8192))) 128)))) rfl (by kernel_rfl) (by kernel_rfl) rfl (fun _ => by kernel_rfl) hS14 0 rfl (by show 0 < 1; decide)) ?_
    rintro wz2_11o9_1 hSz2_11o9_2
    have hSz2_11o9_2 : St _ _ wz2_11o9_1 [boxE g0 [.int .u64 (ixor .u64 (ixor .u64 p0_0 (IntKind.u64.wrap (p0_0 * 8192))) (Int.fdiv (ixor .u64 p0_0 (IntKind.u64.wrap (p0_0 * 8192))) 128))] 121] := hSz2_11o9_2
    refine ⟨(hSz2_11o9_2.pick [] rfl rfl), ?_⟩
    exact gd_meet (by kernel_rfl) (by kernel_rfl) (K27 () _ hSz2_11o9_2)
   ·refine gfR 5 { dst := some 17, op := _, type := _, pos := _, after := _, guard := _ } (R := fun v w => v = .int .u64 (ixor .u64 p0_0 (IntKind.u64.wrap (p0_0 * 8192))) ∧ w13 = w) rfl ⟨_, _, run_load1 rfl (by kernel_rfl) (fun _ => by kernel_rfl) (hS14.box 0 rfl 0 rfl), rfl, rfl⟩ ?_
    rintro _ _ ⟨rfl, rfl⟩
    refine ⟨(hS14.pick [] rfl rfl), ?_⟩
    refine gd1 6 { dst := some 18, op := _, type := _, pos := _, after := _, guard := _ } (.int .u64 (Int.fdiv (ixor .u64 p0_0 (IntKind.u64.wrap (p0_0 * 8192))) 128)) rfl (hS14.pick [] rfl rfl) (fun w hSw => by kernel_rfl) ?_
    refine gdR 2 { dst := some 14, op := _, type := _, pos := _, after := _, guard := _ } (R := fun v w => v = .int .u64 (ixor .u64 p0_0 (IntKind.u64.wrap (p0_0 * 8192))) ∧ w13 = w) rfl ⟨_, _, run_load1 rfl (by kernel_rfl) (fun _ => by kernel_rfl) (hS14.box 0 rfl 0 rfl), rfl, rfl⟩ ?_
    rintro _ _ ⟨rfl, rfl⟩
    refine ⟨(hS14.pick [] rfl rfl), ?_⟩
    refine gd1 7 { dst := some 19, op := _, type := _, pos := _, after := _, guard := _ } (.int .u64 (ixor .u64 (ixor .u64 p0_0 (IntKind.u64.wrap (p0_0 * 8192))) (Int.fdiv (ixor .u64 p0_0 (IntKind.u64.wrap (p0_0 * 8192))) 128))) rfl (hS14.pick [] rfl rfl) (fun w hSw => by kernel_rfl) ?_
    refine gd1 8 { dst := some 20, op := _, type := _, pos := _, after := _, guard := _ } (.pointer (some ⟨g0, 0, none⟩)) rfl (hS14.pick [] rfl rfl) (fun w hSw => by kernel_rfl) ?_
    refine gdS 9 { dst := none, op := _, type := _, pos := _, after := _, guard := _ } rfl (st_store (j := 0) (v := (.int .u64 (ixor .u64 (ixor .u64 p0_0 (IntKind.u64.wrap (p0_0 * 8192))) (Int.fdiv (ixor .u64 p0_0 (IntKind.u64.wrap (p0_0 * 8192))) 128)))) rfl (by kernel_rfl) (by kernel_rfl) rfl (fun _ => by kernel_rfl) hS14 0 rfl (by show 0 < 1; decide)) ?_
    rintro wz2_11o9_1 hSz2_11o9_2
    have hSz2_11o9_2 : St _ _ wz2_11o9_1 [boxE g0 [.int .u64 (ixor .u64 (ixor .u64 p0_0 (IntKind.u64.wrap (p0_0 * 8192))) (Int.fdiv (ixor .u64 p0_0 (IntKind.u64.wrap (p0_0 * 8192))) 128))] 121] := hSz2_11o9_2
    refine ⟨(hSz2_11o9_2.pick [] rfl rfl), ?_⟩
    exact gd_meet (by kernel_rfl) (by kernel_rfl) (K27 () _ hSz2_11o9_2)
 ·intro K28
  refine gd1 0 { dst := some 3, op := _, type := _, pos := _, after := _, guard := _ } (.pointer (some ⟨g0, 0, none⟩)) rfl (hS7.pick [] rfl rfl) (fun w hSw => by kernel_rfl) ?_
  refine gd1 1 { dst := some 4, op := _, type := _, pos := _, after := _, guard := _ } (.pointer (some ⟨g0, 0, none⟩)) rfl (hS7.pick [] rfl rfl) (fun w hSw => by kernel_rfl) ?_
  refine gd1 3 { dst := some 6, op := _, type := _, pos := _, after := _, guard := _ } (.pointer (some ⟨g0, 0, none⟩)) rfl (hS7.pick [] rfl rfl) (fun w hSw => by kernel_rfl) ?_
  refine gd1 4 { dst := some 7, op := _, type := _, pos := _, after := _, guard := _ } (.pointer (some ⟨g0, 0, none⟩)) rfl (hS7.pick [] rfl rfl) (fun w hSw => by kernel_rfl) ?_
  refine gd_fork2 2 5 { dst := some 5, op := _, type := _, pos := _, after := _, guard := _ } { dst := some 8, op := _, type := _, pos := _, after := _, guard := _ } rfl rfl ?_ ?_
  ·refine gfR 2 { dst := some 5, op := _, type := _, pos := _, after := _, guard := _ } (R := fun v w => v = .int .u64 p0_0 ∧ w6 = w) rfl ⟨_, _, run_load1 rfl (by kernel_rfl) (fun _ => by kernel_rfl) (hS7.box 0 rfl 0 rfl), rfl, rfl⟩ ?_
   rintro _ _ ⟨rfl, rfl⟩
   refine ⟨(hS7.pick [] rfl rfl), ?_⟩
   refine gdR 5 { dst := some 8, op := _, type := _, pos := _, after := _, guard := _ } (R := fun v w => v = .int .u64 p0_0 ∧ w6 = w) rfl ⟨_, _, run_load1 rfl (by kernel_rfl) (fun _ => by kernel_rfl) (hS7.box 0 rfl 0 rfl), rfl, rfl⟩ ?_
   rintro _ _ ⟨rfl, rfl⟩
   refine ⟨(hS7.pick [] rfl rfl), ?_⟩
   refine gd1 6 { dst := some 9, op := _, type := _, pos := _, after := _, guard := _ } (.int .u64 (IntKind.u64.wrap (p0_0 * 8192))) rfl (hS7.pick [] rfl rfl) (fun w hSw => by kernel_rfl) ?_
   refine gd1 7 { dst := some 10, op := _, type := _, pos := _, after := _, guard := _ } (.int .u64 (ixor .u64 p0_0 (IntKind.u64.wrap (p0_0 * 8192)))) rfl (hS7.pick [] rfl rfl) (fun w hSw => by kernel_rfl) ?_
   refine gd1 8 { dst := some 11, op := _, type := _, pos := _, after := _, guard := _ } (.pointer (some ⟨g0, 0, none⟩)) rfl (hS7.pick [] rfl rfl) (fun w hSw => by kernel_rfl) ?_
   refine gdS 9 { dst := none, op := _, type := _, pos := _, after := _, guard := _ } rfl (st_store (j := 0) (v := (.int .u64 (ixor .u64 p0_0 (IntKind.u64.wrap (p0_0 * 8192))))) rfl (by kernel_rfl) (by kernel_rfl) rfl (fun _ => by kernel_rfl) hS7 0 rfl (by show 0 < 1; decide)) ?_
   rintro wz1_4o9_1 hSz1_4o9_2
   have hSz1_4o9_2 : St _ _ wz1_4o9_1 [boxE g0 [.int .u64 (ixor .u64 p0_0 (IntKind.u64.wrap (p0_0 * 8192)))] 121] := hSz1_4o9_2
   refine ⟨(hSz1_4o9_2.pick [] rfl rfl), ?_⟩
   exact gd_meet (by kernel_rfl) (by kernel_rfl) (K28 () _ hSz1_4o9_2)
  ·refine gfR 5 { dst := some 8, op := _, type := _, pos := _, after := _, guard := _ } (R := fun v w => v = .int .u64 p0_0 ∧ w6 = w) rfl ⟨_, _, run_load1 rfl (by kernel_rfl) (fun _ => by kernel_rfl) (hS7.box 0 rfl 0 rfl), rfl, rfl⟩ ?_
   rintro _ _ ⟨rfl, rfl⟩
   refine ⟨(hS7.pick [] rfl rfl), ?_⟩
   refine gd1 6 { dst := some 9, op := _, type := _, pos := _, after := _, guard := _ } (.int .u64 (IntKind.u64.wrap (p0_0 * 8192))) rfl (hS7.pick [] rfl rfl) (fun w hSw => by kernel_rfl) ?_
   refine gdR 2 { dst := some 5, op := _, type := _, pos := _, after := _, guard := _ } (R := fun v w => v = .int .u64 p0_0 ∧ w6 = w) rfl ⟨_, _, run_load1 rfl (by kernel_rfl) (fun _ => by kernel_rfl) (hS7.box 0 rfl 0 rfl), rfl, rfl⟩ ?_
   rintro _ _ ⟨rfl, rfl⟩
   refine ⟨(hS7.pick [] rfl rfl), ?_⟩
   refine gd1 7 { dst := some 10, op := _, type := _, pos := _, after := _, guard := _ } (.int .u64 (ixor .u64 p0_0 (IntKind.u64.wrap (p0_0 * 8192)))) rfl (hS7.pick [] rfl rfl) (fun w hSw => by kernel_rfl) ?_
   refine gd1 8 { dst := some 11, op := _, type := _, pos := _, after := _, guard := _ } (.pointer (some ⟨g0, 0, none⟩)) rfl (hS7.pick [] rfl rfl) (fun w hSw => by kernel_rfl) ?_
   refine gdS 9 { dst := none, op := _, type := _, pos := _, after := _, guard := _ } rfl (st_store (j := 0) (v := (.int .u64 (ixor .u64 p0_0 (IntKind.u64.wrap (p0_0 * 8192))))) rfl (by kernel_rfl) (by kernel_rfl) rfl (fun _ => by kernel_rfl) hS7 0 rfl (by show 0 < 1; decide)) ?_
   rintro wz1_4o9_1 hSz1_4o9_2
   have hSz1_4o9_2 : St _ _ wz1_4o9_1 [boxE g0 [.int .u64 (ixor .u64 p0_0 (IntKind.u64.wrap (p0_0 * 8192)))] 121] := hSz1_4o9_2
   refine ⟨(hSz1_4o9_2.pick [] rfl rfl), ?_⟩
   exact gd_meet (by kernel_rfl) (by kernel_rfl) (K28 () _ hSz1_4o9_2)

def zIns_L2 (N : Nat) (p1 : Int) : Nat → (List Int) → Int → Option (List Int)
 | 0, _, _ => none
 | k32+1, l30, x31 => (if x31 > p1 then ((ix l30 x31).bind fun x41 => ((ix l30 (IntKind.i64.wrap (x31 - 1))).bind fun x43 => ((zLess N x41 x43).bind fun b47 => (match b47 with | true => ((ix l30 (IntKind.i64.wrap (x31 - 1))).bind fun xz6_52o8_1 => ((ix l30 x31).bind fun xz6_52o12_1 => ((ix l30 x31).bind fun _xz6_52o14_1 => ((setx l30 x31 xz6_52o8_1).bind fun lz6_52o15_3 => ((ix lz6_52o15_3 (IntKind.i64.wrap (x31 - 1))).bind fun _xz6_52o16_1 => ((setx lz6_52o15_3 (IntKind.i64.wrap (x31 - 1)) xz6_52o12_1).bind fun lz6_52o17_3 => zIns_L2 N p1 k32 lz6_52o17_3 (IntKind.i64.wrap (x31 - 1)))))))) | false => some (l30))))) else some (l30))
def zIns_L1 (N : Nat) (p1 : Int) (p2 : Int) : Nat → (List Int) → Int → Option (List Int)
 | 0, _, _ => none
 | k9+1, l7, x8 => (if x8 < p2 then ((zIns_L2 N p1 N l7 x8 : Option (List Int)).bind fun l20 => zIns_L1 N p1 p2 k9 l20 (IntKind.i64.wrap (x8 + 1))) else some l7)
def zIns (N : Nat) (p0 : List Int) (p1 : Int) (p2 : Int) : Option (List Int) :=
 zIns_L1 N p1 p2 N p0 (IntKind.i64.wrap (p1 + 1))

set_option linter.unusedVariables false in
def zIns_R (p0 : List Int) (p1 : Int) (p2 : Int) (A0 : Option Addr) (c0 : Nat) (r : List Int) (w0 : World) (v : Value) (w : World) : Prop := v = .tuple #[] ∧ St (foots [rowE .u16 45 A0 c0 p0]) w0 w [rowE .u16 45 A0 c0 r] ∧ r.length = p0.length

set_option maxRecDepth 100000 in
set_option maxHeartbeats 4000000 in
theorem zIns_ok (N : Nat) (p0 : List Int) (p1 : Int) (p2 : Int) (A0 : Option Addr) (c0 : Nat) (r : List Int) (hF : zIns N p0 p1 p2 = some r) (w0 : World) (hl : St (foots [rowE .u16 45 A0 c0 p0]) w0 w0 [rowE .u16 45 A0 c0 p0]) :
  Calls Try.prog 54 #[.slice A0 p0.length c0, .int .i64 p1, .int .i64 p2] w0 fun e w => ∃ v, e = .returned v ∧ zIns_R p0 p1 p2 A0 c0 r w0 v w := by
 have hS0 := hl
 unfold zIns at hF
 refine calls_of Try.func54 rfl ⟨((.slice A0 p0.length c0) :: (.int .i64 p1) :: (.int .i64 p2) :: un 46 ([])).toArray, []⟩ (by kernel_rfl) ?_
 refine gx_seq (fun K1 hK2 => ?_)
 refine gx_region ?_
 refine gx_k (.int .i64 p1) w0 (gx_k (.int .i64 (IntKind.i64.wrap (p1 + 1))) w0 (gx_k (.int .i64 (IntKind.i64.wrap (p1 + 1))) w0 ?_))
 refine gx_nil ?_
 refine gx_thenN ?_
 refine hK2 _ _ ?_
 refine gx_block ?_
 refine gx_loop (fun k a w => ∃ (l7 : List Int) (x8 : Int), selfA (fun u5 => ⟨((.slice A0 p0.length c0) :: (.int .i64 p1) :: (.int .i64 p2) :: un 3 ((.int .i64 x8) :: (u5 7) :: (.int .i64 p1) :: (.int .i64 (IntKind.i64.wrap (p1 + 1))) :: dd u5 10 39 ([]))).toArray, []⟩) a ∧ zIns_L1 N p1 p2 k l7 x8 = some r ∧ St (foots [rowE .u16 45 A0 c0 p0]) w0 w [rowE .u16 45 A0 c0 l7] ∧ p0.length = l7.length) N ?_ ?_
 ·exact ⟨p0, (IntKind.i64.wrap (p1 + 1)), selfA_i (by kernel_rfl), hF, hS0, rfl⟩
 ·rintro k9 _ w3 ⟨l7, x8, hq61, hL10, hS4, hn6⟩
  obtain ⟨u5, rfl⟩ := selfA_u hq61
  cases k9 with
  | zero => cases hL10
  | succ k9 =>
   first | rw [zIns_L1] at hL10 | unfold zIns_L1 at hL10
   refine gx_seq (fun K11 hK12 => ?_)
   refine gx_seq (fun K13 hK14 => ?_)
   refine gx_region ?_
   refine gx_k (.int .i64 x8) w3 (gx_k (.int .i64 p2) w3 ?_)
   rcases if_in hL10 with ⟨h15, hL10⟩ | ⟨h15, hL10⟩
   ·refine gx_v (.bool true) w3 (run_boolE (decide_eq_true h15) (by kernel_rfl)) ?_
    refine gx_nil ?_
    refine gx_thenN ?_
    refine hK14 _ _ ?_
    refine gx_yes (by kernel_rfl) ?_
    refine gx_pass ?_
    refine gx_thenN ?_
    refine hK12 _ _ ?_
    obtain ⟨c21, hE22, hO23⟩ := bind_in hL10
    refine gx_cut (fun a w => ∃ (l20 : List Int), selfA (fun u18 => ⟨((.slice A0 p0.length c0) :: (.int .i64 p1) :: (.int .i64 p2) :: un 3 ((.int .i64 x8) :: (u18 7) :: (.int .i64 p1) :: (.int .i64 (IntKind.i64.wrap (p1 + 1))) :: (.int .i64 x8) :: (.int .i64 p2) :: (.bool true) :: dd u5 13 2 (dd u18 15 34 ([])))).toArray, []⟩) a ∧ l20 = c21 ∧ St (foots [rowE .u16 45 A0 c0 p0]) w0 w [rowE .u16 45 A0 c0 l20] ∧ p0.length = l20.length) ?_ ?_
    ·refine gx_block ?_
     refine gx_seq (fun K24 hK25 => ?_)
     refine gx_region ?_
     refine gx_k (.int .i64 x8) w3 (gx_k (.int .i64 x8) w3 ?_)
     refine gx_nil ?_
     refine gx_thenN ?_
     refine hK25 _ _ ?_
     refine gx_block ?_
     refine gx_loop (fun k a w => ∃ (l30 : List Int) (x31 : Int), selfA (fun u28 => ⟨((.slice A0 p0.length c0) :: (.int .i64 p1) :: (.int .i64 p2) :: un 3 ((.int .i64 x8) :: (.int .i64 x31) :: (.int .i64 p1) :: (.int .i64 (IntKind.i64.wrap (p1 + 1))) :: (.int .i64 x8) :: (.int .i64 p2) :: (.bool true) :: dd u5 13 2 ((.int .i64 x8) :: dd u28 16 33 ([])))).toArray, []⟩) a ∧ zIns_L2 N p1 k l30 x31 = some c21 ∧ St (foots [rowE .u16 45 A0 c0 p0]) w0 w [rowE .u16 45 A0 c0 l30] ∧ p0.length = l30.length) N ?_ ?_
     ·exact ⟨l7, x8, selfA_i (by kernel_rfl), hE22, hS4, hn6⟩
     ·rintro k32 _ w26 ⟨l30, x31, hq59, hL33, hS27, hn29⟩
      obtain ⟨u28, rfl⟩ := selfA_u hq59
      cases k32 with
      | zero => cases hL33
      | succ k32 =>
       first | rw [zIns_L2] at hL33 | unfold zIns_L2 at hL33
       refine gx_seq (fun K34 hK35 => ?_)
       refine gx_seq (fun K36 hK37 => ?_)
       refine gd_start (fun w => St (foots [rowE .u16 45 A0 c0 p0]) w0 w [rowE .u16 45 A0 c0 l30]) 15 #[false, false, false, false, false, false, false, false, false, false, false, false, false, false, false] (by kernel_rfl) (by kernel_rfl) ?_
       have hS39 := hS27.drew
       generalize w26.drew = w38 at hS39 ⊢
       refine gd1 0 { dst := some 16, op := _, type := _, pos := _, after := _, guard := _ } (.int .i64 x31) rfl hS39 (fun w hSw => by kernel_rfl) ?_
       refine gd1 1 { dst := some 17, op := _, type := _, pos := _, after := _, guard := _ } (.int .i64 p1) rfl hS39 (fun w hSw => by kernel_rfl) ?_
       rcases if_in hL33 with ⟨h40, hL33⟩ | ⟨h40, hL33⟩
       ·refine gd1 2 { dst := some 18, op := _, type := _, pos := _, after := _, guard := _ } (.bool true) rfl hS39 (fun w hSw => run_boolE (decide_eq_true h40) (by kernel_rfl)) ?_
        refine gd1 3 { dst := some 19, op := _, type := _, pos := _, after := _, guard := _ } (.bool true) rfl hS39 (fun w hSw => by kernel_rfl) ?_
        refine gd1 4 { dst := some 20, op := _, type := _, pos := _, after := _, guard := _ } (.slice A0 p0.length c0) rfl hS39 (fun w hSw => by kernel_rfl) ?_
        refine gd1 5 { dst := some 21, op := _, type := _, pos := _, after := _, guard := _ } (.int .i64 x31) rfl hS39 (fun w hSw => by kernel_rfl) ?_
        obtain ⟨x41, hx42, hL33⟩ := bind_in hL33
        refine gd1 6 { dst := some 22, op := _, type := _, pos := _, after := _, guard := _ } (.pointer (Option.map (fun (p : Addr) => p.add (Int.toNat x31 * 1)) A0)) rfl hS39 (fun w hSw => run_ixaddr (E := 45) (s := 1) (k := .i64) (c := c0) rfl (by kernel_rfl) (by kernel_rfl) (by kernel_rfl) (fun _ => by kernel_rfl) (ix_in hx42).1 (lt_len hn29 (ix_in hx42).2.1) (nil_len hn29 (num_nil (hS39.row 0 rfl).1))) ?_
        refine gd1 7 { dst := some 23, op := _, type := _, pos := _, after := _, guard := _ } (.int .u16 x41) rfl hS39 (fun w hSw => run_loadix rfl (by kernel_rfl) (fun _ => by kernel_rfl) (hSw.row 0 rfl).1 hx42) ?_
        refine gd1 8 { dst := some 24, op := _, type := _, pos := _, after := _, guard := _ } (.slice A0 p0.length c0) rfl hS39 (fun w hSw => by kernel_rfl) ?_
        refine gd1 9 { dst := some 25, op := _, type := _, pos := _, after := _, guard := _ } (.int .i64 x31) rfl hS39 (fun w hSw => by kernel_rfl) ?_
        refine gd1 10 { dst := some 26, op := _, type := _, pos := _, after := _, guard := _ } (.int .i64 (IntKind.i64.wrap (x31 - 1))) rfl hS39 (fun w hSw => by kernel_rfl) ?_
        obtain ⟨x43, hx44, hL33⟩ := bind_in hL33
        refine gd1 11 { dst := some 27, op := _, type := _, pos := _, after := _, guard := _ } (.pointer (Option.map (fun (p : Addr) => p.add (Int.toNat (IntKind.i64.wrap (x31 - 1)) * 1)) A0)) rfl hS39 (fun w hSw => run_ixaddr (E := 45) (s := 1) (k := .i64) (c := c0) rfl (by kernel_rfl) (by kernel_rfl) (by kernel_rfl) (fun _ => by kernel_rfl) (ix_in hx44).1 (lt_len hn29 (ix_in hx44).2.1) (nil_len hn29 (num_nil (hS39.row 0 rfl).1))) ?_
        refine gd1 12 { dst := some 28, op := _, type := _, pos := _, after := _, guard := _ } (.int .u16 x43) rfl hS39 (fun w hSw => run_loadix rfl (by kernel_rfl) (fun _ => by kernel_rfl) (hSw.row 0 rfl).1 hx44) ?_
        have hP45 : St _ _ w38 ([] ++ [rowE .u16 45 A0 c0 l30]) := hS39
        obtain ⟨b47, hc46, hL33⟩ := bind_in hL33
        try dsimp only at hL33
        refine gdC 13 { dst := some 29, op := _, type := _, pos := _, after := _, guard := _ } (zLess_R b47 w38) rfl (by kernel_rfl) (zLess_ok N x41 x43 _ hc46 w38 ) ?_
        rintro _ w48 ⟨rfl, hT50⟩
        have hS49 : St _ _ w48 [rowE .u16 45 A0 c0 l30] := hS39.take _ hT50
        refine ⟨hS49, ?_⟩
        refine gd1 14 { dst := some 30, op := _, type := _, pos := _, after := _, guard := _ } (.bool b47) rfl hS49 (fun w hSw => by kernel_rfl) ?_
        refine gd_done (by kernel_rfl) ?_
        refine gx_thenN ?_
        refine hK37 _ _ ?_
        cases b47 with
        | true =>
         try dsimp only at hL33
         refine gx_yes (by kernel_rfl) ?_
         refine gx_pass ?_
         refine gx_thenN ?_
         refine hK35 _ _ ?_
         refine gx_seq (fun K51 hK52 => ?_)
         refine gx_block ?_
         refine gd_start (fun w => St (foots [rowE .u16 45 A0 c0 p0]) w0 w []) 18 #[false, false, false, false, false, false, false, false, false, false, false, false, false, false, false, false, false, false] (by kernel_rfl) (by kernel_rfl) ?_
         have hS55 := hS49.drew
         generalize w48.drew = w54 at hS55 ⊢
         obtain ⟨xz6_52o8_1, hxz6_52o8_2, hL33⟩ := bind_in hL33
         obtain ⟨xz6_52o12_1, hxz6_52o12_2, hL33⟩ := bind_in hL33
         obtain ⟨xz6_52o14_1, hxz6_52o14_2, hL33⟩ := bind_in hL33
         obtain ⟨lz6_52o15_3, hxz6_52o15_4, hL33⟩ := bind_in hL33
         obtain ⟨xz6_52o16_1, hxz6_52o16_2, hL33⟩ := bind_in hL33
         obtain ⟨lz6_52o17_3, hxz6_52o17_4, hL33⟩ := bind_in hL33
         refine gd_share (X := Unit) (fun _ => ⟨((.slice A0 p0.length c0) :: (.int .i64 p1) :: (.int .i64 p2) :: un 3 ((.int .i64 x8) :: (.int .i64 x31) :: (.int .i64 p1) :: (.int .i64 (IntKind.i64.wrap (p1 + 1))) :: (.int .i64 x8) :: (.int .i64 p2) :: (.bool true) :: dd u5 13 2 ((.int .i64 x8) :: (.int .i64 x31) :: (.int .i64 p1) :: (.bool true) :: (.bool true) :: (.slice A0 p0.length c0) :: (.int .i64 x31) :: (.pointer (Option.map (fun (p : Addr) => p.add (Int.toNat x31 * 1)) A0)) :: (.int .u16 x41) :: (.slice A0 p0.length c0) :: (.int .i64 x31) :: (.int .i64 (IntKind.i64.wrap (x31 - 1))) :: (.pointer (Option.map (fun (p : Addr) => p.add (Int.toNat (IntKind.i64.wrap (x31 - 1)) * 1)) A0)) :: (.int .u16 x43) :: (.bool true) :: (.bool true) :: dd u28 31 2 ((.slice A0 p0.length c0) :: (.int .i64 x31) :: (.slice A0 p0.length c0) :: (.int .i64 x31) :: (.int .i64 (IntKind.i64.wrap (x31 - 1))) :: (.slice A0 p0.length c0) :: (.int .i64 x31) :: (.int .i64 (IntKind.i64.wrap (x31 - 1))) :: (.pointer (Option.map (fun (p : Addr) => p.add (Int.toNat (IntKind.i64.wrap (x31 - 1)) * 1)) A0)) :: (.int .u16 xz6_52o8_1) :: (.slice A0 p0.length c0) :: (.int .i64 x31) :: (.pointer (Option.map (fun (p : Addr) => p.add (Int.toNat x31 * 1)) A0)) :: (.int .u16 xz6_52o12_1) :: (.pointer (Option.map (fun (p : Addr) => p.add (Int.toNat x31 * 1)) A0)) :: (.pointer (Option.map (fun (p : Addr) => p.add (Int.toNat (IntKind.i64.wrap (x31 - 1)) * 1)) A0)) :: [])))).toArray, []⟩) (fun _ w => St (foots [rowE .u16 45 A0 c0 p0]) w0 w [rowE .u16 45 A0 c0 lz6_52o17_3]) ?_ ?_
         ·rintro _ w56 hS57
          have hS57 : St _ _ w56 [rowE .u16 45 A0 c0 lz6_52o17_3] := hS57
          show WQ _ _ ⟨((.slice A0 p0.length c0) :: (.int .i64 p1) :: (.int .i64 p2) :: un 3 ((.int .i64 x8) :: (.int .i64 x31) :: (.int .i64 p1) :: (.int .i64 (IntKind.i64.wrap (p1 + 1))) :: (.int .i64 x8) :: (.int .i64 p2) :: (.bool true) :: dd u5 13 2 ((.int .i64 x8) :: (.int .i64 x31) :: (.int .i64 p1) :: (.bool true) :: (.bool true) :: (.slice A0 p0.length c0) :: (.int .i64 x31) :: (.pointer (Option.map (fun (p : Addr) => p.add (Int.toNat x31 * 1)) A0)) :: (.int .u16 x41) :: (.slice A0 p0.length c0) :: (.int .i64 x31) :: (.int .i64 (IntKind.i64.wrap (x31 - 1))) :: (.pointer (Option.map (fun (p : Addr) => p.add (Int.toNat (IntKind.i64.wrap (x31 - 1)) * 1)) A0)) :: (.int .u16 x43) :: (.bool true) :: (.bool true) :: dd u28 31 2 ((.slice A0 p0.length c0) :: (.int .i64 x31) :: (.slice A0 p0.length c0) :: (.int .i64 x31) :: (.int .i64 (IntKind.i64.wrap (x31 - 1))) :: (.slice A0 p0.length c0) :: (.int .i64 x31) :: (.int .i64 (IntKind.i64.wrap (x31 - 1))) :: (.pointer (Option.map (fun (p : Addr) => p.add (Int.toNat (IntKind.i64.wrap (x31 - 1)) * 1)) A0)) :: (.int .u16 xz6_52o8_1) :: (.slice A0 p0.length c0) :: (.int .i64 x31) :: (.pointer (Option.map (fun (p : Addr) => p.add (Int.toNat x31 * 1)) A0)) :: (.int .u16 xz6_52o12_1) :: (.pointer (Option.map (fun (p : Addr) => p.add (Int.toNat x31 * 1)) A0)) :: (.pointer (Option.map (fun (p : Addr) => p.add (Int.toNat (IntKind.i64.wrap (x31 - 1)) * 1)) A0)) :: [])))).toArray, []⟩ _
          refine gx_blkN ?_
          refine gx_thenN ?_
          refine hK52 _ _ ?_
          refine gx_region ?_
          refine gx_k (.int .i64 x31) w56 (gx_k (.int .i64 (IntKind.i64.wrap (x31 - 1))) w56 (gx_k (.int .i64 (IntKind.i64.wrap (x31 - 1))) w56 ?_))
          refine gx_nil ?_
          refine gx_thenN ?_
          exact ⟨k32, Nat.lt_succ_self k32, lz6_52o17_3, (IntKind.i64.wrap (x31 - 1)), selfA_i (by kernel_rfl), hL33, hS57, ((hn29.trans (setx_len hxz6_52o15_4).symm).trans (setx_len hxz6_52o17_4).symm)⟩
         ·intro K58
          refine gd1 0 { dst := some 33, op := _, type := _, pos := _, after := _, guard := _ } (.slice A0 p0.length c0) rfl (hS55.pick [] rfl rfl) (fun w hSw => by kernel_rfl) ?_
          refine gd1 1 { dst := some 34, op := _, type := _, pos := _, after := _, guard := _ } (.int .i64 x31) rfl (hS55.pick [] rfl rfl) (fun w hSw => by kernel_rfl) ?_
          refine gd1 2 { dst := some 35, op := _, type := _, pos := _, after := _, guard := _ } (.slice A0 p0.length c0) rfl (hS55.pick [] rfl rfl) (fun w hSw => by kernel_rfl) ?_
          refine gd1 3 { dst := some 36, op := _, type := _, pos := _, after := _, guard := _ } (.int .i64 x31) rfl (hS55.pick [] rfl rfl) (fun w hSw => by kernel_rfl) ?_
          refine gd1 4 { dst := some 37, op := _, type := _, pos := _, after := _, guard := _ } (.int .i64 (IntKind.i64.wrap (x31 - 1))) rfl (hS55.pick [] rfl rfl) (fun w hSw => by kernel_rfl) ?_
          refine gd1 5 { dst := some 38, op := _, type := _, pos := _, after := _, guard := _ } (.slice A0 p0.length c0) rfl (hS55.pick [] rfl rfl) (fun w hSw => by kernel_rfl) ?_
          refine gd1 6 { dst := some 39, op := _, type := _, pos := _, after := _, guard := _ } (.int .i64 x31) rfl (hS55.pick [] rfl rfl) (fun w hSw => by kernel_rfl) ?_
          refine gd1 7 { dst := some 40, op := _, type := _, pos := _, after := _, guard := _ } (.int .i64 (IntKind.i64.wrap (x31 - 1))) rfl (hS55.pick [] rfl rfl) (fun w hSw => by kernel_rfl) ?_
          refine gd1 8 { dst := some 41, op := _, type := _, pos := _, after := _, guard := _ } (.pointer (Option.map (fun (p : Addr) => p.add (Int.toNat (IntKind.i64.wrap (x31 - 1)) * 1)) A0)) rfl (hS55.pick [] rfl rfl) (fun w hSw => run_ixaddr (E := 45) (s := 1) (k := .i64) (c := c0) rfl (by kernel_rfl) (by kernel_rfl) (by kernel_rfl) (fun _ => by kernel_rfl) (ix_in hxz6_52o8_2).1 (lt_len hn29 (ix_in hxz6_52o8_2).2.1) (nil_len hn29 (num_nil (hS55.row 0 rfl).1))) ?_
          refine gd1 10 { dst := some 43, op := _, type := _, pos := _, after := _, guard := _ } (.slice A0 p0.length c0) rfl (hS55.pick [] rfl rfl) (fun w hSw => by kernel_rfl) ?_
          refine gd1 11 { dst := some 44, op := _, type := _, pos := _, after := _, guard := _ } (.int .i64 x31) rfl (hS55.pick [] rfl rfl) (fun w hSw => by kernel_rfl) ?_
          refine gd1 12 { dst := some 45, op := _, type := _, pos := _, after := _, guard := _ } (.pointer (Option.map (fun (p : Addr) => p.add (Int.toNat x31 * 1)) A0)) rfl (hS55.pick [] rfl rfl) (fun w hSw => run_ixaddr (E := 45) (s := 1) (k := .i64) (c := c0) rfl (by kernel_rfl) (by kernel_rfl) (by kernel_rfl) (fun _ => by kernel_rfl) (ix_in hxz6_52o12_2).1 (lt_len hn29 (ix_in hxz6_52o12_2).2.1) (nil_len hn29 (num_nil (hS55.row 0 rfl).1))) ?_
          refine gd_fork2 9 13 { dst := some 42, op := _, type := _, pos := _, after := _, guard := _ } { dst := some 46, op := _, type := _, pos := _, after := _, guard := _ } rfl rfl ?_ ?_
          ·refine gfR 9 { dst := some 42, op := _, type := _, pos := _, after := _, guard := _ } (R := fun v w => v = .int .u16 xz6_52o8_1 ∧ w54 = w) rfl ⟨_, _, run_loadix rfl (by kernel_rfl) (fun _ => by kernel_rfl) (hS55.row 0 rfl).1 hxz6_52o8_2, rfl, rfl⟩ ?_
           rintro _ _ ⟨rfl, rfl⟩
           refine ⟨(hS55.pick [] rfl rfl), ?_⟩
           refine gdR 13 { dst := some 46, op := _, type := _, pos := _, after := _, guard := _ } (R := fun v w => v = .int .u16 xz6_52o12_1 ∧ w54 = w) rfl ⟨_, _, run_loadix rfl (by kernel_rfl) (fun _ => by kernel_rfl) (hS55.row 0 rfl).1 hxz6_52o12_2, rfl, rfl⟩ ?_
           rintro _ _ ⟨rfl, rfl⟩
           refine ⟨(hS55.pick [] rfl rfl), ?_⟩
           refine gd1 14 { dst := some 47, op := _, type := _, pos := _, after := _, guard := _ } (.pointer (Option.map (fun (p : Addr) => p.add (Int.toNat x31 * 1)) A0)) rfl (hS55.pick [] rfl rfl) (fun w hSw => run_ixaddr (E := 45) (s := 1) (k := .i64) (c := c0) rfl (by kernel_rfl) (by kernel_rfl) (by kernel_rfl) (fun _ => by kernel_rfl) (ix_in hxz6_52o14_2).1 (lt_len hn29 (ix_in hxz6_52o14_2).2.1) (nil_len hn29 (num_nil (hS55.row 0 rfl).1))) ?_
           refine gdS 15 { dst := none, op := _, type := _, pos := _, after := _, guard := _ } rfl (st_storeix rfl (by kernel_rfl) (by kernel_rfl) (fun _ => by kernel_rfl) hS55 0 rfl hxz6_52o15_4) ?_
           rintro wz6_52o15_1 hSz6_52o15_2
           have hSz6_52o15_2 : St _ _ wz6_52o15_1 [rowE .u16 45 A0 c0 lz6_52o15_3] := hSz6_52o15_2
           refine ⟨(hSz6_52o15_2.pick [] rfl rfl), ?_⟩
           refine gd1 16 { dst := some 48, op := _, type := _, pos := _, after := _, guard := _ } (.pointer (Option.map (fun (p : Addr) => p.add (Int.toNat (IntKind.i64.wrap (x31 - 1)) * 1)) A0)) rfl (hSz6_52o15_2.pick [] rfl rfl) (fun w hSw => run_ixaddr (E := 45) (s := 1) (k := .i64) (c := c0) rfl (by kernel_rfl) (by kernel_rfl) (by kernel_rfl) (fun _ => by kernel_rfl) (ix_in hxz6_52o16_2).1 (lt_len (hn29.trans (setx_len hxz6_52o15_4).symm) (ix_in hxz6_52o16_2).2.1) (nil_len (hn29.trans (setx_len hxz6_52o15_4).symm) (num_nil (hSz6_52o15_2.row 0 rfl).1))) ?_
           refine gdS 17 { dst := none, op := _, type := _, pos := _, after := _, guard := _ } rfl (st_storeix rfl (by kernel_rfl) (by kernel_rfl) (fun _ => by kernel_rfl) hSz6_52o15_2 0 rfl hxz6_52o17_4) ?_
           rintro wz6_52o17_1 hSz6_52o17_2
           have hSz6_52o17_2 : St _ _ wz6_52o17_1 [rowE .u16 45 A0 c0 lz6_52o17_3] := hSz6_52o17_2
           refine ⟨(hSz6_52o17_2.pick [] rfl rfl), ?_⟩
           exact gd_meet (by kernel_rfl) (by kernel_rfl) (K58 () _ hSz6_52o17_2)
          ·refine gfR 13 { dst := some 46, op := _, type := _, pos := _, after := _, guard := _ } (R := fun v w => v = .int .u16 xz6_52o12_1 ∧ w54 = w) rfl ⟨_, _, run_loadix rfl (by kernel_rfl) (fun _ => by kernel_rfl) (hS55.row 0 rfl).1 hxz6_52o12_2, rfl, rfl⟩ ?_
           rintro _ _ ⟨rfl, rfl⟩
           refine ⟨(hS55.pick [] rfl rfl), ?_⟩
           refine gdR 9 { dst := some 42, op := _, type := _, pos := _, after := _, guard := _ } (R := fun v w => v = .int .u16 xz6_52o8_1 ∧ w54 = w) rfl ⟨_, _, run_loadix rfl (by kernel_rfl) (fun _ => by kernel_rfl) (hS55.row 0 rfl).1 hxz6_52o8_2, rfl, rfl⟩ ?_
           rintro _ _ ⟨rfl, rfl⟩
           refine ⟨(hS55.pick [] rfl rfl), ?_⟩
           refine gd1 14 { dst := some 47, op := _, type := _, pos := _, after := _, guard := _ } (.pointer (Option.map (fun (p : Addr) => p.add (Int.toNat x31 * 1)) A0)) rfl (hS55.pick [] rfl rfl) (fun w hSw => run_ixaddr (E := 45) (s := 1) (k := .i64) (c := c0) rfl (by kernel_rfl) (by kernel_rfl) (by kernel_rfl) (fun _ => by kernel_rfl) (ix_in hxz6_52o14_2).1 (lt_len hn29 (ix_in hxz6_52o14_2).2.1) (nil_len hn29 (num_nil (hS55.row 0 rfl).1))) ?_
           refine gdS 15 { dst := none, op := _, type := _, pos := _, after := _, guard := _ } rfl (st_storeix rfl (by kernel_rfl) (by kernel_rfl) (fun _ => by kernel_rfl) hS55 0 rfl hxz6_52o15_4) ?_
           rintro wz6_52o15_1 hSz6_52o15_2
           have hSz6_52o15_2 : St _ _ wz6_52o15_1 [rowE .u16 45 A0 c0 lz6_52o15_3] := hSz6_52o15_2
           refine ⟨(hSz6_52o15_2.pick [] rfl rfl), ?_⟩
           refine gd1 16 { dst := some 48, op := _, type := _, pos := _, after := _, guard := _ } (.pointer (Option.map (fun (p : Addr) => p.add (Int.toNat (IntKind.i64.wrap (x31 - 1)) * 1)) A0)) rfl (hSz6_52o15_2.pick [] rfl rfl) (fun w hSw => run_ixaddr (E := 45) (s := 1) (k := .i64) (c := c0) rfl (by kernel_rfl) (by kernel_rfl) (by kernel_rfl) (fun _ => by kernel_rfl) (ix_in hxz6_52o16_2).1 (lt_len (hn29.trans (setx_len hxz6_52o15_4).symm) (ix_in hxz6_52o16_2).2.1) (nil_len (hn29.trans (setx_len hxz6_52o15_4).symm) (num_nil (hSz6_52o15_2.row 0 rfl).1))) ?_
           refine gdS 17 { dst := none, op := _, type := _, pos := _, after := _, guard := _ } rfl (st_storeix rfl (by kernel_rfl) (by kernel_rfl) (fun _ => by kernel_rfl) hSz6_52o15_2 0 rfl hxz6_52o17_4) ?_
           rintro wz6_52o17_1 hSz6_52o17_2
           have hSz6_52o17_2 : St _ _ wz6_52o17_1 [rowE .u16 45 A0 c0 lz6_52o17_3] := hSz6_52o17_2
           refine ⟨(hSz6_52o17_2.pick [] rfl rfl), ?_⟩
           exact gd_meet (by kernel_rfl) (by kernel_rfl) (K58 () _ hSz6_52o17_2)
        | false =>
         try dsimp only at hL33
         refine gx_no (by kernel_rfl) ?_
         refine gx_exit ?_
         refine gx_thenE ?_
         refine gx_thenE ?_
         refine gx_blkE ?_
         refine gx_blkN ?_
         refine gx_thenN ?_
         exact ⟨l30, selfA_i (by kernel_rfl), (Option.some.inj hL33), hS49, hn29⟩
       ·refine gd1 2 { dst := some 18, op := _, type := _, pos := _, after := _, guard := _ } (.bool false) rfl hS39 (fun w hSw => run_boolE (decide_eq_false h40) (by kernel_rfl)) ?_
        refine gd1 3 { dst := some 19, op := _, type := _, pos := _, after := _, guard := _ } (.bool false) rfl hS39 (fun w hSw => by kernel_rfl) ?_
        refine gd0 4 { dst := some 20, op := _, type := _, pos := _, after := _, guard := _ } rfl hS39 ?_
        refine gd0 5 { dst := some 21, op := _, type := _, pos := _, after := _, guard := _ } rfl hS39 ?_
        refine gd0 6 { dst := some 22, op := _, type := _, pos := _, after := _, guard := _ } rfl hS39 ?_
        refine gd0 7 { dst := some 23, op := _, type := _, pos := _, after := _, guard := _ } rfl hS39 ?_
        refine gd0 8 { dst := some 24, op := _, type := _, pos := _, after := _, guard := _ } rfl hS39 ?_
        refine gd0 9 { dst := some 25, op := _, type := _, pos := _, after := _, guard := _ } rfl hS39 ?_
        refine gd0 10 { dst := some 26, op := _, type := _, pos := _, after := _, guard := _ } rfl hS39 ?_
        refine gd0 11 { dst := some 27, op := _, type := _, pos := _, after := _, guard := _ } rfl hS39 ?_
        refine gd0 12 { dst := some 28, op := _, type := _, pos := _, after := _, guard := _ } rfl hS39 ?_
        refine gd0 13 { dst := some 29, op := _, type := _, pos := _, after := _, guard := _ } rfl hS39 ?_
        refine gd1 14 { dst := some 30, op := _, type := _, pos := _, after := _, guard := _ } (.bool false) rfl hS39 (fun w hSw => by kernel_rfl) ?_
        refine gd_done (by kernel_rfl) ?_
        refine gx_thenN ?_
        refine hK37 _ _ ?_
        refine gx_no (by kernel_rfl) ?_
        refine gx_exit ?_
        refine gx_thenE ?_
        refine gx_thenE ?_
        refine gx_blkE ?_
        refine gx_blkN ?_
        refine gx_thenN ?_
        exact ⟨l30, selfA_i (by kernel_rfl), (Option.some.inj hL33), hS39, hn29⟩
    ·rintro _ w16 ⟨l20, hq60, rfl, hS17, hn19⟩
     obtain ⟨u18, rfl⟩ := selfA_u hq60
     try dsimp only at hO23
     refine gx_region ?_
     refine gx_k (.int .i64 x8) w16 (gx_k (.int .i64 (IntKind.i64.wrap (x8 + 1))) w16 (gx_k (.int .i64 (IntKind.i64.wrap (x8 + 1))) w16 ?_))
     refine gx_nil ?_
     refine gx_thenN ?_
     exact ⟨k9, Nat.lt_succ_self k9, l20, (IntKind.i64.wrap (x8 + 1)), selfA_i (by kernel_rfl), hO23, hS17, hn19⟩
   ·refine gx_v (.bool false) w3 (run_boolE (decide_eq_false h15) (by kernel_rfl)) ?_
    refine gx_nil ?_
    refine gx_thenN ?_
    refine hK14 _ _ ?_
    refine gx_no (by kernel_rfl) ?_
    refine gx_exit ?_
    refine gx_thenE ?_
    refine gx_thenE ?_
    refine gx_blkE ?_
    obtain rfl := Option.some.inj hL10
    exact gx_finN (.tuple #[]) (by kernel_rfl) (by kernel_rfl) ⟨_, rfl, rfl, hS4, (hn6).symm⟩

def zSift_L1 (N : Nat) (p2 : Int) (p3 : Int) : Nat → (List Int) → Int → Option (List Int)
 | 0, _, _ => none
 | k9+1, l7, x8 => (if (IntKind.i64.wrap ((IntKind.i64.wrap ((2 : Int) * x8)) + 1)) ≥ p2 then some l7 else (((if (IntKind.i64.wrap ((IntKind.i64.wrap ((IntKind.i64.wrap ((2 : Int) * x8)) + 1)) + 1)) < p2 then ((ix l7 (IntKind.i64.wrap (p3 + (IntKind.i64.wrap ((IntKind.i64.wrap ((2 : Int) * x8)) + 1))))).bind fun x30 => ((ix l7 (IntKind.i64.wrap ((IntKind.i64.wrap (p3 + (IntKind.i64.wrap ((IntKind.i64.wrap ((2 : Int) * x8)) + 1)))) + 1))).bind fun x32 => ((zLess N x30 x32).bind fun b36 => (match b36 with | true => some ((IntKind.i64.wrap ((IntKind.i64.wrap ((IntKind.i64.wrap ((2 : Int) * x8)) + 1)) + 1))) | false => some ((IntKind.i64.wrap ((IntKind.i64.wrap ((2 : Int) * x8)) + 1))))))) else some ((IntKind.i64.wrap ((IntKind.i64.wrap ((2 : Int) * x8)) + 1)))) : Option (Int)).bind fun x21 => ((ix l7 (IntKind.i64.wrap (p3 + x8))).bind fun x46 => ((ix l7 (IntKind.i64.wrap (p3 + x21))).bind fun x48 => ((zLess N x46 x48).bind fun b52 => (match b52 with | true => ((ix l7 (IntKind.i64.wrap (p3 + x21))).bind fun xz6_57o12_1 => ((ix l7 (IntKind.i64.wrap (p3 + x8))).bind fun xz6_57o18_1 => ((ix l7 (IntKind.i64.wrap (p3 + x8))).bind fun _xz6_57o20_1 => ((setx l7 (IntKind.i64.wrap (p3 + x8)) xz6_57o12_1).bind fun lz6_57o21_3 => ((ix lz6_57o21_3 (IntKind.i64.wrap (p3 + x21))).bind fun _xz6_57o22_1 => ((setx lz6_57o21_3 (IntKind.i64.wrap (p3 + x21)) xz6_57o18_1).bind fun lz6_57o23_3 => zSift_L1 N p2 p3 k9 lz6_57o23_3 x21)))))) | false => some l7))))))
def zSift (N : Nat) (p0 : List Int) (p1 : Int) (p2 : Int) (p3 : Int) : Option (List Int) :=
 zSift_L1 N p2 p3 N p0 p1

set_option linter.unusedVariables false in
def zSift_R (p0 : List Int) (p1 : Int) (p2 : Int) (p3 : Int) (A0 : Option Addr) (c0 : Nat) (r : List Int) (w0 : World) (v : Value) (w : World) : Prop := v = .tuple #[] ∧ St (foots [rowE .u16 45 A0 c0 p0]) w0 w [rowE .u16 45 A0 c0 r] ∧ r.length = p0.length

set_option maxRecDepth 100000 in
set_option maxHeartbeats 4000000 in
theorem zSift_ok (N : Nat) (p0 : List Int) (p1 : Int) (p2 : Int) (p3 : Int) (A0 : Option Addr) (c0 : Nat) (r : List Int) (hF : zSift N p0 p1 p2 p3 = some r) (w0 : World) (hl : St (foots [rowE .u16 45 A0 c0 p0]) w0 w0 [rowE .u16 45 A0 c0 p0]) :
  Calls Try.prog 70 #[.slice A0 p0.length c0, .int .i64 p1, .int .i64 p2, .int .i64 p3] w0 fun e w => ∃ v, e = .returned v ∧ zSift_R p0 p1 p2 p3 A0 c0 r w0 v w := by
 have hS0 := hl
 unfold zSift at hF
 refine calls_of Try.func70 rfl ⟨((.slice A0 p0.length c0) :: (.int .i64 p1) :: (.int .i64 p2) :: (.int .i64 p3) :: un 72 ([])).toArray, []⟩ (by kernel_rfl) ?_
 refine gx_seq (fun K1 hK2 => ?_)
 refine gx_region ?_
 refine gx_k (.int .i64 p1) w0 (gx_k (.int .i64 p1) w0 ?_)
 refine gx_nil ?_
 refine gx_thenN ?_
 refine hK2 _ _ ?_
 refine gx_block ?_
 refine gx_loop (fun k a w => ∃ (l7 : List Int) (x8 : Int), selfA (fun u5 => ⟨((.slice A0 p0.length c0) :: (.int .i64 p1) :: (.int .i64 p2) :: (.int .i64 p3) :: un 4 ((.int .i64 x8) :: (u5 9) :: (.int .i64 p1) :: dd u5 11 65 ([]))).toArray, []⟩) a ∧ zSift_L1 N p2 p3 k l7 x8 = some r ∧ St (foots [rowE .u16 45 A0 c0 p0]) w0 w [rowE .u16 45 A0 c0 l7] ∧ p0.length = l7.length) N ?_ ?_
 ·exact ⟨p0, p1, selfA_i (by kernel_rfl), hF, hS0, rfl⟩
 ·rintro k9 _ w3 ⟨l7, x8, hq65, hL10, hS4, hn6⟩
  obtain ⟨u5, rfl⟩ := selfA_u hq65
  cases k9 with
  | zero => cases hL10
  | succ k9 =>
   first | rw [zSift_L1] at hL10 | unfold zSift_L1 at hL10
   refine gx_block ?_
   refine gx_seq (fun K11 hK12 => ?_)
   refine gx_region ?_
   refine gx_k (.int .i64 x8) w3 (gx_k (.int .i64 (IntKind.i64.wrap ((2 : Int) * x8))) w3 (gx_k (.int .i64 (IntKind.i64.wrap ((IntKind.i64.wrap ((2 : Int) * x8)) + 1))) w3 (gx_k (.int .i64 (IntKind.i64.wrap ((IntKind.i64.wrap ((2 : Int) * x8)) + 1))) w3 ?_)))
   refine gx_nil ?_
   refine gx_thenN ?_
   refine hK12 _ _ ?_
   refine gx_seq (fun K13 hK14 => ?_)
   refine gx_seq (fun K15 hK16 => ?_)
   refine gx_region ?_
   refine gx_k (.int .i64 (IntKind.i64.wrap ((IntKind.i64.wrap ((2 : Int) * x8)) + 1))) w3 (gx_k (.int .i64 p2) w3 ?_)
   rcases if_in hL10 with ⟨h17, hL10⟩ | ⟨h17, hL10⟩
   ·refine gx_v (.bool true) w3 (run_boolE (decide_eq_true h17) (by kernel_rfl)) ?_
    refine gx_nil ?_
    refine gx_thenN ?_
    refine hK16 _ _ ?_
    refine gx_yes (by kernel_rfl) ?_
    refine gx_exit ?_
    refine gx_thenE ?_
    refine gx_blkO (by decide) ?_
    refine gx_thenE ?_
    refine gx_blkE ?_
    obtain rfl := Option.some.inj hL10
    exact gx_finN (.tuple #[]) (by kernel_rfl) (by kernel_rfl) ⟨_, rfl, rfl, hS4, (hn6).symm⟩
   ·refine gx_v (.bool false) w3 (run_boolE (decide_eq_false h17) (by kernel_rfl)) ?_
    refine gx_nil ?_
    refine gx_thenN ?_
    refine hK16 _ _ ?_
    refine gx_no (by kernel_rfl) ?_
    refine gx_pass ?_
    refine gx_thenN ?_
    refine hK14 _ _ ?_
    obtain ⟨c22, hE23, hO24⟩ := bind_in hL10
    refine gx_cut (fun a w => ∃ (x21 : Int), selfA (fun u20 => ⟨((.slice A0 p0.length c0) :: (.int .i64 p1) :: (.int .i64 p2) :: (.int .i64 p3) :: un 4 ((.int .i64 x8) :: (.int .i64 x21) :: (.int .i64 p1) :: (.int .i64 x8) :: (.int .i64 (IntKind.i64.wrap ((2 : Int) * x8))) :: (.int .i64 (IntKind.i64.wrap ((IntKind.i64.wrap ((2 : Int) * x8)) + 1))) :: (.int .i64 (IntKind.i64.wrap ((IntKind.i64.wrap ((2 : Int) * x8)) + 1))) :: (.int .i64 p2) :: (.bool false) :: dd u20 17 22 (dd u5 39 37 ([])))).toArray, []⟩) a ∧ x21 = c22 ∧ St (foots [rowE .u16 45 A0 c0 p0]) w0 w [rowE .u16 45 A0 c0 l7]) ?_ ?_
    ·refine gx_seq (fun K25 hK26 => ?_)
     refine gd_start (fun w => St (foots [rowE .u16 45 A0 c0 p0]) w0 w [rowE .u16 45 A0 c0 l7]) 20 #[false, false, false, false, false, false, false, false, false, false, false, false, false, false, false, false, false, false, false, false] (by kernel_rfl) (by kernel_rfl) ?_
     have hS28 := hS4.drew
     generalize w3.drew = w27 at hS28 ⊢
     refine gd1 0 { dst := some 17, op := _, type := _, pos := _, after := _, guard := _ } (.int .i64 (IntKind.i64.wrap ((IntKind.i64.wrap ((2 : Int) * x8)) + 1))) rfl hS28 (fun w hSw => by kernel_rfl) ?_
     refine gd1 1 { dst := some 18, op := _, type := _, pos := _, after := _, guard := _ } (.int .i64 (IntKind.i64.wrap ((IntKind.i64.wrap ((IntKind.i64.wrap ((2 : Int) * x8)) + 1)) + 1))) rfl hS28 (fun w hSw => by kernel_rfl) ?_
     refine gd1 2 { dst := some 19, op := _, type := _, pos := _, after := _, guard := _ } (.int .i64 p2) rfl hS28 (fun w hSw => by kernel_rfl) ?_
     rcases if_in hE23 with ⟨h29, hE23⟩ | ⟨h29, hE23⟩
     ·refine gd1 3 { dst := some 20, op := _, type := _, pos := _, after := _, guard := _ } (.bool true) rfl hS28 (fun w hSw => run_boolE (decide_eq_true h29) (by kernel_rfl)) ?_
      refine gd1 4 { dst := some 21, op := _, type := _, pos := _, after := _, guard := _ } (.bool true) rfl hS28 (fun w hSw => by kernel_rfl) ?_
      refine gd1 5 { dst := some 22, op := _, type := _, pos := _, after := _, guard := _ } (.slice A0 p0.length c0) rfl hS28 (fun w hSw => by kernel_rfl) ?_
      refine gd1 6 { dst := some 23, op := _, type := _, pos := _, after := _, guard := _ } (.int .i64 p3) rfl hS28 (fun w hSw => by kernel_rfl) ?_
      refine gd1 7 { dst := some 24, op := _, type := _, pos := _, after := _, guard := _ } (.int .i64 (IntKind.i64.wrap ((IntKind.i64.wrap ((2 : Int) * x8)) + 1))) rfl hS28 (fun w hSw => by kernel_rfl) ?_
      refine gd1 8 { dst := some 25, op := _, type := _, pos := _, after := _, guard := _ } (.int .i64 (IntKind.i64.wrap (p3 + (IntKind.i64.wrap ((IntKind.i64.wrap ((2 : Int) * x8)) + 1))))) rfl hS28 (fun w hSw => by kernel_rfl) ?_
      obtain ⟨x30, hx31, hE23⟩ := bind_in hE23
      refine gd1 9 { dst := some 26, op := _, type := _, pos := _, after := _, guard := _ } (.pointer (Option.map (fun (p : Addr) => p.add (Int.toNat (IntKind.i64.wrap (p3 + (IntKind.i64.wrap ((IntKind.i64.wrap ((2 : Int) * x8)) + 1)))) * 1)) A0)) rfl hS28 (fun w hSw => run_ixaddr (E := 45) (s := 1) (k := .i64) (c := c0) rfl (by kernel_rfl) (by kernel_rfl) (by kernel_rfl) (fun _ => by kernel_rfl) (ix_in hx31).1 (lt_len hn6 (ix_in hx31).2.1) (nil_len hn6 (num_nil (hS28.row 0 rfl).1))) ?_
      refine gd1 10 { dst := some 27, op := _, type := _, pos := _, after := _, guard := _ } (.int .u16 x30) rfl hS28 (fun w hSw => run_loadix rfl (by kernel_rfl) (fun _ => by kernel_rfl) (hSw.row 0 rfl).1 hx31) ?_
      refine gd1 11 { dst := some 28, op := _, type := _, pos := _, after := _, guard := _ } (.slice A0 p0.length c0) rfl hS28 (fun w hSw => by kernel_rfl) ?_
      refine gd1 12 { dst := some 29, op := _, type := _, pos := _, after := _, guard := _ } (.int .i64 p3) rfl hS28 (fun w hSw => by kernel_rfl) ?_
      refine gd1 13 { dst := some 30, op := _, type := _, pos := _, after := _, guard := _ } (.int .i64 (IntKind.i64.wrap ((IntKind.i64.wrap ((2 : Int) * x8)) + 1))) rfl hS28 (fun w hSw => by kernel_rfl) ?_
      refine gd1 14 { dst := some 31, op := _, type := _, pos := _, after := _, guard := _ } (.int .i64 (IntKind.i64.wrap (p3 + (IntKind.i64.wrap ((IntKind.i64.wrap ((2 : Int) * x8)) + 1))))) rfl hS28 (fun w hSw => by kernel_rfl) ?_
      refine gd1 15 { dst := some 32, op := _, type := _, pos := _, after := _, guard := _ } (.int .i64 (IntKind.i64.wrap ((IntKind.i64.wrap (p3 + (IntKind.i64.wrap ((IntKind.i64.wrap ((2 : Int) * x8)) + 1)))) + 1))) rfl hS28 (fun w hSw => by kernel_rfl) ?_
      obtain ⟨x32, hx33, hE23⟩ := bind_in hE23
      refine gd1 16 { dst := some 33, op := _, type := _, pos := _, after := _, guard := _ } (.pointer (Option.map (fun (p : Addr) => p.add (Int.toNat (IntKind.i64.wrap ((IntKind.i64.wrap (p3 + (IntKind.i64.wrap ((IntKind.i64.wrap ((2 : Int) * x8)) + 1)))) + 1)) * 1)) A0)) rfl hS28 (fun w hSw => run_ixaddr (E := 45) (s := 1) (k := .i64) (c := c0) rfl (by kernel_rfl) (by kernel_rfl) (by kernel_rfl) (fun _ => by kernel_rfl) (ix_in hx33).1 (lt_len hn6 (ix_in hx33).2.1) (nil_len hn6 (num_nil (hS28.row 0 rfl).1))) ?_
      refine gd1 17 { dst := some 34, op := _, type := _, pos := _, after := _, guard := _ } (.int .u16 x32) rfl hS28 (fun w hSw => run_loadix rfl (by kernel_rfl) (fun _ => by kernel_rfl) (hSw.row 0 rfl).1 hx33) ?_
      have hP34 : St _ _ w27 ([] ++ [rowE .u16 45 A0 c0 l7]) := hS28
      obtain ⟨b36, hc35, hE23⟩ := bind_in hE23
      try dsimp only at hE23
      refine gdC 18 { dst := some 35, op := _, type := _, pos := _, after := _, guard := _ } (zLess_R b36 w27) rfl (by kernel_rfl) (zLess_ok N x30 x32 _ hc35 w27 ) ?_
      rintro _ w37 ⟨rfl, hT39⟩
      have hS38 : St _ _ w37 [rowE .u16 45 A0 c0 l7] := hS28.take _ hT39
      refine ⟨hS38, ?_⟩
      refine gd1 19 { dst := some 36, op := _, type := _, pos := _, after := _, guard := _ } (.bool b36) rfl hS38 (fun w hSw => by kernel_rfl) ?_
      refine gd_done (by kernel_rfl) ?_
      refine gx_thenN ?_
      refine hK26 _ _ ?_
      cases b36 with
      | true =>
       try dsimp only at hE23
       refine gx_yes (by kernel_rfl) ?_
       refine gx_region ?_
       refine gx_k (.int .i64 (IntKind.i64.wrap ((IntKind.i64.wrap ((2 : Int) * x8)) + 1))) w37 (gx_k (.int .i64 (IntKind.i64.wrap ((IntKind.i64.wrap ((IntKind.i64.wrap ((2 : Int) * x8)) + 1)) + 1))) w37 (gx_k (.int .i64 (IntKind.i64.wrap ((IntKind.i64.wrap ((IntKind.i64.wrap ((2 : Int) * x8)) + 1)) + 1))) w37 ?_))
       refine gx_nil ?_
       refine gx_thenN ?_
       exact ⟨(IntKind.i64.wrap ((IntKind.i64.wrap ((IntKind.i64.wrap ((2 : Int) * x8)) + 1)) + 1)), selfA_i (by kernel_rfl), (Option.some.inj hE23), hS38⟩
      | false =>
       try dsimp only at hE23
       refine gx_no (by kernel_rfl) ?_
       refine gx_pass ?_
       refine gx_thenN ?_
       exact ⟨(IntKind.i64.wrap ((IntKind.i64.wrap ((2 : Int) * x8)) + 1)), selfA_i (by kernel_rfl), (Option.some.inj hE23), hS38⟩
     ·refine gd1 3 { dst := some 20, op := _, type := _, pos := _, after := _, guard := _ } (.bool false) rfl hS28 (fun w hSw => run_boolE (decide_eq_false h29) (by kernel_rfl)) ?_
      refine gd1 4 { dst := some 21, op := _, type := _, pos := _, after := _, guard := _ } (.bool false) rfl hS28 (fun w hSw => by kernel_rfl) ?_
      refine gd0 5 { dst := some 22, op := _, type := _, pos := _, after := _, guard := _ } rfl hS28 ?_
      refine gd0 6 { dst := some 23, op := _, type := _, pos := _, after := _, guard := _ } rfl hS28 ?_
      refine gd0 7 { dst := some 24, op := _, type := _, pos := _, after := _, guard := _ } rfl hS28 ?_
      refine gd0 8 { dst := some 25, op := _, type := _, pos := _, after := _, guard := _ } rfl hS28 ?_
      refine gd0 9 { dst := some 26, op := _, type := _, pos := _, after := _, guard := _ } rfl hS28 ?_
      refine gd0 10 { dst := some 27, op := _, type := _, pos := _, after := _, guard := _ } rfl hS28 ?_
      refine gd0 11 { dst := some 28, op := _, type := _, pos := _, after := _, guard := _ } rfl hS28 ?_
      refine gd0 12 { dst := some 29, op := _, type := _, pos := _, after := _, guard := _ } rfl hS28 ?_
      refine gd0 13 { dst := some 30, op := _, type := _, pos := _, after := _, guard := _ } rfl hS28 ?_
      refine gd0 14 { dst := some 31, op := _, type := _, pos := _, after := _, guard := _ } rfl hS28 ?_
      refine gd0 15 { dst := some 32, op := _, type := _, pos := _, after := _, guard := _ } rfl hS28 ?_
      refine gd0 16 { dst := some 33, op := _, type := _, pos := _, after := _, guard := _ } rfl hS28 ?_
      refine gd0 17 { dst := some 34, op := _, type := _, pos := _, after := _, guard := _ } rfl hS28 ?_
      refine gd0 18 { dst := some 35, op := _, type := _, pos := _, after := _, guard := _ } rfl hS28 ?_
      refine gd1 19 { dst := some 36, op := _, type := _, pos := _, after := _, guard := _ } (.bool false) rfl hS28 (fun w hSw => by kernel_rfl) ?_
      refine gd_done (by kernel_rfl) ?_
      refine gx_thenN ?_
      refine hK26 _ _ ?_
      refine gx_no (by kernel_rfl) ?_
      refine gx_pass ?_
      refine gx_thenN ?_
      exact ⟨(IntKind.i64.wrap ((IntKind.i64.wrap ((2 : Int) * x8)) + 1)), selfA_i (by kernel_rfl), (Option.some.inj hE23), hS28⟩
    ·rintro _ w18 ⟨x21, hq64, rfl, hS19⟩
     obtain ⟨u20, rfl⟩ := selfA_u hq64
     try dsimp only at hO24
     refine gx_seq (fun K40 hK41 => ?_)
     refine gx_seq (fun K42 hK43 => ?_)
     refine gd_start (fun w => St (foots [rowE .u16 45 A0 c0 p0]) w0 w [rowE .u16 45 A0 c0 l7]) 14 #[false, false, false, false, false, false, false, false, false, false, false, false, false, false] (by kernel_rfl) (by kernel_rfl) ?_
     have hS45 := hS19.drew
     generalize w18.drew = w44 at hS45 ⊢
     refine gd1 0 { dst := some 39, op := _, type := _, pos := _, after := _, guard := _ } (.slice A0 p0.length c0) rfl hS45 (fun w hSw => by kernel_rfl) ?_
     refine gd1 1 { dst := some 40, op := _, type := _, pos := _, after := _, guard := _ } (.int .i64 p3) rfl hS45 (fun w hSw => by kernel_rfl) ?_
     refine gd1 2 { dst := some 41, op := _, type := _, pos := _, after := _, guard := _ } (.int .i64 x8) rfl hS45 (fun w hSw => by kernel_rfl) ?_
     refine gd1 3 { dst := some 42, op := _, type := _, pos := _, after := _, guard := _ } (.int .i64 (IntKind.i64.wrap (p3 + x8))) rfl hS45 (fun w hSw => by kernel_rfl) ?_
     obtain ⟨x46, hx47, hO24⟩ := bind_in hO24
     refine gd1 4 { dst := some 43, op := _, type := _, pos := _, after := _, guard := _ } (.pointer (Option.map (fun (p : Addr) => p.add (Int.toNat (IntKind.i64.wrap (p3 + x8)) * 1)) A0)) rfl hS45 (fun w hSw => run_ixaddr (E := 45) (s := 1) (k := .i64) (c := c0) rfl (by kernel_rfl) (by kernel_rfl) (by kernel_rfl) (fun _ => by kernel_rfl) (ix_in hx47).1 (lt_len hn6 (ix_in hx47).2.1) (nil_len hn6 (num_nil (hS45.row 0 rfl).1))) ?_
     refine gd1 5 { dst := some 44, op := _, type := _, pos := _, after := _, guard := _ } (.int .u16 x46) rfl hS45 (fun w hSw => run_loadix rfl (by kernel_rfl) (fun _ => by kernel_rfl) (hSw.row 0 rfl).1 hx47) ?_
     refine gd1 6 { dst := some 45, op := _, type := _, pos := _, after := _, guard := _ } (.slice A0 p0.length c0) rfl hS45 (fun w hSw => by kernel_rfl) ?_
     refine gd1 7 { dst := some 46, op := _, type := _, pos := _, after := _, guard := _ } (.int .i64 p3) rfl hS45 (fun w hSw => by kernel_rfl) ?_
     refine gd1 8 { dst := some 47, op := _, type := _, pos := _, after := _, guard := _ } (.int .i64 x21) rfl hS45 (fun w hSw => by kernel_rfl) ?_
     refine gd1 9 { dst := some 48, op := _, type := _, pos := _, after := _, guard := _ } (.int .i64 (IntKind.i64.wrap (p3 + x21))) rfl hS45 (fun w hSw => by kernel_rfl) ?_
     obtain ⟨x48, hx49, hO24⟩ := bind_in hO24
     refine gd1 10 { dst := some 49, op := _, type := _, pos := _, after := _, guard := _ } (.pointer (Option.map (fun (p : Addr) => p.add (Int.toNat (IntKind.i64.wrap (p3 + x21)) * 1)) A0)) rfl hS45 (fun w hSw => run_ixaddr (E := 45) (s := 1) (k := .i64) (c := c0) rfl (by kernel_rfl) (by kernel_rfl) (by kernel_rfl) (fun _ => by kernel_rfl) (ix_in hx49).1 (lt_len hn6 (ix_in hx49).2.1) (nil_len hn6 (num_nil (hS45.row 0 rfl).1))) ?_
     refine gd1 11 { dst := some 50, op := _, type := _, pos := _, after := _, guard := _ } (.int .u16 x48) rfl hS45 (fun w hSw => run_loadix rfl (by kernel_rfl) (fun _ => by kernel_rfl) (hSw.row 0 rfl).1 hx49) ?_
     have hP50 : St _ _ w44 ([] ++ [rowE .u16 45 A0 c0 l7]) := hS45
     obtain ⟨b52, hc51, hO24⟩ := bind_in hO24
     try dsimp only at hO24
     refine gdC 12 { dst := some 51, op := _, type := _, pos := _, after := _, guard := _ } (zLess_R b52 w44) rfl (by kernel_rfl) (zLess_ok N x46 x48 _ hc51 w44 ) ?_
     rintro _ w53 ⟨rfl, hT55⟩
     have hS54 : St _ _ w53 [rowE .u16 45 A0 c0 l7] := hS45.take _ hT55
     refine ⟨hS54, ?_⟩
     cases b52 with
     | true =>
      try dsimp only at hO24
      refine gd1 13 { dst := some 52, op := _, type := _, pos := _, after := _, guard := _ } (.bool false) rfl hS54 (fun w hSw => by kernel_rfl) ?_
      refine gd_done (by kernel_rfl) ?_
      refine gx_thenN ?_
      refine hK43 _ _ ?_
      refine gx_no (by kernel_rfl) ?_
      refine gx_pass ?_
      refine gx_thenN ?_
      refine hK41 _ _ ?_
      refine gx_seq (fun K56 hK57 => ?_)
      refine gd_start (fun w => St (foots [rowE .u16 45 A0 c0 p0]) w0 w []) 24 #[false, false, false, false, false, false, false, false, false, false, false, false, false, false, false, false, false, false, false, false, false, false, false, false] (by kernel_rfl) (by kernel_rfl) ?_
      have hS60 := hS54.drew
      generalize w53.drew = w59 at hS60 ⊢
      obtain ⟨xz6_57o12_1, hxz6_57o12_2, hO24⟩ := bind_in hO24
      obtain ⟨xz6_57o18_1, hxz6_57o18_2, hO24⟩ := bind_in hO24
      obtain ⟨xz6_57o20_1, hxz6_57o20_2, hO24⟩ := bind_in hO24
      obtain ⟨lz6_57o21_3, hxz6_57o21_4, hO24⟩ := bind_in hO24
      obtain ⟨xz6_57o22_1, hxz6_57o22_2, hO24⟩ := bind_in hO24
      obtain ⟨lz6_57o23_3, hxz6_57o23_4, hO24⟩ := bind_in hO24
      refine gd_share (X := Unit) (fun _ => ⟨((.slice A0 p0.length c0) :: (.int .i64 p1) :: (.int .i64 p2) :: (.int .i64 p3) :: un 4 ((.int .i64 x8) :: (.int .i64 x21) :: (.int .i64 p1) :: (.int .i64 x8) :: (.int .i64 (IntKind.i64.wrap ((2 : Int) * x8))) :: (.int .i64 (IntKind.i64.wrap ((IntKind.i64.wrap ((2 : Int) * x8)) + 1))) :: (.int .i64 (IntKind.i64.wrap ((IntKind.i64.wrap ((2 : Int) * x8)) + 1))) :: (.int .i64 p2) :: (.bool false) :: dd u20 17 22 ((.slice A0 p0.length c0) :: (.int .i64 p3) :: (.int .i64 x8) :: (.int .i64 (IntKind.i64.wrap (p3 + x8))) :: (.pointer (Option.map (fun (p : Addr) => p.add (Int.toNat (IntKind.i64.wrap (p3 + x8)) * 1)) A0)) :: (.int .u16 x46) :: (.slice A0 p0.length c0) :: (.int .i64 p3) :: (.int .i64 x21) :: (.int .i64 (IntKind.i64.wrap (p3 + x21))) :: (.pointer (Option.map (fun (p : Addr) => p.add (Int.toNat (IntKind.i64.wrap (p3 + x21)) * 1)) A0)) :: (.int .u16 x48) :: (.bool true) :: (.bool false) :: (.slice A0 p0.length c0) :: (.int .i64 p3) :: (.int .i64 x8) :: (.int .i64 (IntKind.i64.wrap (p3 + x8))) :: (.slice A0 p0.length c0) :: (.int .i64 p3) :: (.int .i64 x21) :: (.int .i64 (IntKind.i64.wrap (p3 + x21))) :: (.slice A0 p0.length c0) :: (.int .i64 p3) :: (.int .i64 x21) :: (.int .i64 (IntKind.i64.wrap (p3 + x21))) :: (.pointer (Option.map (fun (p : Addr) => p.add (Int.toNat (IntKind.i64.wrap (p3 + x21)) * 1)) A0)) :: (.int .u16 xz6_57o12_1) :: (.slice A0 p0.length c0) :: (.int .i64 p3) :: (.int .i64 x8) :: (.int .i64 (IntKind.i64.wrap (p3 + x8))) :: (.pointer (Option.map (fun (p : Addr) => p.add (Int.toNat (IntKind.i64.wrap (p3 + x8)) * 1)) A0)) :: (.int .u16 xz6_57o18_1) :: (.pointer (Option.map (fun (p : Addr) => p.add (Int.toNat (IntKind.i64.wrap (p3 + x8)) * 1)) A0)) :: (.pointer (Option.map (fun (p : Addr) => p.add (Int.toNat (IntKind.i64.wrap (p3 + x21)) * 1)) A0)) :: (u5 75) :: []))).toArray, []⟩) (fun _ w => St (foots [rowE .u16 45 A0 c0 p0]) w0 w [rowE .u16 45 A0 c0 lz6_57o23_3]) ?_ ?_
      ·rintro _ w61 hS62
       have hS62 : St _ _ w61 [rowE .u16 45 A0 c0 lz6_57o23_3] := hS62
       show WQ _ _ ⟨((.slice A0 p0.length c0) :: (.int .i64 p1) :: (.int .i64 p2) :: (.int .i64 p3) :: un 4 ((.int .i64 x8) :: (.int .i64 x21) :: (.int .i64 p1) :: (.int .i64 x8) :: (.int .i64 (IntKind.i64.wrap ((2 : Int) * x8))) :: (.int .i64 (IntKind.i64.wrap ((IntKind.i64.wrap ((2 : Int) * x8)) + 1))) :: (.int .i64 (IntKind.i64.wrap ((IntKind.i64.wrap ((2 : Int) * x8)) + 1))) :: (.int .i64 p2) :: (.bool false) :: dd u20 17 22 ((.slice A0 p0.length c0) :: (.int .i64 p3) :: (.int .i64 x8) :: (.int .i64 (IntKind.i64.wrap (p3 + x8))) :: (.pointer (Option.map (fun (p : Addr) => p.add (Int.toNat (IntKind.i64.wrap (p3 + x8)) * 1)) A0)) :: (.int .u16 x46) :: (.slice A0 p0.length c0) :: (.int .i64 p3) :: (.int .i64 x21) :: (.int .i64 (IntKind.i64.wrap (p3 + x21))) :: (.pointer (Option.map (fun (p : Addr) => p.add (Int.toNat (IntKind.i64.wrap (p3 + x21)) * 1)) A0)) :: (.int .u16 x48) :: (.bool true) :: (.bool false) :: (.slice A0 p0.length c0) :: (.int .i64 p3) :: (.int .i64 x8) :: (.int .i64 (IntKind.i64.wrap (p3 + x8))) :: (.slice A0 p0.length c0) :: (.int .i64 p3) :: (.int .i64 x21) :: (.int .i64 (IntKind.i64.wrap (p3 + x21))) :: (.slice A0 p0.length c0) :: (.int .i64 p3) :: (.int .i64 x21) :: (.int .i64 (IntKind.i64.wrap (p3 + x21))) :: (.pointer (Option.map (fun (p : Addr) => p.add (Int.toNat (IntKind.i64.wrap (p3 + x21)) * 1)) A0)) :: (.int .u16 xz6_57o12_1) :: (.slice A0 p0.length c0) :: (.int .i64 p3) :: (.int .i64 x8) :: (.int .i64 (IntKind.i64.wrap (p3 + x8))) :: (.pointer (Option.map (fun (p : Addr) => p.add (Int.toNat (IntKind.i64.wrap (p3 + x8)) * 1)) A0)) :: (.int .u16 xz6_57o18_1) :: (.pointer (Option.map (fun (p : Addr) => p.add (Int.toNat (IntKind.i64.wrap (p3 + x8)) * 1)) A0)) :: (.pointer (Option.map (fun (p : Addr) => p.add (Int.toNat (IntKind.i64.wrap (p3 + x21)) * 1)) A0)) :: (u5 75) :: []))).toArray, []⟩ _
       refine gx_thenN ?_
       refine hK57 _ _ ?_
       refine gx_region ?_
       refine gx_k (.int .i64 x21) w61 (gx_k (.int .i64 x21) w61 ?_)
       refine gx_nil ?_
       refine gx_blkN ?_
       refine gx_thenN ?_
       exact ⟨k9, Nat.lt_succ_self k9, lz6_57o23_3, x21, selfA_i (by kernel_rfl), hO24, hS62, ((hn6.trans (setx_len hxz6_57o21_4).symm).trans (setx_len hxz6_57o23_4).symm)⟩
      ·intro K63
       refine gd1 0 { dst := some 53, op := _, type := _, pos := _, after := _, guard := _ } (.slice A0 p0.length c0) rfl (hS60.pick [] rfl rfl) (fun w hSw => by kernel_rfl) ?_
       refine gd1 1 { dst := some 54, op := _, type := _, pos := _, after := _, guard := _ } (.int .i64 p3) rfl (hS60.pick [] rfl rfl) (fun w hSw => by kernel_rfl) ?_
       refine gd1 2 { dst := some 55, op := _, type := _, pos := _, after := _, guard := _ } (.int .i64 x8) rfl (hS60.pick [] rfl rfl) (fun w hSw => by kernel_rfl) ?_
       refine gd1 3 { dst := some 56, op := _, type := _, pos := _, after := _, guard := _ } (.int .i64 (IntKind.i64.wrap (p3 + x8))) rfl (hS60.pick [] rfl rfl) (fun w hSw => by kernel_rfl) ?_
       refine gd1 4 { dst := some 57, op := _, type := _, pos := _, after := _, guard := _ } (.slice A0 p0.length c0) rfl (hS60.pick [] rfl rfl) (fun w hSw => by kernel_rfl) ?_
       refine gd1 5 { dst := some 58, op := _, type := _, pos := _, after := _, guard := _ } (.int .i64 p3) rfl (hS60.pick [] rfl rfl) (fun w hSw => by kernel_rfl) ?_
       refine gd1 6 { dst := some 59, op := _, type := _, pos := _, after := _, guard := _ } (.int .i64 x21) rfl (hS60.pick [] rfl rfl) (fun w hSw => by kernel_rfl) ?_
       refine gd1 7 { dst := some 60, op := _, type := _, pos := _, after := _, guard := _ } (.int .i64 (IntKind.i64.wrap (p3 + x21))) rfl (hS60.pick [] rfl rfl) (fun w hSw => by kernel_rfl) ?_
       refine gd1 8 { dst := some 61, op := _, type := _, pos := _, after := _, guard := _ } (.slice A0 p0.length c0) rfl (hS60.pick [] rfl rfl) (fun w hSw => by kernel_rfl) ?_
       refine gd1 9 { dst := some 62, op := _, type := _, pos := _, after := _, guard := _ } (.int .i64 p3) rfl (hS60.pick [] rfl rfl) (fun w hSw => by kernel_rfl) ?_
       refine gd1 10 { dst := some 63, op := _, type := _, pos := _, after := _, guard := _ } (.int .i64 x21) rfl (hS60.pick [] rfl rfl) (fun w hSw => by kernel_rfl) ?_
       refine gd1 11 { dst := some 64, op := _, type := _, pos := _, after := _, guard := _ } (.int .i64 (IntKind.i64.wrap (p3 + x21))) rfl (hS60.pick [] rfl rfl) (fun w hSw => by kernel_rfl) ?_
       refine gd1 12 { dst := some 65, op := _, type := _, pos := _, after := _, guard := _ } (.pointer (Option.map (fun (p : Addr) => p.add (Int.toNat (IntKind.i64.wrap (p3 + x21)) * 1)) A0)) rfl (hS60.pick [] rfl rfl) (fun w hSw => run_ixaddr (E := 45) (s := 1) (k := .i64) (c := c0) rfl (by kernel_rfl) (by kernel_rfl) (by kernel_rfl) (fun _ => by kernel_rfl) (ix_in hxz6_57o12_2).1 (lt_len hn6 (ix_in hxz6_57o12_2).2.1) (nil_len hn6 (num_nil (hS60.row 0 rfl).1))) ?_
       refine gd1 14 { dst := some 67, op := _, type := _, pos := _, after := _, guard := _ } (.slice A0 p0.length c0) rfl (hS60.pick [] rfl rfl) (fun w hSw => by kernel_rfl) ?_
       refine gd1 15 { dst := some 68, op := _, type := _, pos := _, after := _, guard := _ } (.int .i64 p3) rfl (hS60.pick [] rfl rfl) (fun w hSw => by kernel_rfl) ?_
       refine gd1 16 { dst := some 69, op := _, type := _, pos := _, after := _, guard := _ } (.int .i64 x8) rfl (hS60.pick [] rfl rfl) (fun w hSw => by kernel_rfl) ?_
       refine gd1 17 { dst := some 70, op := _, type := _, pos := _, after := _, guard := _ } (.int .i64 (IntKind.i64.wrap (p3 + x8))) rfl (hS60.pick [] rfl rfl) (fun w hSw => by kernel_rfl) ?_
       refine gd1 18 { dst := some 71, op := _, type := _, pos := _, after := _, guard := _ } (.pointer (Option.map (fun (p : Addr) => p.add (Int.toNat (IntKind.i64.wrap (p3 + x8)) * 1)) A0)) rfl (hS60.pick [] rfl rfl) (fun w hSw => run_ixaddr (E := 45) (s := 1) (k := .i64) (c := c0) rfl (by kernel_rfl) (by kernel_rfl) (by kernel_rfl) (fun _ => by kernel_rfl) (ix_in hxz6_57o18_2).1 (lt_len hn6 (ix_in hxz6_57o18_2).2.1) (nil_len hn6 (num_nil (hS60.row 0 rfl).1))) ?_
       refine gd_fork2 13 19 { dst := some 66, op := _, type := _, pos := _, after := _, guard := _ } { dst := some 72, op := _, type := _, pos := _, after := _, guard := _ } rfl rfl ?_ ?_
       ·refine gfR 13 { dst := some 66, op := _, type := _, pos := _, after := _, guard := _ } (R := fun v w => v = .int .u16 xz6_57o12_1 ∧ w59 = w) rfl ⟨_, _, run_loadix rfl (by kernel_rfl) (fun _ => by kernel_rfl) (hS60.row 0 rfl).1 hxz6_57o12_2, rfl, rfl⟩ ?_
        rintro _ _ ⟨rfl, rfl⟩
        refine ⟨(hS60.pick [] rfl rfl), ?_⟩
        refine gdR 19 { dst := some 72, op := _, type := _, pos := _, after := _, guard := _ } (R := fun v w => v = .int .u16 xz6_57o18_1 ∧ w59 = w) rfl ⟨_, _, run_loadix rfl (by kernel_rfl) (fun _ => by kernel_rfl) (hS60.row 0 rfl).1 hxz6_57o18_2, rfl, rfl⟩ ?_
        rintro _ _ ⟨rfl, rfl⟩
        refine ⟨(hS60.pick [] rfl rfl), ?_⟩
        refine gd1 20 { dst := some 73, op := _, type := _, pos := _, after := _, guard := _ } (.pointer (Option.map (fun (p : Addr) => p.add (Int.toNat (IntKind.i64.wrap (p3 + x8)) * 1)) A0)) rfl (hS60.pick [] rfl rfl) (fun w hSw => run_ixaddr (E := 45) (s := 1) (k := .i64) (c := c0) rfl (by kernel_rfl) (by kernel_rfl) (by kernel_rfl) (fun _ => by kernel_rfl) (ix_in hxz6_57o20_2).1 (lt_len hn6 (ix_in hxz6_57o20_2).2.1) (nil_len hn6 (num_nil (hS60.row 0 rfl).1))) ?_
        refine gdS 21 { dst := none, op := _, type := _, pos := _, after := _, guard := _ } rfl (st_storeix rfl (by kernel_rfl) (by kernel_rfl) (fun _ => by kernel_rfl) hS60 0 rfl hxz6_57o21_4) ?_
        rintro wz6_57o21_1 hSz6_57o21_2
        have hSz6_57o21_2 : St _ _ wz6_57o21_1 [rowE .u16 45 A0 c0 lz6_57o21_3] := hSz6_57o21_2
        refine ⟨(hSz6_57o21_2.pick [] rfl rfl), ?_⟩
        refine gd1 22 { dst := some 74, op := _, type := _, pos := _, after := _, guard := _ } (.pointer (Option.map (fun (p : Addr) => p.add (Int.toNat (IntKind.i64.wrap (p3 + x21)) * 1)) A0)) rfl (hSz6_57o21_2.pick [] rfl rfl) (fun w hSw => run_ixaddr (E := 45) (s := 1) (k := .i64) (c := c0) rfl (by kernel_rfl) (by kernel_rfl) (by kernel_rfl) (fun _ => by kernel_rfl) (ix_in hxz6_57o22_2).1 (lt_len (hn6.trans (setx_len hxz6_57o21_4).symm) (ix_in hxz6_57o22_2).2.1) (nil_len (hn6.trans (setx_len hxz6_57o21_4).symm) (num_nil (hSz6_57o21_2.row 0 rfl).1))) ?_
        refine gdS 23 { dst := none, op := _, type := _, pos := _, after := _, guard := _ } rfl (st_storeix rfl (by kernel_rfl) (by kernel_rfl) (fun _ => by kernel_rfl) hSz6_57o21_2 0 rfl hxz6_57o23_4) ?_
        rintro wz6_57o23_1 hSz6_57o23_2
        have hSz6_57o23_2 : St _ _ wz6_57o23_1 [rowE .u16 45 A0 c0 lz6_57o23_3] := hSz6_57o23_2
        refine ⟨(hSz6_57o23_2.pick [] rfl rfl), ?_⟩
        exact gd_meet (by kernel_rfl) (by kernel_rfl) (K63 () _ hSz6_57o23_2)
       ·refine gfR 19 { dst := some 72, op := _, type := _, pos := _, after := _, guard := _ } (R := fun v w => v = .int .u16 xz6_57o18_1 ∧ w59 = w) rfl ⟨_, _, run_loadix rfl (by kernel_rfl) (fun _ => by kernel_rfl) (hS60.row 0 rfl).1 hxz6_57o18_2, rfl, rfl⟩ ?_
        rintro _ _ ⟨rfl, rfl⟩
        refine ⟨(hS60.pick [] rfl rfl), ?_⟩
        refine gdR 13 { dst := some 66, op := _, type := _, pos := _, after := _, guard := _ } (R := fun v w => v = .int .u16 xz6_57o12_1 ∧ w59 = w) rfl ⟨_, _, run_loadix rfl (by kernel_rfl) (fun _ => by kernel_rfl) (hS60.row 0 rfl).1 hxz6_57o12_2, rfl, rfl⟩ ?_
        rintro _ _ ⟨rfl, rfl⟩
        refine ⟨(hS60.pick [] rfl rfl), ?_⟩
        refine gd1 20 { dst := some 73, op := _, type := _, pos := _, after := _, guard := _ } (.pointer (Option.map (fun (p : Addr) => p.add (Int.toNat (IntKind.i64.wrap (p3 + x8)) * 1)) A0)) rfl (hS60.pick [] rfl rfl) (fun w hSw => run_ixaddr (E := 45) (s := 1) (k := .i64) (c := c0) rfl (by kernel_rfl) (by kernel_rfl) (by kernel_rfl) (fun _ => by kernel_rfl) (ix_in hxz6_57o20_2).1 (lt_len hn6 (ix_in hxz6_57o20_2).2.1) (nil_len hn6 (num_nil (hS60.row 0 rfl).1))) ?_
        refine gdS 21 { dst := none, op := _, type := _, pos := _, after := _, guard := _ } rfl (st_storeix rfl (by kernel_rfl) (by kernel_rfl) (fun _ => by kernel_rfl) hS60 0 rfl hxz6_57o21_4) ?_
        rintro wz6_57o21_1 hSz6_57o21_2
        have hSz6_57o21_2 : St _ _ wz6_57o21_1 [rowE .u16 45 A0 c0 lz6_57o21_3] := hSz6_57o21_2
        refine ⟨(hSz6_57o21_2.pick [] rfl rfl), ?_⟩
        refine gd1 22 { dst := some 74, op := _, type := _, pos := _, after := _, guard := _ } (.pointer (Option.map (fun (p : Addr) => p.add (Int.toNat (IntKind.i64.wrap (p3 + x21)) * 1)) A0)) rfl (hSz6_57o21_2.pick [] rfl rfl) (fun w hSw => run_ixaddr (E := 45) (s := 1) (k := .i64) (c := c0) rfl (by kernel_rfl) (by kernel_rfl) (by kernel_rfl) (fun _ => by kernel_rfl) (ix_in hxz6_57o22_2).1 (lt_len (hn6.trans (setx_len hxz6_57o21_4).symm) (ix_in hxz6_57o22_2).2.1) (nil_len (hn6.trans (setx_len hxz6_57o21_4).symm) (num_nil (hSz6_57o21_2.row 0 rfl).1))) ?_
        refine gdS 23 { dst := none, op := _, type := _, pos := _, after := _, guard := _ } rfl (st_storeix rfl (by kernel_rfl) (by kernel_rfl) (fun _ => by kernel_rfl) hSz6_57o21_2 0 rfl hxz6_57o23_4) ?_
        rintro wz6_57o23_1 hSz6_57o23_2
        have hSz6_57o23_2 : St _ _ wz6_57o23_1 [rowE .u16 45 A0 c0 lz6_57o23_3] := hSz6_57o23_2
        refine ⟨(hSz6_57o23_2.pick [] rfl rfl), ?_⟩
        exact gd_meet (by kernel_rfl) (by kernel_rfl) (K63 () _ hSz6_57o23_2)
     | false =>
      try dsimp only at hO24
      refine gd1 13 { dst := some 52, op := _, type := _, pos := _, after := _, guard := _ } (.bool true) rfl hS54 (fun w hSw => by kernel_rfl) ?_
      refine gd_done (by kernel_rfl) ?_
      refine gx_thenN ?_
      refine hK43 _ _ ?_
      refine gx_yes (by kernel_rfl) ?_
      refine gx_ret ?_
      refine gx_thenR ?_
      refine gx_blkR ?_
      refine gx_thenR ?_
      refine gx_blkR ?_
      obtain rfl := Option.some.inj hO24
      exact gx_fin (.tuple #[]) (by kernel_rfl) (by kernel_rfl) ⟨_, rfl, rfl, hS54, (hn6).symm⟩

def zHeap_L1 (N : Nat) (p1 : Int) (p2 : Int) : Nat → (List Int) → Int → Option (List Int)
 | 0, _, _ => none
 | k23+1, l21, x22 => (if x22 ≥ 0 then ((zSift N l21 x22 (IntKind.i64.wrap (p2 - p1)) p1).bind fun l34 => zHeap_L1 N p1 p2 k23 l34 (IntKind.i64.wrap (x22 - 1))) else some (l21))
def zHeap_L2 (N : Nat) (p1 : Int) : Nat → (List Int) → Int → Option (List Int)
 | 0, _, _ => none
 | k48+1, l46, x47 => (if x47 ≥ 0 then ((ix l46 (IntKind.i64.wrap (p1 + x47))).bind fun xz10_58o10_1 => ((ix l46 p1).bind fun xz10_58o14_1 => ((ix l46 p1).bind fun _xz10_58o16_1 => ((setx l46 p1 xz10_58o10_1).bind fun lz10_58o17_3 => ((ix lz10_58o17_3 (IntKind.i64.wrap (p1 + x47))).bind fun _xz10_58o18_1 => ((setx lz10_58o17_3 (IntKind.i64.wrap (p1 + x47)) xz10_58o14_1).bind fun lz10_58o19_3 => ((zSift N lz10_58o19_3 (0 : Int) x47 p1).bind fun l66 => zHeap_L2 N p1 k48 l66 (IntKind.i64.wrap (x47 - 1))))))))) else some l46)
def zHeap (N : Nat) (p0 : List Int) (p1 : Int) (p2 : Int) : Option (List Int) :=
 ((zHeap_L1 N p1 p2 N p0 (IntKind.i64.wrap (Int.tdiv (IntKind.i64.wrap ((IntKind.i64.wrap (p2 - p1)) - 1)) 2)) : Option (List Int)).bind fun l11 => zHeap_L2 N p1 N l11 (IntKind.i64.wrap ((IntKind.i64.wrap (p2 - p1)) - 1)))

set_option linter.unusedVariables false in
def zHeap_R (p0 : List Int) (p1 : Int) (p2 : Int) (A0 : Option Addr) (c0 : Nat) (r : List Int) (w0 : World) (v : Value) (w : World) : Prop := v = .tuple #[] ∧ St (foots [rowE .u16 45 A0 c0 p0]) w0 w [rowE .u16 45 A0 c0 r] ∧ r.length = p0.length

set_option maxRecDepth 100000 in
set_option maxHeartbeats 4000000 in
theorem zHeap_ok (N : Nat) (p0 : List Int) (p1 : Int) (p2 : Int) (A0 : Option Addr) (c0 : Nat) (r : List Int) (hF : zHeap N p0 p1 p2 = some r) (w0 : World) (hl : St (foots [rowE .u16 45 A0 c0 p0]) w0 w0 [rowE .u16 45 A0 c0 p0]) :
  Calls Try.prog 55 #[.slice A0 p0.length c0, .int .i64 p1, .int .i64 p2] w0 fun e w => ∃ v, e = .returned v ∧ zHeap_R p0 p1 p2 A0 c0 r w0 v w := by
 have hS0 := hl
 unfold zHeap at hF
 refine calls_of Try.func55 rfl ⟨((.slice A0 p0.length c0) :: (.int .i64 p1) :: (.int .i64 p2) :: un 53 ([])).toArray, []⟩ (by kernel_rfl) ?_
 refine gx_seq (fun K1 hK2 => ?_)
 refine gx_region ?_
 refine gx_k (.int .i64 p1) w0 (gx_k (.int .i64 p1) w0 ?_)
 refine gx_nil ?_
 refine gx_thenN ?_
 refine hK2 _ _ ?_
 refine gx_seq (fun K3 hK4 => ?_)
 refine gx_region ?_
 refine gx_k (.int .i64 0) w0 ?_
 refine gx_nil ?_
 refine gx_thenN ?_
 refine hK4 _ _ ?_
 refine gx_seq (fun K5 hK6 => ?_)
 refine gx_region ?_
 refine gx_k (.int .i64 p2) w0 (gx_k (.int .i64 p1) w0 (gx_k (.int .i64 (IntKind.i64.wrap (p2 - p1))) w0 (gx_k (.int .i64 (IntKind.i64.wrap (p2 - p1))) w0 ?_)))
 refine gx_nil ?_
 refine gx_thenN ?_
 refine hK6 _ _ ?_
 obtain ⟨c12, hE13, hO14⟩ := bind_in hF
 refine gx_cut (fun a w => ∃ (l11 : List Int), selfA (fun u9 => ⟨((.slice A0 p0.length c0) :: (.int .i64 p1) :: (.int .i64 p2) :: un 3 ((.int .i64 p1) :: (.int .i64 0) :: (.int .i64 (IntKind.i64.wrap (p2 - p1))) :: (u9 9) :: undef :: (.int .i64 p1) :: (.int .i64 p2) :: (.int .i64 p1) :: (.int .i64 (IntKind.i64.wrap (p2 - p1))) :: dd u9 15 12 (un 29 ([])))).toArray, []⟩) a ∧ l11 = c12 ∧ St (foots [rowE .u16 45 A0 c0 p0]) w0 w [rowE .u16 45 A0 c0 l11] ∧ p0.length = l11.length) ?_ ?_
 ·refine gx_seq (fun K15 hK16 => ?_)
  refine gx_region ?_
  refine gx_k (.int .i64 (IntKind.i64.wrap (p2 - p1))) w0 (gx_k (.int .i64 (IntKind.i64.wrap ((IntKind.i64.wrap (p2 - p1)) - 1))) w0 (gx_k (.int .i64 (IntKind.i64.wrap (Int.tdiv (IntKind.i64.wrap ((IntKind.i64.wrap (p2 - p1)) - 1)) 2))) w0 (gx_k (.int .i64 (IntKind.i64.wrap (Int.tdiv (IntKind.i64.wrap ((IntKind.i64.wrap (p2 - p1)) - 1)) 2))) w0 ?_)))
  refine gx_nil ?_
  refine gx_thenN ?_
  refine hK16 _ _ ?_
  refine gx_block ?_
  refine gx_loop (fun k a w => ∃ (l21 : List Int) (x22 : Int), selfA (fun u19 => ⟨((.slice A0 p0.length c0) :: (.int .i64 p1) :: (.int .i64 p2) :: un 3 ((.int .i64 p1) :: (.int .i64 0) :: (.int .i64 (IntKind.i64.wrap (p2 - p1))) :: (.int .i64 x22) :: undef :: (.int .i64 p1) :: (.int .i64 p2) :: (.int .i64 p1) :: (.int .i64 (IntKind.i64.wrap (p2 - p1))) :: (.int .i64 (IntKind.i64.wrap (p2 - p1))) :: (.int .i64 (IntKind.i64.wrap ((IntKind.i64.wrap (p2 - p1)) - 1))) :: (.int .i64 (IntKind.i64.wrap (Int.tdiv (IntKind.i64.wrap ((IntKind.i64.wrap (p2 - p1)) - 1)) 2))) :: dd u19 18 9 (un 29 ([])))).toArray, []⟩) a ∧ zHeap_L1 N p1 p2 k l21 x22 = some c12 ∧ St (foots [rowE .u16 45 A0 c0 p0]) w0 w [rowE .u16 45 A0 c0 l21] ∧ p0.length = l21.length) N ?_ ?_
  ·exact ⟨p0, (IntKind.i64.wrap (Int.tdiv (IntKind.i64.wrap ((IntKind.i64.wrap (p2 - p1)) - 1)) 2)), selfA_i (by kernel_rfl), hE13, hS0, rfl⟩
  ·rintro k23 _ w17 ⟨l21, x22, hq39, hL24, hS18, hn20⟩
   obtain ⟨u19, rfl⟩ := selfA_u hq39
   cases k23 with
   | zero => cases hL24
   | succ k23 =>
    first | rw [zHeap_L1] at hL24 | unfold zHeap_L1 at hL24
    refine gx_seq (fun K25 hK26 => ?_)
    refine gx_seq (fun K27 hK28 => ?_)
    refine gx_region ?_
    refine gx_k (.int .i64 x22) w17 ?_
    rcases if_in hL24 with ⟨h29, hL24⟩ | ⟨h29, hL24⟩
    ·refine gx_v (.bool true) w17 (run_boolE (decide_eq_true h29) (by kernel_rfl)) ?_
     refine gx_nil ?_
     refine gx_thenN ?_
     refine hK28 _ _ ?_
     refine gx_yes (by kernel_rfl) ?_
     refine gx_pass ?_
     refine gx_thenN ?_
     refine hK26 _ _ ?_
     refine gx_seq (fun K30 hK31 => ?_)
     refine gx_block ?_
     refine gx_region ?_
     refine gx_k (.slice A0 p0.length c0) w17 (gx_k (.int .i64 x22) w17 (gx_k (.int .i64 (IntKind.i64.wrap (p2 - p1))) w17 (gx_k (.int .i64 p1) w17 ?_)))
     have hP32 : St _ _ w17 ([rowE .u16 45 A0 c0 l21] ++ []) := hS18
     obtain ⟨l34, hc33, hL24⟩ := bind_in hL24
     try dsimp only at hL24
     refine gx_call (zSift_R l21 x22 (IntKind.i64.wrap (p2 - p1)) p1 A0 c0 l34 w17) (by kernel_rfl) (by rw [← hn20] <;> kernel_rfl) (zSift_ok N l21 x22 (IntKind.i64.wrap (p2 - p1)) p1 A0 c0 _ hc33 w17 hP32.part) ?_
     rintro _ w36 ⟨rfl, hT38, hl35⟩
     have hS37 : St _ _ w36 [rowE .u16 45 A0 c0 l34] := hP32.lendN _ hT38
     refine gx_nil ?_
     refine gx_blkN ?_
     refine gx_thenN ?_
     refine hK31 _ _ ?_
     refine gx_region ?_
     refine gx_k (.int .i64 x22) w36 (gx_k (.int .i64 (IntKind.i64.wrap (x22 - 1))) w36 (gx_k (.int .i64 (IntKind.i64.wrap (x22 - 1))) w36 ?_))
     refine gx_nil ?_
     refine gx_thenN ?_
     exact ⟨k23, Nat.lt_succ_self k23, l34, (IntKind.i64.wrap (x22 - 1)), selfA_i (by kernel_rfl), hL24, hS37, (hn20.trans hl35.symm)⟩
    ·refine gx_v (.bool false) w17 (run_boolE (decide_eq_false h29) (by kernel_rfl)) ?_
     refine gx_nil ?_
     refine gx_thenN ?_
     refine hK28 _ _ ?_
     refine gx_no (by kernel_rfl) ?_
     refine gx_exit ?_
     refine gx_thenE ?_
     refine gx_thenE ?_
     refine gx_blkE ?_
     refine gx_thenN ?_
     exact ⟨l21, selfA_i (by kernel_rfl), (Option.some.inj hL24), hS18, hn20⟩
 ·rintro _ w7 ⟨l11, hq73, rfl, hS8, hn10⟩
  obtain ⟨u9, rfl⟩ := selfA_u hq73
  try dsimp only at hO14
  refine gx_seq (fun K40 hK41 => ?_)
  refine gx_region ?_
  refine gx_k (.int .i64 (IntKind.i64.wrap (p2 - p1))) w7 (gx_k (.int .i64 (IntKind.i64.wrap ((IntKind.i64.wrap (p2 - p1)) - 1))) w7 (gx_k (.int .i64 (IntKind.i64.wrap ((IntKind.i64.wrap (p2 - p1)) - 1))) w7 ?_))
  refine gx_nil ?_
  refine gx_thenN ?_
  refine hK41 _ _ ?_
  refine gx_block ?_
  refine gx_loop (fun k a w => ∃ (l46 : List Int) (x47 : Int), selfA (fun u44 => ⟨((.slice A0 p0.length c0) :: (.int .i64 p1) :: (.int .i64 p2) :: un 3 ((.int .i64 p1) :: (.int .i64 0) :: (.int .i64 (IntKind.i64.wrap (p2 - p1))) :: (u9 9) :: (.int .i64 x47) :: (.int .i64 p1) :: (.int .i64 p2) :: (.int .i64 p1) :: (.int .i64 (IntKind.i64.wrap (p2 - p1))) :: dd u9 15 12 ((.int .i64 (IntKind.i64.wrap (p2 - p1))) :: (.int .i64 (IntKind.i64.wrap ((IntKind.i64.wrap (p2 - p1)) - 1))) :: dd u44 29 27 ([])))).toArray, []⟩) a ∧ zHeap_L2 N p1 k l46 x47 = some r ∧ St (foots [rowE .u16 45 A0 c0 p0]) w0 w [rowE .u16 45 A0 c0 l46] ∧ p0.length = l46.length) N ?_ ?_
  ·exact ⟨l11, (IntKind.i64.wrap ((IntKind.i64.wrap (p2 - p1)) - 1)), selfA_i (by kernel_rfl), hO14, hS8, hn10⟩
  ·rintro k48 _ w42 ⟨l46, x47, hq72, hL49, hS43, hn45⟩
   obtain ⟨u44, rfl⟩ := selfA_u hq72
   cases k48 with
   | zero => cases hL49
   | succ k48 =>
    first | rw [zHeap_L2] at hL49 | unfold zHeap_L2 at hL49
    refine gx_seq (fun K50 hK51 => ?_)
    refine gx_seq (fun K52 hK53 => ?_)
    refine gx_region ?_
    refine gx_k (.int .i64 x47) w42 ?_
    rcases if_in hL49 with ⟨h54, hL49⟩ | ⟨h54, hL49⟩
    ·refine gx_v (.bool true) w42 (run_boolE (decide_eq_true h54) (by kernel_rfl)) ?_
     refine gx_nil ?_
     refine gx_thenN ?_
     refine hK53 _ _ ?_
     refine gx_yes (by kernel_rfl) ?_
     refine gx_pass ?_
     refine gx_thenN ?_
     refine hK51 _ _ ?_
     refine gx_seq (fun K55 hK56 => ?_)
     refine gx_block ?_
     refine gx_seq (fun K57 hK58 => ?_)
     refine gd_start (fun w => St (foots [rowE .u16 45 A0 c0 p0]) w0 w []) 20 #[false, false, false, false, false, false, false, false, false, false, false, false, false, false, false, false, false, false, false, false] (by kernel_rfl) (by kernel_rfl) ?_
     have hS61 := hS43.drew
     generalize w42.drew = w60 at hS61 ⊢
     obtain ⟨xz10_58o10_1, hxz10_58o10_2, hL49⟩ := bind_in hL49
     obtain ⟨xz10_58o14_1, hxz10_58o14_2, hL49⟩ := bind_in hL49
     obtain ⟨xz10_58o16_1, hxz10_58o16_2, hL49⟩ := bind_in hL49
     obtain ⟨lz10_58o17_3, hxz10_58o17_4, hL49⟩ := bind_in hL49
     obtain ⟨xz10_58o18_1, hxz10_58o18_2, hL49⟩ := bind_in hL49
     obtain ⟨lz10_58o19_3, hxz10_58o19_4, hL49⟩ := bind_in hL49
     refine gd_share (X := Unit) (fun _ => ⟨((.slice A0 p0.length c0) :: (.int .i64 p1) :: (.int .i64 p2) :: un 3 ((.int .i64 p1) :: (.int .i64 0) :: (.int .i64 (IntKind.i64.wrap (p2 - p1))) :: (u9 9) :: (.int .i64 x47) :: (.int .i64 p1) :: (.int .i64 p2) :: (.int .i64 p1) :: (.int .i64 (IntKind.i64.wrap (p2 - p1))) :: dd u9 15 12 ((.int .i64 (IntKind.i64.wrap (p2 - p1))) :: (.int .i64 (IntKind.i64.wrap ((IntKind.i64.wrap (p2 - p1)) - 1))) :: (.int .i64 x47) :: (.bool true) :: dd u44 31 2 ((.slice A0 p0.length c0) :: (.int .i64 p1) :: (.slice A0 p0.length c0) :: (.int .i64 p1) :: (.int .i64 x47) :: (.int .i64 (IntKind.i64.wrap (p1 + x47))) :: (.slice A0 p0.length c0) :: (.int .i64 p1) :: (.int .i64 x47) :: (.int .i64 (IntKind.i64.wrap (p1 + x47))) :: (.pointer (Option.map (fun (p : Addr) => p.add (Int.toNat (IntKind.i64.wrap (p1 + x47)) * 1)) A0)) :: (.int .u16 xz10_58o10_1) :: (.slice A0 p0.length c0) :: (.int .i64 p1) :: (.pointer (Option.map (fun (p : Addr) => p.add (Int.toNat p1 * 1)) A0)) :: (.int .u16 xz10_58o14_1) :: (.pointer (Option.map (fun (p : Addr) => p.add (Int.toNat p1 * 1)) A0)) :: (.pointer (Option.map (fun (p : Addr) => p.add (Int.toNat (IntKind.i64.wrap (p1 + x47)) * 1)) A0)) :: dd u44 51 5 ([]))))).toArray, []⟩) (fun _ w => St (foots [rowE .u16 45 A0 c0 p0]) w0 w [rowE .u16 45 A0 c0 lz10_58o19_3]) ?_ ?_
     ·rintro _ w62 hS63
      have hS63 : St _ _ w62 [rowE .u16 45 A0 c0 lz10_58o19_3] := hS63
      show WQ _ _ ⟨((.slice A0 p0.length c0) :: (.int .i64 p1) :: (.int .i64 p2) :: un 3 ((.int .i64 p1) :: (.int .i64 0) :: (.int .i64 (IntKind.i64.wrap (p2 - p1))) :: (u9 9) :: (.int .i64 x47) :: (.int .i64 p1) :: (.int .i64 p2) :: (.int .i64 p1) :: (.int .i64 (IntKind.i64.wrap (p2 - p1))) :: dd u9 15 12 ((.int .i64 (IntKind.i64.wrap (p2 - p1))) :: (.int .i64 (IntKind.i64.wrap ((IntKind.i64.wrap (p2 - p1)) - 1))) :: (.int .i64 x47) :: (.bool true) :: dd u44 31 2 ((.slice A0 p0.length c0) :: (.int .i64 p1) :: (.slice A0 p0.length c0) :: (.int .i64 p1) :: (.int .i64 x47) :: (.int .i64 (IntKind.i64.wrap (p1 + x47))) :: (.slice A0 p0.length c0) :: (.int .i64 p1) :: (.int .i64 x47) :: (.int .i64 (IntKind.i64.wrap (p1 + x47))) :: (.pointer (Option.map (fun (p : Addr) => p.add (Int.toNat (IntKind.i64.wrap (p1 + x47)) * 1)) A0)) :: (.int .u16 xz10_58o10_1) :: (.slice A0 p0.length c0) :: (.int .i64 p1) :: (.pointer (Option.map (fun (p : Addr) => p.add (Int.toNat p1 * 1)) A0)) :: (.int .u16 xz10_58o14_1) :: (.pointer (Option.map (fun (p : Addr) => p.add (Int.toNat p1 * 1)) A0)) :: (.pointer (Option.map (fun (p : Addr) => p.add (Int.toNat (IntKind.i64.wrap (p1 + x47)) * 1)) A0)) :: dd u44 51 5 ([]))))).toArray, []⟩ _
      refine gx_thenN ?_
      refine hK58 _ _ ?_
      refine gx_region ?_
      refine gx_k (.slice A0 p0.length c0) w62 (gx_k (.int .i64 0) w62 (gx_k (.int .i64 x47) w62 (gx_k (.int .i64 p1) w62 ?_)))
      have hP64 : St _ _ w62 ([rowE .u16 45 A0 c0 lz10_58o19_3] ++ []) := hS63
      obtain ⟨l66, hc65, hL49⟩ := bind_in hL49
      try dsimp only at hL49
      refine gx_call (zSift_R lz10_58o19_3 (0 : Int) x47 p1 A0 c0 l66 w62) (by kernel_rfl) (by rw [← ((hn45.trans (setx_len hxz10_58o17_4).symm).trans (setx_len hxz10_58o19_4).symm)] <;> kernel_rfl) (zSift_ok N lz10_58o19_3 (0 : Int) x47 p1 A0 c0 _ hc65 w62 hP64.part) ?_
      rintro _ w68 ⟨rfl, hT70, hl67⟩
      have hS69 : St _ _ w68 [rowE .u16 45 A0 c0 l66] := hP64.lendN _ hT70
      refine gx_nil ?_
      refine gx_blkN ?_
      refine gx_thenN ?_
      refine hK56 _ _ ?_
      refine gx_region ?_
      refine gx_k (.int .i64 x47) w68 (gx_k (.int .i64 (IntKind.i64.wrap (x47 - 1))) w68 (gx_k (.int .i64 (IntKind.i64.wrap (x47 - 1))) w68 ?_))
      refine gx_nil ?_
      refine gx_thenN ?_
      exact ⟨k48, Nat.lt_succ_self k48, l66, (IntKind.i64.wrap (x47 - 1)), selfA_i (by kernel_rfl), hL49, hS69, (((hn45.trans (setx_len hxz10_58o17_4).symm).trans (setx_len hxz10_58o19_4).symm).trans hl67.symm)⟩
     ·intro K71
      refine gd1 0 { dst := some 33, op := _, type := _, pos := _, after := _, guard := _ } (.slice A0 p0.length c0) rfl (hS61.pick [] rfl rfl) (fun w hSw => by kernel_rfl) ?_
      refine gd1 1 { dst := some 34, op := _, type := _, pos := _, after := _, guard := _ } (.int .i64 p1) rfl (hS61.pick [] rfl rfl) (fun w hSw => by kernel_rfl) ?_
      refine gd1 2 { dst := some 35, op := _, type := _, pos := _, after := _, guard := _ } (.slice A0 p0.length c0) rfl (hS61.pick [] rfl rfl) (fun w hSw => by kernel_rfl) ?_
      refine gd1 3 { dst := some 36, op := _, type := _, pos := _, after := _, guard := _ } (.int .i64 p1) rfl (hS61.pick [] rfl rfl) (fun w hSw => by kernel_rfl) ?_
      refine gd1 4 { dst := some 37, op := _, type := _, pos := _, after := _, guard := _ } (.int .i64 x47) rfl (hS61.pick [] rfl rfl) (fun w hSw => by kernel_rfl) ?_
      refine gd1 5 { dst := some 38, op := _, type := _, pos := _, after := _, guard := _ } (.int .i64 (IntKind.i64.wrap (p1 + x47))) rfl (hS61.pick [] rfl rfl) (fun w hSw => by kernel_rfl) ?_
      refine gd1 6 { dst := some 39, op := _, type := _, pos := _, after := _, guard := _ } (.slice A0 p0.length c0) rfl (hS61.pick [] rfl rfl) (fun w hSw => by kernel_rfl) ?_
      refine gd1 7 { dst := some 40, op := _, type := _, pos := _, after := _, guard := _ } (.int .i64 p1) rfl (hS61.pick [] rfl rfl) (fun w hSw => by kernel_rfl) ?_
      refine gd1 8 { dst := some 41, op := _, type := _, pos := _, after := _, guard := _ } (.int .i64 x47) rfl (hS61.pick [] rfl rfl) (fun w hSw => by kernel_rfl) ?_
      refine gd1 9 { dst := some 42, op := _, type := _, pos := _, after := _, guard := _ } (.int .i64 (IntKind.i64.wrap (p1 + x47))) rfl (hS61.pick [] rfl rfl) (fun w hSw => by kernel_rfl) ?_
      refine gd1 10 { dst := some 43, op := _, type := _, pos := _, after := _, guard := _ } (.pointer (Option.map (fun (p : Addr) => p.add (Int.toNat (IntKind.i64.wrap (p1 + x47)) * 1)) A0)) rfl (hS61.pick [] rfl rfl) (fun w hSw => run_ixaddr (E := 45) (s := 1) (k := .i64) (c := c0) rfl (by kernel_rfl) (by kernel_rfl) (by kernel_rfl) (fun _ => by kernel_rfl) (ix_in hxz10_58o10_2).1 (lt_len hn45 (ix_in hxz10_58o10_2).2.1) (nil_len hn45 (num_nil (hS61.row 0 rfl).1))) ?_
      refine gd1 12 { dst := some 45, op := _, type := _, pos := _, after := _, guard := _ } (.slice A0 p0.length c0) rfl (hS61.pick [] rfl rfl) (fun w hSw => by kernel_rfl) ?_
      refine gd1 13 { dst := some 46, op := _, type := _, pos := _, after := _, guard := _ } (.int .i64 p1) rfl (hS61.pick [] rfl rfl) (fun w hSw => by kernel_rfl) ?_
      refine gd1 14 { dst := some 47, op := _, type := _, pos := _, after := _, guard := _ } (.pointer (Option.map (fun (p : Addr) => p.add (Int.toNat p1 * 1)) A0)) rfl (hS61.pick [] rfl rfl) (fun w hSw => run_ixaddr (E := 45) (s := 1) (k := .i64) (c := c0) rfl (by kernel_rfl) (by kernel_rfl) (by kernel_rfl) (fun _ => by kernel_rfl) (ix_in hxz10_58o14_2).1 (lt_len hn45 (ix_in hxz10_58o14_2).2.1) (nil_len hn45 (num_nil (hS61.row 0 rfl).1))) ?_
      refine gd_fork2 11 15 { dst := some 44, op := _, type := _, pos := _, after := _, guard := _ } { dst := some 48, op := _, type := _, pos := _, after := _, guard := _ } rfl rfl ?_ ?_
      ·refine gfR 11 { dst := some 44, op := _, type := _, pos := _, after := _, guard := _ } (R := fun v w => v = .int .u16 xz10_58o10_1 ∧ w60 = w) rfl ⟨_, _, run_loadix rfl (by kernel_rfl) (fun _ => by kernel_rfl) (hS61.row 0 rfl).1 hxz10_58o10_2, rfl, rfl⟩ ?_
       rintro _ _ ⟨rfl, rfl⟩
       refine ⟨(hS61.pick [] rfl rfl), ?_⟩
       refine gdR 15 { dst := some 48, op := _, type := _, pos := _, after := _, guard := _ } (R := fun v w => v = .int .u16 xz10_58o14_1 ∧ w60 = w) rfl ⟨_, _, run_loadix rfl (by kernel_rfl) (fun _ => by kernel_rfl) (hS61.row 0 rfl).1 hxz10_58o14_2, rfl, rfl⟩ ?_
       rintro _ _ ⟨rfl, rfl⟩
       refine ⟨(hS61.pick [] rfl rfl), ?_⟩
       refine gd1 16 { dst := some 49, op := _, type := _, pos := _, after := _, guard := _ } (.pointer (Option.map (fun (p : Addr) => p.add (Int.toNat p1 * 1)) A0)) rfl (hS61.pick [] rfl rfl) (fun w hSw => run_ixaddr (E := 45) (s := 1) (k := .i64) (c := c0) rfl (by kernel_rfl) (by kernel_rfl) (by kernel_rfl) (fun _ => by kernel_rfl) (ix_in hxz10_58o16_2).1 (lt_len hn45 (ix_in hxz10_58o16_2).2.1) (nil_len hn45 (num_nil (hS61.row 0 rfl).1))) ?_
       refine gdS 17 { dst := none, op := _, type := _, pos := _, after := _, guard := _ } rfl (st_storeix rfl (by kernel_rfl) (by kernel_rfl) (fun _ => by kernel_rfl) hS61 0 rfl hxz10_58o17_4) ?_
       rintro wz10_58o17_1 hSz10_58o17_2
       have hSz10_58o17_2 : St _ _ wz10_58o17_1 [rowE .u16 45 A0 c0 lz10_58o17_3] := hSz10_58o17_2
       refine ⟨(hSz10_58o17_2.pick [] rfl rfl), ?_⟩
       refine gd1 18 { dst := some 50, op := _, type := _, pos := _, after := _, guard := _ } (.pointer (Option.map (fun (p : Addr) => p.add (Int.toNat (IntKind.i64.wrap (p1 + x47)) * 1)) A0)) rfl (hSz10_58o17_2.pick [] rfl rfl) (fun w hSw => run_ixaddr (E := 45) (s := 1) (k := .i64) (c := c0) rfl (by kernel_rfl) (by kernel_rfl) (by kernel_rfl) (fun _ => by kernel_rfl) (ix_in hxz10_58o18_2).1 (lt_len (hn45.trans (setx_len hxz10_58o17_4).symm) (ix_in hxz10_58o18_2).2.1) (nil_len (hn45.trans (setx_len hxz10_58o17_4).symm) (num_nil (hSz10_58o17_2.row 0 rfl).1))) ?_
       refine gdS 19 { dst := none, op := _, type := _, pos := _, after := _, guard := _ } rfl (st_storeix rfl (by kernel_rfl) (by kernel_rfl) (fun _ => by kernel_rfl) hSz10_58o17_2 0 rfl hxz10_58o19_4) ?_
       rintro wz10_58o19_1 hSz10_58o19_2
       have hSz10_58o19_2 : St _ _ wz10_58o19_1 [rowE .u16 45 A0 c0 lz10_58o19_3] := hSz10_58o19_2
       refine ⟨(hSz10_58o19_2.pick [] rfl rfl), ?_⟩
       exact gd_meet (by kernel_rfl) (by kernel_rfl) (K71 () _ hSz10_58o19_2)
      ·refine gfR 15 { dst := some 48, op := _, type := _, pos := _, after := _, guard := _ } (R := fun v w => v = .int .u16 xz10_58o14_1 ∧ w60 = w) rfl ⟨_, _, run_loadix rfl (by kernel_rfl) (fun _ => by kernel_rfl) (hS61.row 0 rfl).1 hxz10_58o14_2, rfl, rfl⟩ ?_
       rintro _ _ ⟨rfl, rfl⟩
       refine ⟨(hS61.pick [] rfl rfl), ?_⟩
       refine gdR 11 { dst := some 44, op := _, type := _, pos := _, after := _, guard := _ } (R := fun v w => v = .int .u16 xz10_58o10_1 ∧ w60 = w) rfl ⟨_, _, run_loadix rfl (by kernel_rfl) (fun _ => by kernel_rfl) (hS61.row 0 rfl).1 hxz10_58o10_2, rfl, rfl⟩ ?_
       rintro _ _ ⟨rfl, rfl⟩
       refine ⟨(hS61.pick [] rfl rfl), ?_⟩
       refine gd1 16 { dst := some 49, op := _, type := _, pos := _, after := _, guard := _ } (.pointer (Option.map (fun (p : Addr) => p.add (Int.toNat p1 * 1)) A0)) rfl (hS61.pick [] rfl rfl) (fun w hSw => run_ixaddr (E := 45) (s := 1) (k := .i64) (c := c0) rfl (by kernel_rfl) (by kernel_rfl) (by kernel_rfl) (fun _ => by kernel_rfl) (ix_in hxz10_58o16_2).1 (lt_len hn45 (ix_in hxz10_58o16_2).2.1) (nil_len hn45 (num_nil (hS61.row 0 rfl).1))) ?_
       refine gdS 17 { dst := none, op := _, type := _, pos := _, after := _, guard := _ } rfl (st_storeix rfl (by kernel_rfl) (by kernel_rfl) (fun _ => by kernel_rfl) hS61 0 rfl hxz10_58o17_4) ?_
       rintro wz10_58o17_1 hSz10_58o17_2
       have hSz10_58o17_2 : St _ _ wz10_58o17_1 [rowE .u16 45 A0 c0 lz10_58o17_3] := hSz10_58o17_2
       refine ⟨(hSz10_58o17_2.pick [] rfl rfl), ?_⟩
       refine gd1 18 { dst := some 50, op := _, type := _, pos := _, after := _, guard := _ } (.pointer (Option.map (fun (p : Addr) => p.add (Int.toNat (IntKind.i64.wrap (p1 + x47)) * 1)) A0)) rfl (hSz10_58o17_2.pick [] rfl rfl) (fun w hSw => run_ixaddr (E := 45) (s := 1) (k := .i64) (c := c0) rfl (by kernel_rfl) (by kernel_rfl) (by kernel_rfl) (fun _ => by kernel_rfl) (ix_in hxz10_58o18_2).1 (lt_len (hn45.trans (setx_len hxz10_58o17_4).symm) (ix_in hxz10_58o18_2).2.1) (nil_len (hn45.trans (setx_len hxz10_58o17_4).symm) (num_nil (hSz10_58o17_2.row 0 rfl).1))) ?_
       refine gdS 19 { dst := none, op := _, type := _, pos := _, after := _, guard := _ } rfl (st_storeix rfl (by kernel_rfl) (by kernel_rfl) (fun _ => by kernel_rfl) hSz10_58o17_2 0 rfl hxz10_58o19_4) ?_
       rintro wz10_58o19_1 hSz10_58o19_2
       have hSz10_58o19_2 : St _ _ wz10_58o19_1 [rowE .u16 45 A0 c0 lz10_58o19_3] := hSz10_58o19_2
       refine ⟨(hSz10_58o19_2.pick [] rfl rfl), ?_⟩
       exact gd_meet (by kernel_rfl) (by kernel_rfl) (K71 () _ hSz10_58o19_2)
    ·refine gx_v (.bool false) w42 (run_boolE (decide_eq_false h54) (by kernel_rfl)) ?_
     refine gx_nil ?_
     refine gx_thenN ?_
     refine hK53 _ _ ?_
     refine gx_no (by kernel_rfl) ?_
     refine gx_exit ?_
     refine gx_thenE ?_
     refine gx_thenE ?_
     refine gx_blkE ?_
     obtain rfl := Option.some.inj hL49
     exact gx_finN (.tuple #[]) (by kernel_rfl) (by kernel_rfl) ⟨_, rfl, rfl, hS43, (hn45).symm⟩

def zBreak_L1 (N : Nat) (p1 : Int) (p2 : Int) (x16 : Int) : Nat → Int → (List Int) → Int → Option (List Int)
 | 0, _, _, _ => none
 | k29+1, x25, l27, x28 => (if x28 ≤ (IntKind.i64.wrap ((IntKind.i64.wrap (p1 + (IntKind.i64.wrap ((IntKind.i64.wrap (Int.tdiv (IntKind.i64.wrap (p2 - p1)) 4)) * 2)))) + 1)) then ((zXor N x25).bind fun (x43, x42) => (((if (IntKind.i64.wrap (iand .u64 x43 (IntKind.u64.wrap (x16 - 1)))) ≥ (IntKind.i64.wrap (p2 - p1)) then some ((IntKind.i64.wrap ((IntKind.i64.wrap (iand .u64 x43 (IntKind.u64.wrap (x16 - 1)))) - (IntKind.i64.wrap (p2 - p1))))) else some ((IntKind.i64.wrap (iand .u64 x43 (IntKind.u64.wrap (x16 - 1)))))) : Option (Int)).bind fun x50 => ((ix l27 (IntKind.i64.wrap (p1 + x50))).bind fun xz10_56o10_1 => ((ix l27 x28).bind fun xz10_56o14_1 => ((ix l27 x28).bind fun _xz10_56o16_1 => ((setx l27 x28 xz10_56o10_1).bind fun lz10_56o17_3 => ((ix lz10_56o17_3 (IntKind.i64.wrap (p1 + x50))).bind fun _xz10_56o18_1 => ((setx lz10_56o17_3 (IntKind.i64.wrap (p1 + x50)) xz10_56o14_1).bind fun lz10_56o19_3 => zBreak_L1 N p1 p2 x16 k29 x42 lz10_56o19_3 (IntKind.i64.wrap (x28 + 1)))))))))) else some l27)
def zBreak (N : Nat) (p0 : List Int) (p1 : Int) (p2 : Int) : Option (List Int) :=
 (if (IntKind.i64.wrap (p2 - p1)) ≥ 8 then ((zPow N (IntKind.i64.wrap (p2 - p1))).bind fun x16 => zBreak_L1 N p1 p2 x16 N (IntKind.u64.wrap (IntKind.i64.wrap (p2 - p1))) p0 (IntKind.i64.wrap ((IntKind.i64.wrap (p1 + (IntKind.i64.wrap ((IntKind.i64.wrap (Int.tdiv (IntKind.i64.wrap (p2 - p1)) 4)) * 2)))) - 1))) else some p0)

set_option linter.unusedVariables false in
def zBreak_R (p0 : List Int) (p1 : Int) (p2 : Int) (A0 : Option Addr) (c0 : Nat) (r : List Int) (w0 : World) (v : Value) (w : World) : Prop := v = .tuple #[] ∧ St (foots [rowE .u16 45 A0 c0 p0]) w0 w [rowE .u16 45 A0 c0 r] ∧ r.length = p0.length

set_option maxRecDepth 100000 in
set_option maxHeartbeats 4000000 in
theorem zBreak_ok (N : Nat) (p0 : List Int) (p1 : Int) (p2 : Int) (A0 : Option Addr) (c0 : Nat) (r : List Int) (hF : zBreak N p0 p1 p2 = some r) (w0 : World) (hl : St (foots [rowE .u16 45 A0 c0 p0]) w0 w0 [rowE .u16 45 A0 c0 p0]) :
  Calls Try.prog 56 #[.slice A0 p0.length c0, .int .i64 p1, .int .i64 p2] w0 fun e w => ∃ v, e = .returned v ∧ zBreak_R p0 p1 p2 A0 c0 r w0 v w := by
 have hS0 := hl
 unfold zBreak at hF
 refine calls_of Try.func56 rfl ⟨((.slice A0 p0.length c0) :: (.int .i64 p1) :: (.int .i64 p2) :: un 62 ([])).toArray, []⟩ (by kernel_rfl) ?_
 refine gx_seq (fun K1 hK2 => ?_)
 refine gx_region ?_
 refine gx_k (.int .i64 p2) w0 (gx_k (.int .i64 p1) w0 (gx_k (.int .i64 (IntKind.i64.wrap (p2 - p1))) w0 (gx_k (.int .i64 (IntKind.i64.wrap (p2 - p1))) w0 ?_)))
 refine gx_nil ?_
 refine gx_thenN ?_
 refine hK2 _ _ ?_
 refine gx_seq (fun K3 hK4 => ?_)
 refine gx_region ?_
 refine gx_k (.int .i64 (IntKind.i64.wrap (p2 - p1))) w0 ?_
 rcases if_in hF with ⟨h5, hF⟩ | ⟨h5, hF⟩
 ·refine gx_v (.bool true) w0 (run_boolE (decide_eq_true h5) (by kernel_rfl)) ?_
  refine gx_nil ?_
  refine gx_thenN ?_
  refine hK4 _ _ ?_
  refine gx_yes (by kernel_rfl) ?_
  refine gx_seq (fun K6 hK7 => ?_)
  refine gx_region ?_
  refine gx_k (.int .i64 (IntKind.i64.wrap (p2 - p1))) w0 (gx_k (.int .u64 (IntKind.u64.wrap (IntKind.i64.wrap (p2 - p1)))) w0 ?_)
  refine gx_r (st_boxed [.int .u64 0] 121 hS0 (by kernel_rfl)) ?_
  rintro _ w8 ⟨rfl, hS9⟩
  have hS9 : St _ _ w8 [rowE .u16 45 A0 c0 p0, boxE w0.heap.size [.int .u64 0] 121] := hS9
  refine gx_s (st_store (j := 0) (v := (.int .u64 (IntKind.u64.wrap (IntKind.i64.wrap (p2 - p1))))) rfl (by kernel_rfl) (by kernel_rfl) rfl (fun _ => by kernel_rfl) hS9 1 rfl (by show 0 < 1; decide)) ?_
  rintro w10 hS11
  have hS11 : St _ _ w10 [rowE .u16 45 A0 c0 p0, boxE w0.heap.size [.int .u64 (IntKind.u64.wrap (IntKind.i64.wrap (p2 - p1)))] 121] := hS11
  refine gx_nil ?_
  refine gx_thenN ?_
  refine hK7 _ _ ?_
  refine gx_seq (fun K12 hK13 => ?_)
  refine gx_region ?_
  refine gx_k (.int .i64 (IntKind.i64.wrap (p2 - p1))) w10 ?_
  have hP14 : St _ _ w10 ([] ++ [rowE .u16 45 A0 c0 p0, boxE w0.heap.size [.int .u64 (IntKind.u64.wrap (IntKind.i64.wrap (p2 - p1)))] 121]) := hS11
  obtain ⟨x16, hc15, hF⟩ := bind_in hF
  try dsimp only at hF
  refine gx_c (zPow_R x16 w10) (zPow_ok N (IntKind.i64.wrap (p2 - p1)) _ hc15 w10 ) ?_
  rintro _ w17 ⟨rfl, hT19⟩
  have hS18 : St _ _ w17 [rowE .u16 45 A0 c0 p0, boxE w0.heap.size [.int .u64 (IntKind.u64.wrap (IntKind.i64.wrap (p2 - p1)))] 121] := hS11.take _ hT19
  refine gx_k (.int .u64 x16) w17 ?_
  refine gx_nil ?_
  refine gx_thenN ?_
  refine hK13 _ _ ?_
  refine gx_seq (fun K20 hK21 => ?_)
  refine gx_region ?_
  refine gx_k (.int .i64 p1) w17 (gx_k (.int .i64 (IntKind.i64.wrap (p2 - p1))) w17 (gx_k (.int .i64 (IntKind.i64.wrap (Int.tdiv (IntKind.i64.wrap (p2 - p1)) 4))) w17 (gx_k (.int .i64 (IntKind.i64.wrap ((IntKind.i64.wrap (Int.tdiv (IntKind.i64.wrap (p2 - p1)) 4)) * 2))) w17 (gx_k (.int .i64 (IntKind.i64.wrap (p1 + (IntKind.i64.wrap ((IntKind.i64.wrap (Int.tdiv (IntKind.i64.wrap (p2 - p1)) 4)) * 2))))) w17 (gx_k (.int .i64 (IntKind.i64.wrap ((IntKind.i64.wrap (p1 + (IntKind.i64.wrap ((IntKind.i64.wrap (Int.tdiv (IntKind.i64.wrap (p2 - p1)) 4)) * 2)))) - 1))) w17 (gx_k (.int .i64 (IntKind.i64.wrap ((IntKind.i64.wrap (p1 + (IntKind.i64.wrap ((IntKind.i64.wrap (Int.tdiv (IntKind.i64.wrap (p2 - p1)) 4)) * 2)))) - 1))) w17 ?_))))))
  refine gx_nil ?_
  refine gx_thenN ?_
  refine hK21 _ _ ?_
  refine gx_block ?_
  refine gx_loop (fun k a w => ∃ (x25 : Int) (l27 : List Int) (x28 : Int), selfA (fun u24 => ⟨((.slice A0 p0.length c0) :: (.int .i64 p1) :: (.int .i64 p2) :: un 3 ((.int .i64 (IntKind.i64.wrap (p2 - p1))) :: (.pointer (some ⟨w0.heap.size, 0, none⟩)) :: (.int .u64 x16) :: (.int .i64 x28) :: (u24 10) :: (.int .i64 p2) :: (.int .i64 p1) :: (.int .i64 (IntKind.i64.wrap (p2 - p1))) :: (.int .i64 (IntKind.i64.wrap (p2 - p1))) :: (.bool true) :: (.int .i64 (IntKind.i64.wrap (p2 - p1))) :: (.int .u64 (IntKind.u64.wrap (IntKind.i64.wrap (p2 - p1)))) :: (.int .i64 (IntKind.i64.wrap (p2 - p1))) :: (.int .u64 x16) :: (.int .i64 p1) :: (.int .i64 (IntKind.i64.wrap (p2 - p1))) :: (.int .i64 (IntKind.i64.wrap (Int.tdiv (IntKind.i64.wrap (p2 - p1)) 4))) :: (.int .i64 (IntKind.i64.wrap ((IntKind.i64.wrap (Int.tdiv (IntKind.i64.wrap (p2 - p1)) 4)) * 2))) :: (.int .i64 (IntKind.i64.wrap (p1 + (IntKind.i64.wrap ((IntKind.i64.wrap (Int.tdiv (IntKind.i64.wrap (p2 - p1)) 4)) * 2))))) :: (.int .i64 (IntKind.i64.wrap ((IntKind.i64.wrap (p1 + (IntKind.i64.wrap ((IntKind.i64.wrap (Int.tdiv (IntKind.i64.wrap (p2 - p1)) 4)) * 2)))) - 1))) :: dd u24 26 39 ([]))).toArray, []⟩) a ∧ zBreak_L1 N p1 p2 x16 k x25 l27 x28 = some r ∧ St (foots [rowE .u16 45 A0 c0 p0]) w0 w [boxE w0.heap.size [.int .u64 x25] 121, rowE .u16 45 A0 c0 l27] ∧ p0.length = l27.length) N ?_ ?_
  ·exact ⟨(IntKind.u64.wrap (IntKind.i64.wrap (p2 - p1))), p0, (IntKind.i64.wrap ((IntKind.i64.wrap (p1 + (IntKind.i64.wrap ((IntKind.i64.wrap (Int.tdiv (IntKind.i64.wrap (p2 - p1)) 4)) * 2)))) - 1)), selfA_i (by kernel_rfl), hF, (hS18.pick [1, 0] rfl rfl), rfl⟩
  ·rintro k29 _ w22 ⟨x25, l27, x28, hq64, hL30, hS23, hn26⟩
   obtain ⟨u24, rfl⟩ := selfA_u hq64
   cases k29 with
   | zero => cases hL30
   | succ k29 =>
    first | rw [zBreak_L1] at hL30 | unfold zBreak_L1 at hL30
    refine gx_seq (fun K31 hK32 => ?_)
    refine gx_seq (fun K33 hK34 => ?_)
    refine gx_region ?_
    refine gx_k (.int .i64 x28) w22 (gx_k (.int .i64 p1) w22 (gx_k (.int .i64 (IntKind.i64.wrap (p2 - p1))) w22 (gx_k (.int .i64 (IntKind.i64.wrap (Int.tdiv (IntKind.i64.wrap (p2 - p1)) 4))) w22 (gx_k (.int .i64 (IntKind.i64.wrap ((IntKind.i64.wrap (Int.tdiv (IntKind.i64.wrap (p2 - p1)) 4)) * 2))) w22 (gx_k (.int .i64 (IntKind.i64.wrap (p1 + (IntKind.i64.wrap ((IntKind.i64.wrap (Int.tdiv (IntKind.i64.wrap (p2 - p1)) 4)) * 2))))) w22 (gx_k (.int .i64 (IntKind.i64.wrap ((IntKind.i64.wrap (p1 + (IntKind.i64.wrap ((IntKind.i64.wrap (Int.tdiv (IntKind.i64.wrap (p2 - p1)) 4)) * 2)))) + 1))) w22 ?_))))))
    rcases if_in hL30 with ⟨h35, hL30⟩ | ⟨h35, hL30⟩
    ·refine gx_v (.bool true) w22 (run_boolE (decide_eq_true h35) (by kernel_rfl)) ?_
     refine gx_nil ?_
     refine gx_thenN ?_
     refine hK34 _ _ ?_
     refine gx_yes (by kernel_rfl) ?_
     refine gx_pass ?_
     refine gx_thenN ?_
     refine hK32 _ _ ?_
     refine gx_seq (fun K36 hK37 => ?_)
     refine gx_block ?_
     refine gx_seq (fun K38 hK39 => ?_)
     refine gx_region ?_
     have hP40 : St _ _ w22 ([boxE w0.heap.size [.int .u64 x25] 121] ++ [rowE .u16 45 A0 c0 l27]) := hS23
     obtain ⟨⟨x43, x42⟩, hc41, hL30⟩ := bind_in hL30
     try dsimp only at hL30
     refine gx_c (zXor_R x25 w0.heap.size (x43, x42) w22) (zXor_ok N x25 w0.heap.size _ hc41 w22 hP40.part) ?_
     rintro _ w44 ⟨rfl, hT46⟩
     have hS45 : St _ _ w44 [rowE .u16 45 A0 c0 l27, boxE w0.heap.size [.int .u64 x42] 121] := hP40.lendN _ hT46
     refine gx_k (.int .u64 x16) w44 (gx_k (.int .u64 (IntKind.u64.wrap (x16 - 1))) w44 (gx_k (.int .u64 (iand .u64 x43 (IntKind.u64.wrap (x16 - 1)))) w44 (gx_k (.int .i64 (IntKind.i64.wrap (iand .u64 x43 (IntKind.u64.wrap (x16 - 1))))) w44 (gx_k (.int .i64 (IntKind.i64.wrap (iand .u64 x43 (IntKind.u64.wrap (x16 - 1))))) w44 ?_))))
     refine gx_nil ?_
     refine gx_thenN ?_
     refine hK39 _ _ ?_
     obtain ⟨c51, hE52, hO53⟩ := bind_in hL30
     refine gx_cut (fun a w => ∃ (x50 : Int), selfA (fun u49 => ⟨((.slice A0 p0.length c0) :: (.int .i64 p1) :: (.int .i64 p2) :: un 3 ((.int .i64 (IntKind.i64.wrap (p2 - p1))) :: (.pointer (some ⟨w0.heap.size, 0, none⟩)) :: (.int .u64 x16) :: (.int .i64 x28) :: (.int .i64 x50) :: (.int .i64 p2) :: (.int .i64 p1) :: (.int .i64 (IntKind.i64.wrap (p2 - p1))) :: (.int .i64 (IntKind.i64.wrap (p2 - p1))) :: (.bool true) :: (.int .i64 (IntKind.i64.wrap (p2 - p1))) :: (.int .u64 (IntKind.u64.wrap (IntKind.i64.wrap (p2 - p1)))) :: (.int .i64 (IntKind.i64.wrap (p2 - p1))) :: (.int .u64 x16) :: (.int .i64 p1) :: (.int .i64 (IntKind.i64.wrap (p2 - p1))) :: (.int .i64 (IntKind.i64.wrap (Int.tdiv (IntKind.i64.wrap (p2 - p1)) 4))) :: (.int .i64 (IntKind.i64.wrap ((IntKind.i64.wrap (Int.tdiv (IntKind.i64.wrap (p2 - p1)) 4)) * 2))) :: (.int .i64 (IntKind.i64.wrap (p1 + (IntKind.i64.wrap ((IntKind.i64.wrap (Int.tdiv (IntKind.i64.wrap (p2 - p1)) 4)) * 2))))) :: (.int .i64 (IntKind.i64.wrap ((IntKind.i64.wrap (p1 + (IntKind.i64.wrap ((IntKind.i64.wrap (Int.tdiv (IntKind.i64.wrap (p2 - p1)) 4)) * 2)))) - 1))) :: (.int .i64 x28) :: (.int .i64 p1) :: (.int .i64 (IntKind.i64.wrap (p2 - p1))) :: (.int .i64 (IntKind.i64.wrap (Int.tdiv (IntKind.i64.wrap (p2 - p1)) 4))) :: (.int .i64 (IntKind.i64.wrap ((IntKind.i64.wrap (Int.tdiv (IntKind.i64.wrap (p2 - p1)) 4)) * 2))) :: (.int .i64 (IntKind.i64.wrap (p1 + (IntKind.i64.wrap ((IntKind.i64.wrap (Int.tdiv (IntKind.i64.wrap (p2 - p1)) 4)) * 2))))) :: (.int .i64 (IntKind.i64.wrap ((IntKind.i64.wrap (p1 + (IntKind.i64.wrap ((IntKind.i64.wrap (Int.tdiv (IntKind.i64.wrap (p2 - p1)) 4)) * 2)))) + 1))) :: (.bool true) :: dd u24 34 2 ((.int .u64 x43) :: (.int .u64 x16) :: (.int .u64 (IntKind.u64.wrap (x16 - 1))) :: (.int .u64 (iand .u64 x43 (IntKind.u64.wrap (x16 - 1)))) :: (.int .i64 (IntKind.i64.wrap (iand .u64 x43 (IntKind.u64.wrap (x16 - 1))))) :: dd u49 41 6 (dd u24 47 18 ([]))))).toArray, []⟩) a ∧ x50 = c51 ∧ St (foots [rowE .u16 45 A0 c0 p0]) w0 w [boxE w0.heap.size [.int .u64 x42] 121, rowE .u16 45 A0 c0 l27]) ?_ ?_
     ·refine gx_seq (fun K54 hK55 => ?_)
      refine gx_region ?_
      refine gx_k (.int .i64 (IntKind.i64.wrap (iand .u64 x43 (IntKind.u64.wrap (x16 - 1))))) w44 (gx_k (.int .i64 (IntKind.i64.wrap (p2 - p1))) w44 ?_)
      rcases if_in hE52 with ⟨h56, hE52⟩ | ⟨h56, hE52⟩
      ·refine gx_v (.bool true) w44 (run_boolE (decide_eq_true h56) (by kernel_rfl)) ?_
       refine gx_nil ?_
       refine gx_thenN ?_
       refine hK55 _ _ ?_
       refine gx_yes (by kernel_rfl) ?_
       refine gx_region ?_
       refine gx_k (.int .i64 (IntKind.i64.wrap (iand .u64 x43 (IntKind.u64.wrap (x16 - 1))))) w44 (gx_k (.int .i64 (IntKind.i64.wrap (p2 - p1))) w44 (gx_k (.int .i64 (IntKind.i64.wrap ((IntKind.i64.wrap (iand .u64 x43 (IntKind.u64.wrap (x16 - 1)))) - (IntKind.i64.wrap (p2 - p1))))) w44 (gx_k (.int .i64 (IntKind.i64.wrap ((IntKind.i64.wrap (iand .u64 x43 (IntKind.u64.wrap (x16 - 1)))) - (IntKind.i64.wrap (p2 - p1))))) w44 ?_)))
       refine gx_nil ?_
       refine gx_thenN ?_
       exact ⟨(IntKind.i64.wrap ((IntKind.i64.wrap (iand .u64 x43 (IntKind.u64.wrap (x16 - 1)))) - (IntKind.i64.wrap (p2 - p1)))), selfA_i (by kernel_rfl), (Option.some.inj hE52), (hS45.pick [1, 0] rfl rfl)⟩
      ·refine gx_v (.bool false) w44 (run_boolE (decide_eq_false h56) (by kernel_rfl)) ?_
       refine gx_nil ?_
       refine gx_thenN ?_
       refine hK55 _ _ ?_
       refine gx_no (by kernel_rfl) ?_
       refine gx_pass ?_
       refine gx_thenN ?_
       exact ⟨(IntKind.i64.wrap (iand .u64 x43 (IntKind.u64.wrap (x16 - 1)))), selfA_i (by kernel_rfl), (Option.some.inj hE52), (hS45.pick [1, 0] rfl rfl)⟩
     ·rintro _ w47 ⟨x50, hq63, rfl, hS48⟩
      obtain ⟨u49, rfl⟩ := selfA_u hq63
      try dsimp only at hO53
      refine gd_start (fun w => St (foots [rowE .u16 45 A0 c0 p0]) w0 w [boxE w0.heap.size [.int .u64 x42] 121]) 20 #[false, false, false, false, false, false, false, false, false, false, false, false, false, false, false, false, false, false, false, false] (by kernel_rfl) (by kernel_rfl) ?_
      have hS59 := hS48.drew
      generalize w47.drew = w58 at hS59 ⊢
      obtain ⟨xz10_56o10_1, hxz10_56o10_2, hO53⟩ := bind_in hO53
      obtain ⟨xz10_56o14_1, hxz10_56o14_2, hO53⟩ := bind_in hO53
      obtain ⟨xz10_56o16_1, hxz10_56o16_2, hO53⟩ := bind_in hO53
      obtain ⟨lz10_56o17_3, hxz10_56o17_4, hO53⟩ := bind_in hO53
      obtain ⟨xz10_56o18_1, hxz10_56o18_2, hO53⟩ := bind_in hO53
      obtain ⟨lz10_56o19_3, hxz10_56o19_4, hO53⟩ := bind_in hO53
      refine gd_share (X := Unit) (fun _ => ⟨((.slice A0 p0.length c0) :: (.int .i64 p1) :: (.int .i64 p2) :: un 3 ((.int .i64 (IntKind.i64.wrap (p2 - p1))) :: (.pointer (some ⟨w0.heap.size, 0, none⟩)) :: (.int .u64 x16) :: (.int .i64 x28) :: (.int .i64 x50) :: (.int .i64 p2) :: (.int .i64 p1) :: (.int .i64 (IntKind.i64.wrap (p2 - p1))) :: (.int .i64 (IntKind.i64.wrap (p2 - p1))) :: (.bool true) :: (.int .i64 (IntKind.i64.wrap (p2 - p1))) :: (.int .u64 (IntKind.u64.wrap (IntKind.i64.wrap (p2 - p1)))) :: (.int .i64 (IntKind.i64.wrap (p2 - p1))) :: (.int .u64 x16) :: (.int .i64 p1) :: (.int .i64 (IntKind.i64.wrap (p2 - p1))) :: (.int .i64 (IntKind.i64.wrap (Int.tdiv (IntKind.i64.wrap (p2 - p1)) 4))) :: (.int .i64 (IntKind.i64.wrap ((IntKind.i64.wrap (Int.tdiv (IntKind.i64.wrap (p2 - p1)) 4)) * 2))) :: (.int .i64 (IntKind.i64.wrap (p1 + (IntKind.i64.wrap ((IntKind.i64.wrap (Int.tdiv (IntKind.i64.wrap (p2 - p1)) 4)) * 2))))) :: (.int .i64 (IntKind.i64.wrap ((IntKind.i64.wrap (p1 + (IntKind.i64.wrap ((IntKind.i64.wrap (Int.tdiv (IntKind.i64.wrap (p2 - p1)) 4)) * 2)))) - 1))) :: (.int .i64 x28) :: (.int .i64 p1) :: (.int .i64 (IntKind.i64.wrap (p2 - p1))) :: (.int .i64 (IntKind.i64.wrap (Int.tdiv (IntKind.i64.wrap (p2 - p1)) 4))) :: (.int .i64 (IntKind.i64.wrap ((IntKind.i64.wrap (Int.tdiv (IntKind.i64.wrap (p2 - p1)) 4)) * 2))) :: (.int .i64 (IntKind.i64.wrap (p1 + (IntKind.i64.wrap ((IntKind.i64.wrap (Int.tdiv (IntKind.i64.wrap (p2 - p1)) 4)) * 2))))) :: (.int .i64 (IntKind.i64.wrap ((IntKind.i64.wrap (p1 + (IntKind.i64.wrap ((IntKind.i64.wrap (Int.tdiv (IntKind.i64.wrap (p2 - p1)) 4)) * 2)))) + 1))) :: (.bool true) :: dd u24 34 2 ((.int .u64 x43) :: (.int .u64 x16) :: (.int .u64 (IntKind.u64.wrap (x16 - 1))) :: (.int .u64 (iand .u64 x43 (IntKind.u64.wrap (x16 - 1)))) :: (.int .i64 (IntKind.i64.wrap (iand .u64 x43 (IntKind.u64.wrap (x16 - 1))))) :: dd u49 41 6 ((.slice A0 p0.length c0) :: (.int .i64 x28) :: (.slice A0 p0.length c0) :: (.int .i64 p1) :: (.int .i64 x50) :: (.int .i64 (IntKind.i64.wrap (p1 + x50))) :: (.slice A0 p0.length c0) :: (.int .i64 p1) :: (.int .i64 x50) :: (.int .i64 (IntKind.i64.wrap (p1 + x50))) :: (.pointer (Option.map (fun (p : Addr) => p.add (Int.toNat (IntKind.i64.wrap (p1 + x50)) * 1)) A0)) :: (.int .u16 xz10_56o10_1) :: (.slice A0 p0.length c0) :: (.int .i64 x28) :: (.pointer (Option.map (fun (p : Addr) => p.add (Int.toNat x28 * 1)) A0)) :: (.int .u16 xz10_56o14_1) :: (.pointer (Option.map (fun (p : Addr) => p.add (Int.toNat x28 * 1)) A0)) :: (.pointer (Option.map (fun (p : Addr) => p.add (Int.toNat (IntKind.i64.wrap (p1 + x50)) * 1)) A0)) :: [])))).toArray, []⟩) (fun _ w => St (foots [rowE .u16 45 A0 c0 p0]) w0 w [boxE w0.heap.size [.int .u64 x42] 121, rowE .u16 45 A0 c0 lz10_56o19_3]) ?_ ?_
      ·rintro _ w60 hS61
       have hS61 : St _ _ w60 [boxE w0.heap.size [.int .u64 x42] 121, rowE .u16 45 A0 c0 lz10_56o19_3] := hS61
       show WQ _ _ ⟨((.slice A0 p0.length c0) :: (.int .i64 p1) :: (.int .i64 p2) :: un 3 ((.int .i64 (IntKind.i64.wrap (p2 - p1))) :: (.pointer (some ⟨w0.heap.size, 0, none⟩)) :: (.int .u64 x16) :: (.int .i64 x28) :: (.int .i64 x50) :: (.int .i64 p2) :: (.int .i64 p1) :: (.int .i64 (IntKind.i64.wrap (p2 - p1))) :: (.int .i64 (IntKind.i64.wrap (p2 - p1))) :: (.bool true) :: (.int .i64 (IntKind.i64.wrap (p2 - p1))) :: (.int .u64 (IntKind.u64.wrap (IntKind.i64.wrap (p2 - p1)))) :: (.int .i64 (IntKind.i64.wrap (p2 - p1))) :: (.int .u64 x16) :: (.int .i64 p1) :: (.int .i64 (IntKind.i64.wrap (p2 - p1))) :: (.int .i64 (IntKind.i64.wrap (Int.tdiv (IntKind.i64.wrap (p2 - p1)) 4))) :: (.int .i64 (IntKind.i64.wrap ((IntKind.i64.wrap (Int.tdiv (IntKind.i64.wrap (p2 - p1)) 4)) * 2))) :: (.int .i64 (IntKind.i64.wrap (p1 + (IntKind.i64.wrap ((IntKind.i64.wrap (Int.tdiv (IntKind.i64.wrap (p2 - p1)) 4)) * 2))))) :: (.int .i64 (IntKind.i64.wrap ((IntKind.i64.wrap (p1 + (IntKind.i64.wrap ((IntKind.i64.wrap (Int.tdiv (IntKind.i64.wrap (p2 - p1)) 4)) * 2)))) - 1))) :: (.int .i64 x28) :: (.int .i64 p1) :: (.int .i64 (IntKind.i64.wrap (p2 - p1))) :: (.int .i64 (IntKind.i64.wrap (Int.tdiv (IntKind.i64.wrap (p2 - p1)) 4))) :: (.int .i64 (IntKind.i64.wrap ((IntKind.i64.wrap (Int.tdiv (IntKind.i64.wrap (p2 - p1)) 4)) * 2))) :: (.int .i64 (IntKind.i64.wrap (p1 + (IntKind.i64.wrap ((IntKind.i64.wrap (Int.tdiv (IntKind.i64.wrap (p2 - p1)) 4)) * 2))))) :: (.int .i64 (IntKind.i64.wrap ((IntKind.i64.wrap (p1 + (IntKind.i64.wrap ((IntKind.i64.wrap (Int.tdiv (IntKind.i64.wrap (p2 - p1)) 4)) * 2)))) + 1))) :: (.bool true) :: dd u24 34 2 ((.int .u64 x43) :: (.int .u64 x16) :: (.int .u64 (IntKind.u64.wrap (x16 - 1))) :: (.int .u64 (iand .u64 x43 (IntKind.u64.wrap (x16 - 1)))) :: (.int .i64 (IntKind.i64.wrap (iand .u64 x43 (IntKind.u64.wrap (x16 - 1))))) :: dd u49 41 6 ((.slice A0 p0.length c0) :: (.int .i64 x28) :: (.slice A0 p0.length c0) :: (.int .i64 p1) :: (.int .i64 x50) :: (.int .i64 (IntKind.i64.wrap (p1 + x50))) :: (.slice A0 p0.length c0) :: (.int .i64 p1) :: (.int .i64 x50) :: (.int .i64 (IntKind.i64.wrap (p1 + x50))) :: (.pointer (Option.map (fun (p : Addr) => p.add (Int.toNat (IntKind.i64.wrap (p1 + x50)) * 1)) A0)) :: (.int .u16 xz10_56o10_1) :: (.slice A0 p0.length c0) :: (.int .i64 x28) :: (.pointer (Option.map (fun (p : Addr) => p.add (Int.toNat x28 * 1)) A0)) :: (.int .u16 xz10_56o14_1) :: (.pointer (Option.map (fun (p : Addr) => p.add (Int.toNat x28 * 1)) A0)) :: (.pointer (Option.map (fun (p : Addr) => p.add (Int.toNat (IntKind.i64.wrap (p1 + x50)) * 1)) A0)) :: [])))).toArray, []⟩ _
       refine gx_blkN ?_
       refine gx_thenN ?_
       refine hK37 _ _ ?_
       refine gx_region ?_
       refine gx_k (.int .i64 x28) w60 (gx_k (.int .i64 (IntKind.i64.wrap (x28 + 1))) w60 (gx_k (.int .i64 (IntKind.i64.wrap (x28 + 1))) w60 ?_))
       refine gx_nil ?_
       refine gx_thenN ?_
       exact ⟨k29, Nat.lt_succ_self k29, x42, lz10_56o19_3, (IntKind.i64.wrap (x28 + 1)), selfA_i (by kernel_rfl), hO53, hS61, ((hn26.trans (setx_len hxz10_56o17_4).symm).trans (setx_len hxz10_56o19_4).symm)⟩
      ·intro K62
       refine gd1 0 { dst := some 47, op := _, type := _, pos := _, after := _, guard := _ } (.slice A0 p0.length c0) rfl (hS59.pick [0] rfl rfl) (fun w hSw => by kernel_rfl) ?_
       refine gd1 1 { dst := some 48, op := _, type := _, pos := _, after := _, guard := _ } (.int .i64 x28) rfl (hS59.pick [0] rfl rfl) (fun w hSw => by kernel_rfl) ?_
       refine gd1 2 { dst := some 49, op := _, type := _, pos := _, after := _, guard := _ } (.slice A0 p0.length c0) rfl (hS59.pick [0] rfl rfl) (fun w hSw => by kernel_rfl) ?_
       refine gd1 3 { dst := some 50, op := _, type := _, pos := _, after := _, guard := _ } (.int .i64 p1) rfl (hS59.pick [0] rfl rfl) (fun w hSw => by kernel_rfl) ?_
       refine gd1 4 { dst := some 51, op := _, type := _, pos := _, after := _, guard := _ } (.int .i64 x50) rfl (hS59.pick [0] rfl rfl) (fun w hSw => by kernel_rfl) ?_
       refine gd1 5 { dst := some 52, op := _, type := _, pos := _, after := _, guard := _ } (.int .i64 (IntKind.i64.wrap (p1 + x50))) rfl (hS59.pick [0] rfl rfl) (fun w hSw => by kernel_rfl) ?_
       refine gd1 6 { dst := some 53, op := _, type := _, pos := _, after := _, guard := _ } (.slice A0 p0.length c0) rfl (hS59.pick [0] rfl rfl) (fun w hSw => by kernel_rfl) ?_
       refine gd1 7 { dst := some 54, op := _, type := _, pos := _, after := _, guard := _ } (.int .i64 p1) rfl (hS59.pick [0] rfl rfl) (fun w hSw => by kernel_rfl) ?_
       refine gd1 8 { dst := some 55, op := _, type := _, pos := _, after := _, guard := _ } (.int .i64 x50) rfl (hS59.pick [0] rfl rfl) (fun w hSw => by kernel_rfl) ?_
       refine gd1 9 { dst := some 56, op := _, type := _, pos := _, after := _, guard := _ } (.int .i64 (IntKind.i64.wrap (p1 + x50))) rfl (hS59.pick [0] rfl rfl) (fun w hSw => by kernel_rfl) ?_
       refine gd1 10 { dst := some 57, op := _, type := _, pos := _, after := _, guard := _ } (.pointer (Option.map (fun (p : Addr) => p.add (Int.toNat (IntKind.i64.wrap (p1 + x50)) * 1)) A0)) rfl (hS59.pick [0] rfl rfl) (fun w hSw => run_ixaddr (E := 45) (s := 1) (k := .i64) (c := c0) rfl (by kernel_rfl) (by kernel_rfl) (by kernel_rfl) (fun _ => by kernel_rfl) (ix_in hxz10_56o10_2).1 (lt_len hn26 (ix_in hxz10_56o10_2).2.1) (nil_len hn26 (num_nil (hS59.row 1 rfl).1))) ?_
       refine gd1 12 { dst := some 59, op := _, type := _, pos := _, after := _, guard := _ } (.slice A0 p0.length c0) rfl (hS59.pick [0] rfl rfl) (fun w hSw => by kernel_rfl) ?_
       refine gd1 13 { dst := some 60, op := _, type := _, pos := _, after := _, guard := _ } (.int .i64 x28) rfl (hS59.pick [0] rfl rfl) (fun w hSw => by kernel_rfl) ?_
       refine gd1 14 { dst := some 61, op := _, type := _, pos := _, after := _, guard := _ } (.pointer (Option.map (fun (p : Addr) => p.add (Int.toNat x28 * 1)) A0)) rfl (hS59.pick [0] rfl rfl) (fun w hSw => run_ixaddr (E := 45) (s := 1) (k := .i64) (c := c0) rfl (by kernel_rfl) (by kernel_rfl) (by kernel_rfl) (fun _ => by kernel_rfl) (ix_in hxz10_56o14_2).1 (lt_len hn26 (ix_in hxz10_56o14_2).2.1) (nil_len hn26 (num_nil (hS59.row 1 rfl).1))) ?_
       refine gd_fork2 11 15 { dst := some 58, op := _, type := _, pos := _, after := _, guard := _ } { dst := some 62, op := _, type := _, pos := _, after := _, guard := _ } rfl rfl ?_ ?_
       ·refine gfR 11 { dst := some 58, op := _, type := _, pos := _, after := _, guard := _ } (R := fun v w => v = .int .u16 xz10_56o10_1 ∧ w58 = w) rfl ⟨_, _, run_loadix rfl (by kernel_rfl) (fun _ => by kernel_rfl) (hS59.row 1 rfl).1 hxz10_56o10_2, rfl, rfl⟩ ?_
        rintro _ _ ⟨rfl, rfl⟩
        refine ⟨(hS59.pick [0] rfl rfl), ?_⟩
        refine gdR 15 { dst := some 62, op := _, type := _, pos := _, after := _, guard := _ } (R := fun v w => v = .int .u16 xz10_56o14_1 ∧ w58 = w) rfl ⟨_, _, run_loadix rfl (by kernel_rfl) (fun _ => by kernel_rfl) (hS59.row 1 rfl).1 hxz10_56o14_2, rfl, rfl⟩ ?_
        rintro _ _ ⟨rfl, rfl⟩
        refine ⟨(hS59.pick [0] rfl rfl), ?_⟩
        refine gd1 16 { dst := some 63, op := _, type := _, pos := _, after := _, guard := _ } (.pointer (Option.map (fun (p : Addr) => p.add (Int.toNat x28 * 1)) A0)) rfl (hS59.pick [0] rfl rfl) (fun w hSw => run_ixaddr (E := 45) (s := 1) (k := .i64) (c := c0) rfl (by kernel_rfl) (by kernel_rfl) (by kernel_rfl) (fun _ => by kernel_rfl) (ix_in hxz10_56o16_2).1 (lt_len hn26 (ix_in hxz10_56o16_2).2.1) (nil_len hn26 (num_nil (hS59.row 1 rfl).1))) ?_
        refine gdS 17 { dst := none, op := _, type := _, pos := _, after := _, guard := _ } rfl (st_storeix rfl (by kernel_rfl) (by kernel_rfl) (fun _ => by kernel_rfl) hS59 1 rfl hxz10_56o17_4) ?_
        rintro wz10_56o17_1 hSz10_56o17_2
        have hSz10_56o17_2 : St _ _ wz10_56o17_1 [boxE w0.heap.size [.int .u64 x42] 121, rowE .u16 45 A0 c0 lz10_56o17_3] := hSz10_56o17_2
        refine ⟨(hSz10_56o17_2.pick [0] rfl rfl), ?_⟩
        refine gd1 18 { dst := some 64, op := _, type := _, pos := _, after := _, guard := _ } (.pointer (Option.map (fun (p : Addr) => p.add (Int.toNat (IntKind.i64.wrap (p1 + x50)) * 1)) A0)) rfl (hSz10_56o17_2.pick [0] rfl rfl) (fun w hSw => run_ixaddr (E := 45) (s := 1) (k := .i64) (c := c0) rfl (by kernel_rfl) (by kernel_rfl) (by kernel_rfl) (fun _ => by kernel_rfl) (ix_in hxz10_56o18_2).1 (lt_len (hn26.trans (setx_len hxz10_56o17_4).symm) (ix_in hxz10_56o18_2).2.1) (nil_len (hn26.trans (setx_len hxz10_56o17_4).symm) (num_nil (hSz10_56o17_2.row 1 rfl).1))) ?_
        refine gdS 19 { dst := none, op := _, type := _, pos := _, after := _, guard := _ } rfl (st_storeix rfl (by kernel_rfl) (by kernel_rfl) (fun _ => by kernel_rfl) hSz10_56o17_2 1 rfl hxz10_56o19_4) ?_
        rintro wz10_56o19_1 hSz10_56o19_2
        have hSz10_56o19_2 : St _ _ wz10_56o19_1 [boxE w0.heap.size [.int .u64 x42] 121, rowE .u16 45 A0 c0 lz10_56o19_3] := hSz10_56o19_2
        refine ⟨(hSz10_56o19_2.pick [0] rfl rfl), ?_⟩
        exact gd_meet (by kernel_rfl) (by kernel_rfl) (K62 () _ hSz10_56o19_2)
       ·refine gfR 15 { dst := some 62, op := _, type := _, pos := _, after := _, guard := _ } (R := fun v w => v = .int .u16 xz10_56o14_1 ∧ w58 = w) rfl ⟨_, _, run_loadix rfl (by kernel_rfl) (fun _ => by kernel_rfl) (hS59.row 1 rfl).1 hxz10_56o14_2, rfl, rfl⟩ ?_
        rintro _ _ ⟨rfl, rfl⟩
        refine ⟨(hS59.pick [0] rfl rfl), ?_⟩
        refine gdR 11 { dst := some 58, op := _, type := _, pos := _, after := _, guard := _ } (R := fun v w => v = .int .u16 xz10_56o10_1 ∧ w58 = w) rfl ⟨_, _, run_loadix rfl (by kernel_rfl) (fun _ => by kernel_rfl) (hS59.row 1 rfl).1 hxz10_56o10_2, rfl, rfl⟩ ?_
        rintro _ _ ⟨rfl, rfl⟩
        refine ⟨(hS59.pick [0] rfl rfl), ?_⟩
        refine gd1 16 { dst := some 63, op := _, type := _, pos := _, after := _, guard := _ } (.pointer (Option.map (fun (p : Addr) => p.add (Int.toNat x28 * 1)) A0)) rfl (hS59.pick [0] rfl rfl) (fun w hSw => run_ixaddr (E := 45) (s := 1) (k := .i64) (c := c0) rfl (by kernel_rfl) (by kernel_rfl) (by kernel_rfl) (fun _ => by kernel_rfl) (ix_in hxz10_56o16_2).1 (lt_len hn26 (ix_in hxz10_56o16_2).2.1) (nil_len hn26 (num_nil (hS59.row 1 rfl).1))) ?_
        refine gdS 17 { dst := none, op := _, type := _, pos := _, after := _, guard := _ } rfl (st_storeix rfl (by kernel_rfl) (by kernel_rfl) (fun _ => by kernel_rfl) hS59 1 rfl hxz10_56o17_4) ?_
        rintro wz10_56o17_1 hSz10_56o17_2
        have hSz10_56o17_2 : St _ _ wz10_56o17_1 [boxE w0.heap.size [.int .u64 x42] 121, rowE .u16 45 A0 c0 lz10_56o17_3] := hSz10_56o17_2
        refine ⟨(hSz10_56o17_2.pick [0] rfl rfl), ?_⟩
        refine gd1 18 { dst := some 64, op := _, type := _, pos := _, after := _, guard := _ } (.pointer (Option.map (fun (p : Addr) => p.add (Int.toNat (IntKind.i64.wrap (p1 + x50)) * 1)) A0)) rfl (hSz10_56o17_2.pick [0] rfl rfl) (fun w hSw => run_ixaddr (E := 45) (s := 1) (k := .i64) (c := c0) rfl (by kernel_rfl) (by kernel_rfl) (by kernel_rfl) (fun _ => by kernel_rfl) (ix_in hxz10_56o18_2).1 (lt_len (hn26.trans (setx_len hxz10_56o17_4).symm) (ix_in hxz10_56o18_2).2.1) (nil_len (hn26.trans (setx_len hxz10_56o17_4).symm) (num_nil (hSz10_56o17_2.row 1 rfl).1))) ?_
        refine gdS 19 { dst := none, op := _, type := _, pos := _, after := _, guard := _ } rfl (st_storeix rfl (by kernel_rfl) (by kernel_rfl) (fun _ => by kernel_rfl) hSz10_56o17_2 1 rfl hxz10_56o19_4) ?_
        rintro wz10_56o19_1 hSz10_56o19_2
        have hSz10_56o19_2 : St _ _ wz10_56o19_1 [boxE w0.heap.size [.int .u64 x42] 121, rowE .u16 45 A0 c0 lz10_56o19_3] := hSz10_56o19_2
        refine ⟨(hSz10_56o19_2.pick [0] rfl rfl), ?_⟩
        exact gd_meet (by kernel_rfl) (by kernel_rfl) (K62 () _ hSz10_56o19_2)
    ·refine gx_v (.bool false) w22 (run_boolE (decide_eq_false h35) (by kernel_rfl)) ?_
     refine gx_nil ?_
     refine gx_thenN ?_
     refine hK34 _ _ ?_
     refine gx_no (by kernel_rfl) ?_
     refine gx_exit ?_
     refine gx_thenE ?_
     refine gx_thenE ?_
     refine gx_blkE ?_
     obtain rfl := Option.some.inj hL30
     exact gx_finN (.tuple #[]) (by kernel_rfl) (by kernel_rfl) ⟨_, rfl, rfl, (hS23.pick [1] rfl rfl), (hn26).symm⟩
 ·refine gx_v (.bool false) w0 (run_boolE (decide_eq_false h5) (by kernel_rfl)) ?_
  refine gx_nil ?_
  refine gx_thenN ?_
  refine hK4 _ _ ?_
  refine gx_no (by kernel_rfl) ?_
  refine gx_pass ?_
  obtain rfl := Option.some.inj hF
  exact gx_finN (.tuple #[]) (by kernel_rfl) (by kernel_rfl) ⟨_, rfl, rfl, hS0, rfl⟩

end Go.Proofs.Ytcleaepcjbfmhaa
