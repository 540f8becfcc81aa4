/-
  The document's forms, walked.
-/
import Derived.Test.YtbdhgjaoojimmaaDoorBk
namespace Go.Proofs.YtbdhgjaoojimmaaDoor
open Go Go.RowKit
set_option linter.unusedVariables false

def rJoins (N : Nat) (p0 : Int) (p1 : Int) : Option (Bool) :=
 ((rfJn N p0).bind fun x7 => ((rfJn N p1).bind fun x13 => (((if x7 = 2 then some (true) else (if x7 = 3 then some (true) else some (false))) : Option (Bool)).bind fun b22 => (((match b22 with | true => some (true) | false => (if x7 = 5 then some (true) else some (false))) : Option (Bool)).bind fun b32 => (match b32 with | true => (if x13 = 1 then some true else (if x13 = 2 then some true else some (decide (x13 = 3)))) | false => some false)))))

set_option linter.unusedVariables false in
def rJoins_R (r : Bool) (w0 : World) (v : Value) (w : World) : Prop := v = .bool r ∧ St [] w0 w []

set_option maxRecDepth 100000 in
set_option maxHeartbeats 4000000 in
theorem rJoins_ok (N : Nat) (p0 : Int) (p1 : Int)  (r : Bool) (hF : rJoins N p0 p1 = some r) (w0 : World)  :
  Calls Tryd.prog 13 #[.int .i32 p0, .int .i32 p1] w0 fun e w => ∃ v, e = .returned v ∧ rJoins_R r w0 v w := by
 have hS0 := St.start w0
 unfold rJoins at hF
 refine calls_of Tryd.func13 rfl ⟨((.int .i32 p0) :: (.int .i32 p1) :: un 31 ([])).toArray, []⟩ (by kernel_rfl) ?_
 refine gx_seq (fun K1 hK2 => ?_)
 refine gx_region ?_
 refine gx_k (.bool false) w0 ?_
 refine gx_nil ?_
 refine gx_thenN ?_
 refine hK2 _ _ ?_
 refine gx_seq (fun K3 hK4 => ?_)
 refine gx_region ?_
 refine gx_k (.int .i32 p0) w0 ?_
 have hP5 : St _ _ w0 ([] ++ []) := hS0
 obtain ⟨x7, hc6, hF⟩ := bind_in hF
 try dsimp only at hF
 refine gx_c (rfJn_R x7 w0) (rfJn_ok N p0 _ hc6 w0 ) ?_
 rintro _ w8 ⟨rfl, hT10⟩
 have hS9 : St _ _ w8 [] := hS0.take _ hT10
 refine gx_k (.int .i32 p1) w8 ?_
 have hP11 : St _ _ w8 ([] ++ []) := hS9
 obtain ⟨x13, hc12, hF⟩ := bind_in hF
 try dsimp only at hF
 refine gx_c (rfJn_R x13 w8) (rfJn_ok N p1 _ hc12 w8 ) ?_
 rintro _ w14 ⟨rfl, hT16⟩
 have hS15 : St _ _ w14 [] := hS9.take _ hT16
 refine gx_k (.int .u8 x7) w14 (gx_k (.int .u8 x13) w14 ?_)
 refine gx_nil ?_
 refine gx_thenN ?_
 refine hK4 _ _ ?_
 refine gx_seq (fun K17 hK18 => ?_)
 refine gx_region ?_
 refine gx_k (.int .u8 x7) w14 ?_
 obtain ⟨c23, hE24, hO25⟩ := bind_in hF
 refine gx_part (l1 := [_, _, _, _, _]) (fun a w => ∃ (b22 : Bool), selfA (fun u21 => ⟨((.int .i32 p0) :: (.int .i32 p1) :: undef :: undef :: (.bool false) :: (.int .u8 x7) :: (.int .u8 x13) :: (.int .i32 p0) :: (.int .u8 x7) :: (.int .i32 p1) :: (.int .u8 x13) :: (.int .u8 x7) :: dd u21 12 4 ((.bool b22) :: un 16 ([]))).toArray, []⟩) a ∧ b22 = c23 ∧ St [] w0 w []) rfl ?_ ?_
 ·rcases if_in hE24 with ⟨h27, hE24⟩ | ⟨h27, hE24⟩
  ·refine gx_v (.bool true) w14 (run_boolE (decide_eq_true h27) (by kernel_rfl)) ?_
   refine gx_k (.bool true) w14 (gx_o (gx_o (gx_k (.bool true) w14 ?_)))
   refine gx_nil ?_
   refine gx_thenN ?_
   exact ⟨true, selfA_i (by kernel_rfl), (Option.some.inj hE24), hS15⟩
  ·refine gx_v (.bool false) w14 (run_boolE (decide_eq_false h27) (by kernel_rfl)) ?_
   refine gx_k (.bool false) w14 (gx_k (.int .u8 x7) w14 ?_)
   rcases if_in hE24 with ⟨h28, hE24⟩ | ⟨h28, hE24⟩
   ·refine gx_v (.bool true) w14 (run_boolE (decide_eq_true h28) (by kernel_rfl)) ?_
    refine gx_k (.bool true) w14 ?_
    refine gx_nil ?_
    refine gx_thenN ?_
    exact ⟨true, selfA_i (by kernel_rfl), (Option.some.inj hE24), hS15⟩
   ·refine gx_v (.bool false) w14 (run_boolE (decide_eq_false h28) (by kernel_rfl)) ?_
    refine gx_k (.bool false) w14 ?_
    refine gx_nil ?_
    refine gx_thenN ?_
    exact ⟨false, selfA_i (by kernel_rfl), (Option.some.inj hE24), hS15⟩
 ·rintro _ w19 ⟨b22, hq26, rfl, hS20⟩
  obtain ⟨u21, rfl⟩ := selfA_u hq26
  try dsimp only at hO25
  obtain ⟨c33, hE34, hO35⟩ := bind_in hO25
  refine gx_part (l1 := [_, _, _, _]) (fun a w => ∃ (b32 : Bool), selfA (fun u31 => ⟨((.int .i32 p0) :: (.int .i32 p1) :: undef :: undef :: (.bool false) :: (.int .u8 x7) :: (.int .u8 x13) :: (.int .i32 p0) :: (.int .u8 x7) :: (.int .i32 p1) :: (.int .u8 x13) :: (.int .u8 x7) :: dd u21 12 4 ((.bool b22) :: dd u31 17 3 ((.bool b32) :: un 12 ([])))).toArray, []⟩) a ∧ b32 = c33 ∧ St [] w0 w []) rfl ?_ ?_
  ·refine gx_k (.bool b22) w19 ?_
   cases b22 with
   | true =>
    try dsimp only at hE34
    refine gx_o (gx_o (gx_k (.bool true) w19 ?_))
    refine gx_nil ?_
    refine gx_thenN ?_
    exact ⟨true, selfA_i (by kernel_rfl), (Option.some.inj hE34), hS20⟩
   | false =>
    try dsimp only at hE34
    refine gx_k (.int .u8 x7) w19 ?_
    rcases if_in hE34 with ⟨h37, hE34⟩ | ⟨h37, hE34⟩
    ·refine gx_v (.bool true) w19 (run_boolE (decide_eq_true h37) (by kernel_rfl)) ?_
     refine gx_k (.bool true) w19 ?_
     refine gx_nil ?_
     refine gx_thenN ?_
     exact ⟨true, selfA_i (by kernel_rfl), (Option.some.inj hE34), hS20⟩
    ·refine gx_v (.bool false) w19 (run_boolE (decide_eq_false h37) (by kernel_rfl)) ?_
     refine gx_k (.bool false) w19 ?_
     refine gx_nil ?_
     refine gx_thenN ?_
     exact ⟨false, selfA_i (by kernel_rfl), (Option.some.inj hE34), hS20⟩
  ·rintro _ w29 ⟨b32, hq36, rfl, hS30⟩
   obtain ⟨u31, rfl⟩ := selfA_u hq36
   try dsimp only at hO35
   refine gx_k (.bool b32) w29 ?_
   cases b32 with
   | true =>
    try dsimp only at hO35
    refine gx_k (.int .u8 x13) w29 ?_
    rcases if_in hO35 with ⟨h38, hO35⟩ | ⟨h38, hO35⟩
    ·refine gx_v (.bool true) w29 (run_boolE (decide_eq_true h38) (by kernel_rfl)) ?_
     refine gx_k (.bool true) w29 (gx_o (gx_o (gx_k (.bool true) w29 (gx_k (.bool true) w29 (gx_o (gx_o (gx_k (.bool true) w29 ?_)))))))
     refine gx_k (.bool true) w29 (gx_k (.bool true) w29 ?_)
     refine gx_nil ?_
     refine gx_thenN ?_
     refine hK18 _ _ ?_
     refine gx_ret ?_
     obtain rfl := Option.some.inj hO35
     exact gx_fin (.bool true) (by kernel_rfl) (by kernel_rfl) ⟨_, rfl, rfl, hS30⟩
    ·refine gx_v (.bool false) w29 (run_boolE (decide_eq_false h38) (by kernel_rfl)) ?_
     refine gx_k (.bool false) w29 (gx_k (.int .u8 x13) w29 ?_)
     rcases if_in hO35 with ⟨h39, hO35⟩ | ⟨h39, hO35⟩
     ·refine gx_v (.bool true) w29 (run_boolE (decide_eq_true h39) (by kernel_rfl)) ?_
      refine gx_k (.bool true) w29 (gx_k (.bool true) w29 (gx_o (gx_o (gx_k (.bool true) w29 (gx_k (.bool true) w29 (gx_k (.bool true) w29 ?_))))))
      refine gx_nil ?_
      refine gx_thenN ?_
      refine hK18 _ _ ?_
      refine gx_ret ?_
      obtain rfl := Option.some.inj hO35
      exact gx_fin (.bool true) (by kernel_rfl) (by kernel_rfl) ⟨_, rfl, rfl, hS30⟩
     ·refine gx_v (.bool false) w29 (run_boolE (decide_eq_false h39) (by kernel_rfl)) ?_
      refine gx_k (.bool false) w29 (gx_k (.bool false) w29 (gx_k (.int .u8 x13) w29 (gx_k (.bool (decide (x13 = 3))) w29 (gx_k (.bool (decide (x13 = 3))) w29 (gx_k (.bool (decide (x13 = 3))) w29 (gx_k (.bool (decide (x13 = 3))) w29 ?_))))))
      refine gx_nil ?_
      refine gx_thenN ?_
      refine hK18 _ _ ?_
      refine gx_ret ?_
      obtain rfl := Option.some.inj hO35
      exact gx_fin (.bool (decide (x13 = 3))) (by kernel_rfl) (by kernel_rfl) ⟨_, rfl, rfl, hS30⟩
   | false =>
    try dsimp only at hO35
    refine gx_o (gx_o (gx_o (gx_o (gx_o (gx_o (gx_o (gx_o ?_)))))))
    refine gx_o (gx_o (gx_k (.bool false) w29 (gx_k (.bool false) w29 ?_)))
    refine gx_nil ?_
    refine gx_thenN ?_
    refine hK18 _ _ ?_
    refine gx_ret ?_
    obtain rfl := Option.some.inj hO35
    exact gx_fin (.bool false) (by kernel_rfl) (by kernel_rfl) ⟨_, rfl, rfl, hS30⟩

def rAhd_L1 (N : Nat) (p0 : List Int) : Nat → Int → Option (Int)
 | 0, _ => none
 | k16+1, x15 => (if x15 ≥ 0 then ((ix p0 x15).bind fun x23 => ((rfJn N x23).bind fun x27 => (if x27 = 4 then rAhd_L1 N p0 k16 (IntKind.i64.wrap (x15 - 1)) else some (x15)))) else some (x15))
def rAhd (N : Nat) (p0 : List Int) (p1 : Int) : Option (Bool) :=
 ((rAhd_L1 N p0 N (IntKind.i64.wrap (p1 - 1)) : Option (Int)).bind fun x8 => (if x8 ≥ 0 then ((ix p0 x8).bind fun x38 => ((ix p0 p1).bind fun x40 => ((rJoins N x38 x40).bind fun b44 => some b44))) else some false))

set_option linter.unusedVariables false in
def rAhd_R (r : Bool) (w0 : World) (v : Value) (w : World) : Prop := v = .bool r ∧ St [] w0 w []

set_option maxRecDepth 100000 in
set_option maxHeartbeats 4000000 in
theorem rAhd_ok (N : Nat) (p0 : List Int) (p1 : Int) (A0 : Option Addr) (c0 : Nat) (r : Bool) (hF : rAhd N p0 p1 = some r) (w0 : World) (hv0 : Vw [] .i32 w0 A0 c0 p0) :
  Calls Tryd.prog 18 #[.slice A0 p0.length c0, .int .i64 p1] w0 fun e w => ∃ v, e = .returned v ∧ rAhd_R r w0 v w := by
 have hS0 := St.start w0
 unfold rAhd at hF
 refine calls_of Tryd.func18 rfl ⟨((.slice A0 p0.length c0) :: (.int .i64 p1) :: un 31 ([])).toArray, []⟩ (by kernel_rfl) ?_
 refine gx_seq (fun K1 hK2 => ?_)
 refine gx_region ?_
 refine gx_k (.bool false) w0 ?_
 refine gx_nil ?_
 refine gx_thenN ?_
 refine hK2 _ _ ?_
 refine gx_seq (fun K3 hK4 => ?_)
 refine gx_region ?_
 refine gx_k (.int .i64 p1) w0 (gx_k (.int .i64 (IntKind.i64.wrap (p1 - 1))) w0 (gx_k (.int .i64 (IntKind.i64.wrap (p1 - 1))) w0 ?_))
 refine gx_nil ?_
 refine gx_thenN ?_
 refine hK4 _ _ ?_
 obtain ⟨c9, hE10, hO11⟩ := bind_in hF
 refine gx_cut (fun a w => ∃ (x8 : Int), selfA (fun u7 => ⟨((.slice A0 p0.length c0) :: (.int .i64 p1) :: undef :: undef :: (.bool false) :: (.int .i64 x8) :: (.int .i64 p1) :: (.int .i64 (IntKind.i64.wrap (p1 - 1))) :: dd u7 8 12 (un 13 ([]))).toArray, []⟩) a ∧ x8 = c9 ∧ St [] w0 w []) ?_ ?_
 ·refine gx_block ?_
  refine gx_loop (fun k a w => ∃ (x15 : Int), selfA (fun u14 => ⟨((.slice A0 p0.length c0) :: (.int .i64 p1) :: undef :: undef :: (.bool false) :: (.int .i64 x15) :: (.int .i64 p1) :: (.int .i64 (IntKind.i64.wrap (p1 - 1))) :: dd u14 8 12 (un 13 ([]))).toArray, []⟩) a ∧ rAhd_L1 N p0 k x15 = some c9 ∧ St [] w0 w []) N ?_ ?_
  ·exact ⟨(IntKind.i64.wrap (p1 - 1)), selfA_i (by kernel_rfl), hE10, hS0⟩
  ·rintro k16 _ w12 ⟨x15, hq32, hL17, hS13⟩
   obtain ⟨u14, rfl⟩ := selfA_u hq32
   cases k16 with
   | zero => cases hL17
   | succ k16 =>
    first | rw [rAhd_L1] at hL17 | unfold rAhd_L1 at hL17
    refine gx_seq (fun K18 hK19 => ?_)
    refine gx_seq (fun K20 hK21 => ?_)
    refine gx_region ?_
    refine gx_k (.int .i64 x15) w12 ?_
    rcases if_in hL17 with ⟨h22, hL17⟩ | ⟨h22, hL17⟩
    ·refine gx_v (.bool true) w12 (run_boolE (decide_eq_true h22) (by kernel_rfl)) ?_
     refine gx_k (.bool true) w12 (gx_k (.slice A0 p0.length c0) w12 (gx_k (.int .i64 x15) w12 ?_))
     obtain ⟨x23, hx24, hL17⟩ := bind_in hL17
     refine gx_v (.pointer (Option.map (fun (p : Addr) => p.add (Int.toNat x15 * 1)) A0)) w12 (run_ixaddr (E := 21) (s := 1) (k := .i64) (c := c0) rfl (by kernel_rfl) (by kernel_rfl) (by kernel_rfl) (fun _ => by kernel_rfl) (ix_in hx24).1 (ix_in hx24).2.1 (num_nil (hS13.view hv0))) ?_
     refine gx_v (.int .i32 x23) w12 (run_loadix rfl (by kernel_rfl) (fun _ => by kernel_rfl) (hS13.view hv0) hx24) ?_
     have hP25 : St _ _ w12 ([] ++ []) := hS13
     obtain ⟨x27, hc26, hL17⟩ := bind_in hL17
     try dsimp only at hL17
     refine gx_c (rfJn_R x27 w12) (rfJn_ok N x23 _ hc26 w12 ) ?_
     rintro _ w28 ⟨rfl, hT30⟩
     have hS29 : St _ _ w28 [] := hS13.take _ hT30
     rcases if_in hL17 with ⟨h31, hL17⟩ | ⟨h31, hL17⟩
     ·refine gx_v (.bool true) w28 (run_boolE (decide_eq_true h31) (by kernel_rfl)) ?_
      refine gx_k (.bool true) w28 ?_
      refine gx_nil ?_
      refine gx_thenN ?_
      refine hK21 _ _ ?_
      refine gx_yes (by kernel_rfl) ?_
      refine gx_pass ?_
      refine gx_thenN ?_
      refine hK19 _ _ ?_
      refine gx_block ?_
      refine gx_region ?_
      refine gx_k (.int .i64 x15) w28 (gx_k (.int .i64 (IntKind.i64.wrap (x15 - 1))) w28 (gx_k (.int .i64 (IntKind.i64.wrap (x15 - 1))) w28 ?_))
      refine gx_nil ?_
      refine gx_blkN ?_
      refine gx_thenN ?_
      exact ⟨k16, Nat.lt_succ_self k16, (IntKind.i64.wrap (x15 - 1)), selfA_i (by kernel_rfl), hL17, hS29⟩
     ·refine gx_v (.bool false) w28 (run_boolE (decide_eq_false h31) (by kernel_rfl)) ?_
      refine gx_k (.bool false) w28 ?_
      refine gx_nil ?_
      refine gx_thenN ?_
      refine hK21 _ _ ?_
      refine gx_no (by kernel_rfl) ?_
      refine gx_exit ?_
      refine gx_thenE ?_
      refine gx_thenE ?_
      refine gx_blkE ?_
      refine gx_thenN ?_
      exact ⟨x15, selfA_i (by kernel_rfl), (Option.some.inj hL17), hS29⟩
    ·refine gx_v (.bool false) w12 (run_boolE (decide_eq_false h22) (by kernel_rfl)) ?_
     refine gx_k (.bool false) w12 (gx_o (gx_o (gx_o (gx_o (gx_o (gx_o (gx_k (.bool false) w12 ?_)))))))
     refine gx_nil ?_
     refine gx_thenN ?_
     refine hK21 _ _ ?_
     refine gx_no (by kernel_rfl) ?_
     refine gx_exit ?_
     refine gx_thenE ?_
     refine gx_thenE ?_
     refine gx_blkE ?_
     refine gx_thenN ?_
     exact ⟨x15, selfA_i (by kernel_rfl), (Option.some.inj hL17), hS13⟩
 ·rintro _ w5 ⟨x8, hq48, rfl, hS6⟩
  obtain ⟨u7, rfl⟩ := selfA_u hq48
  try dsimp only at hO11
  refine gx_seq (fun K33 hK34 => ?_)
  refine gd_start (fun w => St [] w0 w []) 14 #[false, false, false, false, false, false, false, false, false, false, false, false, false, false] (by kernel_rfl) (by kernel_rfl) ?_
  have hS36 := hS6.drew
  generalize w5.drew = w35 at hS36 ⊢
  refine gv1 0 20 (.int .i64 x8) rfl hS36 ?_
  rcases if_in hO11 with ⟨h37, hO11⟩ | ⟨h37, hO11⟩
  ·refine gu1 1 21 (.bool true) rfl hS36 (fun w hSw => run_boolE (decide_eq_true h37) (by kernel_rfl)) ?_
   refine gv1 2 22 (.bool true) rfl hS36 ?_
   refine gv1 3 23 (.slice A0 p0.length c0) rfl hS36 ?_
   refine gv1 4 24 (.int .i64 x8) rfl hS36 ?_
   obtain ⟨x38, hx39, hO11⟩ := bind_in hO11
   refine gu1 5 25 (.pointer (Option.map (fun (p : Addr) => p.add (Int.toNat x8 * 1)) A0)) rfl hS36 (fun w hSw => run_ixaddr (E := 21) (s := 1) (k := .i64) (c := c0) rfl (by kernel_rfl) (by kernel_rfl) (by kernel_rfl) (fun _ => by kernel_rfl) (ix_in hx39).1 (ix_in hx39).2.1 (num_nil (hS36.view hv0))) ?_
   refine gu1 6 26 (.int .i32 x38) rfl hS36 (fun w hSw => run_loadix rfl (by kernel_rfl) (fun _ => by kernel_rfl) (hSw.view hv0) hx39) ?_
   refine gv1 7 27 (.slice A0 p0.length c0) rfl hS36 ?_
   refine gv1 8 28 (.int .i64 p1) rfl hS36 ?_
   obtain ⟨x40, hx41, hO11⟩ := bind_in hO11
   refine gu1 9 29 (.pointer (Option.map (fun (p : Addr) => p.add (Int.toNat p1 * 1)) A0)) rfl hS36 (fun w hSw => run_ixaddr (E := 21) (s := 1) (k := .i64) (c := c0) rfl (by kernel_rfl) (by kernel_rfl) (by kernel_rfl) (fun _ => by kernel_rfl) (ix_in hx41).1 (ix_in hx41).2.1 (num_nil (hS36.view hv0))) ?_
   refine gu1 10 30 (.int .i32 x40) rfl hS36 (fun w hSw => run_loadix rfl (by kernel_rfl) (fun _ => by kernel_rfl) (hSw.view hv0) hx41) ?_
   have hP42 : St _ _ w35 ([] ++ []) := hS36
   obtain ⟨b44, hc43, hO11⟩ := bind_in hO11
   try dsimp only at hO11
   refine gdC 11 { dst := some 31, op := _, type := _, pos := _, after := _, guard := _ } (rJoins_R b44 w35) rfl (by kernel_rfl) (rJoins_ok N x38 x40 _ hc43 w35 ) ?_
   rintro _ w45 ⟨rfl, hT47⟩
   have hS46 : St _ _ w45 [] := hS36.take _ hT47
   refine ⟨hS46, ?_⟩
   refine gv1 12 32 (.bool b44) rfl hS46 ?_
   refine gv1 13 4 (.bool b44) rfl hS46 ?_
   refine gd_done (by kernel_rfl) ?_
   refine gx_thenN ?_
   refine hK34 _ _ ?_
   refine gx_ret ?_
   obtain rfl := Option.some.inj hO11
   exact gx_fin (.bool b44) (by kernel_rfl) (by kernel_rfl) ⟨_, rfl, rfl, hS46⟩
  ·refine gu1 1 21 (.bool false) rfl hS36 (fun w hSw => run_boolE (decide_eq_false h37) (by kernel_rfl)) ?_
   refine gv1 2 22 (.bool false) rfl hS36 ?_
   refine gz1 3 23 rfl hS36 ?_
   refine gz1 4 24 rfl hS36 ?_
   refine gz1 5 25 rfl hS36 ?_
   refine gz1 6 26 rfl hS36 ?_
   refine gz1 7 27 rfl hS36 ?_
   refine gz1 8 28 rfl hS36 ?_
   refine gz1 9 29 rfl hS36 ?_
   refine gz1 10 30 rfl hS36 ?_
   refine gz1 11 31 rfl hS36 ?_
   refine gv1 12 32 (.bool false) rfl hS36 ?_
   refine gv1 13 4 (.bool false) rfl hS36 ?_
   refine gd_done (by kernel_rfl) ?_
   refine gx_thenN ?_
   refine hK34 _ _ ?_
   refine gx_ret ?_
   obtain rfl := Option.some.inj hO11
   exact gx_fin (.bool false) (by kernel_rfl) (by kernel_rfl) ⟨_, rfl, rfl, hS36⟩

def rBhd_L1 (N : Nat) (p0 : List Int) : Nat → Int → Option (Int)
 | 0, _ => none
 | k16+1, x15 => (if x15 < ((p0.length : Nat) : Int) then ((ix p0 x15).bind fun x23 => ((rfJn N x23).bind fun x27 => (if x27 = 4 then rBhd_L1 N p0 k16 (IntKind.i64.wrap (x15 + 1)) else some (x15)))) else some (x15))
def rBhd (N : Nat) (p0 : List Int) (p1 : Int) : Option (Bool) :=
 ((rBhd_L1 N p0 N (IntKind.i64.wrap (p1 + 1)) : Option (Int)).bind fun x8 => (if x8 < ((p0.length : Nat) : Int) then ((ix p0 p1).bind fun x38 => ((ix p0 x8).bind fun x40 => ((rJoins N x38 x40).bind fun b44 => some b44))) else some false))

set_option linter.unusedVariables false in
def rBhd_R (r : Bool) (w0 : World) (v : Value) (w : World) : Prop := v = .bool r ∧ St [] w0 w []

set_option maxRecDepth 100000 in
set_option maxHeartbeats 4000000 in
theorem rBhd_ok (N : Nat) (p0 : List Int) (p1 : Int) (A0 : Option Addr) (c0 : Nat) (r : Bool) (hF : rBhd N p0 p1 = some r) (w0 : World) (hv0 : Vw [] .i32 w0 A0 c0 p0) :
  Calls Tryd.prog 19 #[.slice A0 p0.length c0, .int .i64 p1] w0 fun e w => ∃ v, e = .returned v ∧ rBhd_R r w0 v w := by
 have hS0 := St.start w0
 unfold rBhd at hF
 refine calls_of Tryd.func19 rfl ⟨((.slice A0 p0.length c0) :: (.int .i64 p1) :: un 35 ([])).toArray, []⟩ (by kernel_rfl) ?_
 refine gx_seq (fun K1 hK2 => ?_)
 refine gx_region ?_
 refine gx_k (.bool false) w0 ?_
 refine gx_nil ?_
 refine gx_thenN ?_
 refine hK2 _ _ ?_
 refine gx_seq (fun K3 hK4 => ?_)
 refine gx_region ?_
 refine gx_k (.int .i64 p1) w0 (gx_k (.int .i64 (IntKind.i64.wrap (p1 + 1))) w0 (gx_k (.int .i64 (IntKind.i64.wrap (p1 + 1))) w0 ?_))
 refine gx_nil ?_
 refine gx_thenN ?_
 refine hK4 _ _ ?_
 obtain ⟨c9, hE10, hO11⟩ := bind_in hF
 refine gx_cut (fun a w => ∃ (x8 : Int), selfA (fun u7 => ⟨((.slice A0 p0.length c0) :: (.int .i64 p1) :: undef :: undef :: (.bool false) :: (.int .i64 x8) :: (.int .i64 p1) :: (.int .i64 (IntKind.i64.wrap (p1 + 1))) :: dd u7 8 14 (un 15 ([]))).toArray, []⟩) a ∧ x8 = c9 ∧ St [] w0 w []) ?_ ?_
 ·refine gx_block ?_
  refine gx_loop (fun k a w => ∃ (x15 : Int), selfA (fun u14 => ⟨((.slice A0 p0.length c0) :: (.int .i64 p1) :: undef :: undef :: (.bool false) :: (.int .i64 x15) :: (.int .i64 p1) :: (.int .i64 (IntKind.i64.wrap (p1 + 1))) :: dd u14 8 14 (un 15 ([]))).toArray, []⟩) a ∧ rBhd_L1 N p0 k x15 = some c9 ∧ St [] w0 w []) N ?_ ?_
  ·exact ⟨(IntKind.i64.wrap (p1 + 1)), selfA_i (by kernel_rfl), hE10, hS0⟩
  ·rintro k16 _ w12 ⟨x15, hq32, hL17, hS13⟩
   obtain ⟨u14, rfl⟩ := selfA_u hq32
   cases k16 with
   | zero => cases hL17
   | succ k16 =>
    first | rw [rBhd_L1] at hL17 | unfold rBhd_L1 at hL17
    refine gx_seq (fun K18 hK19 => ?_)
    refine gx_seq (fun K20 hK21 => ?_)
    refine gx_region ?_
    refine gx_k (.int .i64 x15) w12 (gx_k (.slice A0 p0.length c0) w12 (gx_k (.int .i64 ((p0.length : Nat) : Int)) w12 ?_))
    rcases if_in hL17 with ⟨h22, hL17⟩ | ⟨h22, hL17⟩
    ·refine gx_v (.bool true) w12 (run_boolE (decide_eq_true h22) (by kernel_rfl)) ?_
     refine gx_k (.bool true) w12 (gx_k (.slice A0 p0.length c0) w12 (gx_k (.int .i64 x15) w12 ?_))
     obtain ⟨x23, hx24, hL17⟩ := bind_in hL17
     refine gx_v (.pointer (Option.map (fun (p : Addr) => p.add (Int.toNat x15 * 1)) A0)) w12 (run_ixaddr (E := 21) (s := 1) (k := .i64) (c := c0) rfl (by kernel_rfl) (by kernel_rfl) (by kernel_rfl) (fun _ => by kernel_rfl) (ix_in hx24).1 (ix_in hx24).2.1 (num_nil (hS13.view hv0))) ?_
     refine gx_v (.int .i32 x23) w12 (run_loadix rfl (by kernel_rfl) (fun _ => by kernel_rfl) (hS13.view hv0) hx24) ?_
     have hP25 : St _ _ w12 ([] ++ []) := hS13
     obtain ⟨x27, hc26, hL17⟩ := bind_in hL17
     try dsimp only at hL17
     refine gx_c (rfJn_R x27 w12) (rfJn_ok N x23 _ hc26 w12 ) ?_
     rintro _ w28 ⟨rfl, hT30⟩
     have hS29 : St _ _ w28 [] := hS13.take _ hT30
     rcases if_in hL17 with ⟨h31, hL17⟩ | ⟨h31, hL17⟩
     ·refine gx_v (.bool true) w28 (run_boolE (decide_eq_true h31) (by kernel_rfl)) ?_
      refine gx_k (.bool true) w28 ?_
      refine gx_nil ?_
      refine gx_thenN ?_
      refine hK21 _ _ ?_
      refine gx_yes (by kernel_rfl) ?_
      refine gx_pass ?_
      refine gx_thenN ?_
      refine hK19 _ _ ?_
      refine gx_block ?_
      refine gx_region ?_
      refine gx_k (.int .i64 x15) w28 (gx_k (.int .i64 (IntKind.i64.wrap (x15 + 1))) w28 (gx_k (.int .i64 (IntKind.i64.wrap (x15 + 1))) w28 ?_))
      refine gx_nil ?_
      refine gx_blkN ?_
      refine gx_thenN ?_
      exact ⟨k16, Nat.lt_succ_self k16, (IntKind.i64.wrap (x15 + 1)), selfA_i (by kernel_rfl), hL17, hS29⟩
     ·refine gx_v (.bool false) w28 (run_boolE (decide_eq_false h31) (by kernel_rfl)) ?_
      refine gx_k (.bool false) w28 ?_
      refine gx_nil ?_
      refine gx_thenN ?_
      refine hK21 _ _ ?_
      refine gx_no (by kernel_rfl) ?_
      refine gx_exit ?_
      refine gx_thenE ?_
      refine gx_thenE ?_
      refine gx_blkE ?_
      refine gx_thenN ?_
      exact ⟨x15, selfA_i (by kernel_rfl), (Option.some.inj hL17), hS29⟩
    ·refine gx_v (.bool false) w12 (run_boolE (decide_eq_false h22) (by kernel_rfl)) ?_
     refine gx_k (.bool false) w12 (gx_o (gx_o (gx_o (gx_o (gx_o (gx_o (gx_k (.bool false) w12 ?_)))))))
     refine gx_nil ?_
     refine gx_thenN ?_
     refine hK21 _ _ ?_
     refine gx_no (by kernel_rfl) ?_
     refine gx_exit ?_
     refine gx_thenE ?_
     refine gx_thenE ?_
     refine gx_blkE ?_
     refine gx_thenN ?_
     exact ⟨x15, selfA_i (by kernel_rfl), (Option.some.inj hL17), hS13⟩
 ·rintro _ w5 ⟨x8, hq48, rfl, hS6⟩
  obtain ⟨u7, rfl⟩ := selfA_u hq48
  try dsimp only at hO11
  refine gx_seq (fun K33 hK34 => ?_)
  refine gd_start (fun w => St [] w0 w []) 16 #[false, false, false, false, false, false, false, false, false, false, false, false, false, false, false, false] (by kernel_rfl) (by kernel_rfl) ?_
  have hS36 := hS6.drew
  generalize w5.drew = w35 at hS36 ⊢
  refine gv1 0 22 (.int .i64 x8) rfl hS36 ?_
  refine gv1 1 23 (.slice A0 p0.length c0) rfl hS36 ?_
  refine gv1 2 24 (.int .i64 ((p0.length : Nat) : Int)) rfl hS36 ?_
  rcases if_in hO11 with ⟨h37, hO11⟩ | ⟨h37, hO11⟩
  ·refine gu1 3 25 (.bool true) rfl hS36 (fun w hSw => run_boolE (decide_eq_true h37) (by kernel_rfl)) ?_
   refine gv1 4 26 (.bool true) rfl hS36 ?_
   refine gv1 5 27 (.slice A0 p0.length c0) rfl hS36 ?_
   refine gv1 6 28 (.int .i64 p1) rfl hS36 ?_
   obtain ⟨x38, hx39, hO11⟩ := bind_in hO11
   refine gu1 7 29 (.pointer (Option.map (fun (p : Addr) => p.add (Int.toNat p1 * 1)) A0)) rfl hS36 (fun w hSw => run_ixaddr (E := 21) (s := 1) (k := .i64) (c := c0) rfl (by kernel_rfl) (by kernel_rfl) (by kernel_rfl) (fun _ => by kernel_rfl) (ix_in hx39).1 (ix_in hx39).2.1 (num_nil (hS36.view hv0))) ?_
   refine gu1 8 30 (.int .i32 x38) rfl hS36 (fun w hSw => run_loadix rfl (by kernel_rfl) (fun _ => by kernel_rfl) (hSw.view hv0) hx39) ?_
   refine gv1 9 31 (.slice A0 p0.length c0) rfl hS36 ?_
   refine gv1 10 32 (.int .i64 x8) rfl hS36 ?_
   obtain ⟨x40, hx41, hO11⟩ := bind_in hO11
   refine gu1 11 33 (.pointer (Option.map (fun (p : Addr) => p.add (Int.toNat x8 * 1)) A0)) rfl hS36 (fun w hSw => run_ixaddr (E := 21) (s := 1) (k := .i64) (c := c0) rfl (by kernel_rfl) (by kernel_rfl) (by kernel_rfl) (fun _ => by kernel_rfl) (ix_in hx41).1 (ix_in hx41).2.1 (num_nil (hS36.view hv0))) ?_
   refine gu1 12 34 (.int .i32 x40) rfl hS36 (fun w hSw => run_loadix rfl (by kernel_rfl) (fun _ => by kernel_rfl) (hSw.view hv0) hx41) ?_
   have hP42 : St _ _ w35 ([] ++ []) := hS36
   obtain ⟨b44, hc43, hO11⟩ := bind_in hO11
   try dsimp only at hO11
   refine gdC 13 { dst := some 35, op := _, type := _, pos := _, after := _, guard := _ } (rJoins_R b44 w35) rfl (by kernel_rfl) (rJoins_ok N x38 x40 _ hc43 w35 ) ?_
   rintro _ w45 ⟨rfl, hT47⟩
   have hS46 : St _ _ w45 [] := hS36.take _ hT47
   refine ⟨hS46, ?_⟩
   refine gv1 14 36 (.bool b44) rfl hS46 ?_
   refine gv1 15 4 (.bool b44) rfl hS46 ?_
   refine gd_done (by kernel_rfl) ?_
   refine gx_thenN ?_
   refine hK34 _ _ ?_
   refine gx_ret ?_
   obtain rfl := Option.some.inj hO11
   exact gx_fin (.bool b44) (by kernel_rfl) (by kernel_rfl) ⟨_, rfl, rfl, hS46⟩
  ·refine gu1 3 25 (.bool false) rfl hS36 (fun w hSw => run_boolE (decide_eq_false h37) (by kernel_rfl)) ?_
   refine gv1 4 26 (.bool false) rfl hS36 ?_
   refine gz1 5 27 rfl hS36 ?_
   refine gz1 6 28 rfl hS36 ?_
   refine gz1 7 29 rfl hS36 ?_
   refine gz1 8 30 rfl hS36 ?_
   refine gz1 9 31 rfl hS36 ?_
   refine gz1 10 32 rfl hS36 ?_
   refine gz1 11 33 rfl hS36 ?_
   refine gz1 12 34 rfl hS36 ?_
   refine gz1 13 35 rfl hS36 ?_
   refine gv1 14 36 (.bool false) rfl hS36 ?_
   refine gv1 15 4 (.bool false) rfl hS36 ?_
   refine gd_done (by kernel_rfl) ?_
   refine gx_thenN ?_
   refine hK34 _ _ ?_
   refine gx_ret ?_
   obtain rfl := Option.some.inj hO11
   exact gx_fin (.bool false) (by kernel_rfl) (by kernel_rfl) ⟨_, rfl, rfl, hS36⟩

def rForms_L1 (N : Nat) (p0 : List Int) : Nat → (List Int) → Int → Option (List Int)
 | 0, _, _ => none
 | k24+1, l22, x23 => (if x23 < ((p0.length : Nat) : Int) then ((rAhd N p0 x23).bind fun b39 => ((rBhd N p0 x23).bind fun b45 => ((ix p0 x23).bind fun x53 => ((rfJn N x53).bind fun x57 => (if x57 = 1 then (match b39 with | true => ((apx l22 ([4])).bind fun l70 => rForms_L1 N p0 k24 l70 (IntKind.i64.wrap (x23 + 1))) | false => ((apx l22 ([1])).bind fun l79 => rForms_L1 N p0 k24 l79 (IntKind.i64.wrap (x23 + 1)))) else (if x57 = 5 then (match b45 with | true => ((apx l22 ([2])).bind fun l95 => rForms_L1 N p0 k24 l95 (IntKind.i64.wrap (x23 + 1))) | false => ((apx l22 ([1])).bind fun l104 => rForms_L1 N p0 k24 l104 (IntKind.i64.wrap (x23 + 1)))) else (if x57 = 2 then (((match b39 with | true => some (b45) | false => some (false)) : Option (Bool)).bind fun b117 => (match b117 with | true => ((apx l22 ([3])).bind fun l123 => rForms_L1 N p0 k24 l123 (IntKind.i64.wrap (x23 + 1))) | false => (match b39 with | true => ((apx l22 ([4])).bind fun l134 => rForms_L1 N p0 k24 l134 (IntKind.i64.wrap (x23 + 1))) | false => (match b45 with | true => ((apx l22 ([2])).bind fun l145 => rForms_L1 N p0 k24 l145 (IntKind.i64.wrap (x23 + 1))) | false => ((apx l22 ([1])).bind fun l154 => rForms_L1 N p0 k24 l154 (IntKind.i64.wrap (x23 + 1))))))) else ((apx l22 ([0])).bind fun l164 => rForms_L1 N p0 k24 l164 (IntKind.i64.wrap (x23 + 1)))))))))) else some (l22))
def rForms (N : Nat) (p0 : List Int) : Option (List Int) :=
 ((rForms_L1 N p0 N ([]) 0 : Option (List Int)).bind fun l10 => some l10)

set_option linter.unusedVariables false in
def rForms_R (r : List Int) (w0 : World) (v : Value) (w : World) : Prop := ∃ (A0' : Option Addr) (c0' : Nat), v = .slice A0' r.length c0' ∧ St [] w0 w [rowE .u8 5 A0' c0' r]

set_option maxRecDepth 100000 in
set_option maxHeartbeats 4000000 in
theorem rForms_ok (N : Nat) (p0 : List Int) (A0 : Option Addr) (c0 : Nat) (r : List Int) (hF : rForms N p0 = some r) (w0 : World) (hv0 : Vw [] .i32 w0 A0 c0 p0) :
  Calls Tryd.prog 10 #[.slice A0 p0.length c0] w0 fun e w => ∃ v, e = .returned v ∧ rForms_R r w0 v w := by
 have hS0 := St.start w0
 unfold rForms at hF
 refine calls_of Tryd.func10 rfl ⟨((.slice A0 p0.length c0) :: un 46 ([])).toArray, []⟩ (by kernel_rfl) ?_
 refine gx_seq (fun K1 hK2 => ?_)
 refine gx_region ?_
 refine gx_k (.slice none 0 0) w0 ?_
 refine gx_nil ?_
 refine gx_thenN ?_
 refine hK2 _ _ ?_
 refine gx_seq (fun K3 hK4 => ?_)
 refine gx_region ?_
 refine gx_k (.slice none 0 0) w0 ?_
 refine gx_nil ?_
 refine gx_thenN ?_
 refine hK4 _ _ ?_
 obtain ⟨c11, hE12, hO13⟩ := bind_in hF
 refine gx_cut (fun a w => ∃ (l10 : List Int) (A8 : Option Addr) (c9 : Nat), selfA (fun u7 => ⟨((u7 0) :: undef :: (.slice none 0 0) :: (.slice A8 l10.length c9) :: dd u7 4 42 (undef :: [])).toArray, []⟩) a ∧ l10 = c11 ∧ St [] w0 w [rowE .u8 5 A8 c9 l10]) ?_ ?_
 ·refine gx_seq (fun K14 hK15 => ?_)
  refine gx_region ?_
  refine gx_k (.int .i64 0) w0 ?_
  refine gx_nil ?_
  refine gx_thenN ?_
  refine hK15 _ _ ?_
  refine gx_block ?_
  have hS16 : St _ _ w0 [rowE .u8 5 none 0 ([])] := hS0.nilrow .u8 5
  refine gx_loop (fun k a w => ∃ (l22 : List Int) (x23 : Int) (A20 : Option Addr) (c21 : Nat), selfA (fun u19 => ⟨((.slice A0 p0.length c0) :: undef :: (.slice none 0 0) :: (.slice A20 l22.length c21) :: (.int .i64 x23) :: dd u19 5 41 (undef :: [])).toArray, []⟩) a ∧ rForms_L1 N p0 k l22 x23 = some c11 ∧ St [] w0 w [rowE .u8 5 A20 c21 l22]) N ?_ ?_
  ·exact ⟨([]), 0, none, 0, selfA_i (by kernel_rfl), hE12, hS16⟩
  ·rintro k24 _ w17 ⟨l22, x23, A20, c21, hq171, hL25, hS18⟩
   obtain ⟨u19, rfl⟩ := selfA_u hq171
   cases k24 with
   | zero => cases hL25
   | succ k24 =>
    first | rw [rForms_L1] at hL25 | unfold rForms_L1 at hL25
    refine gx_seq (fun K26 hK27 => ?_)
    refine gx_seq (fun K28 hK29 => ?_)
    refine gx_region ?_
    refine gx_k (.int .i64 x23) w17 (gx_k (.slice A0 p0.length c0) w17 (gx_k (.int .i64 ((p0.length : Nat) : Int)) w17 ?_))
    rcases if_in hL25 with ⟨h30, hL25⟩ | ⟨h30, hL25⟩
    ·refine gx_v (.bool true) w17 (run_boolE (decide_eq_true h30) (by kernel_rfl)) ?_
     refine gx_nil ?_
     refine gx_thenN ?_
     refine hK29 _ _ ?_
     refine gx_yes (by kernel_rfl) ?_
     refine gx_pass ?_
     refine gx_thenN ?_
     refine hK27 _ _ ?_
     refine gx_seq (fun K31 hK32 => ?_)
     refine gx_block ?_
     refine gx_seq (fun K33 hK34 => ?_)
     refine gx_region ?_
     refine gx_k (.int .u8 0) w17 ?_
     refine gx_nil ?_
     refine gx_thenN ?_
     refine hK34 _ _ ?_
     refine gx_seq (fun K35 hK36 => ?_)
     refine gx_region ?_
     refine gx_k (.slice A0 p0.length c0) w17 (gx_k (.int .i64 x23) w17 ?_)
     have hP37 : St _ _ w17 ([] ++ [rowE .u8 5 A20 c21 l22]) := hS18
     obtain ⟨b39, hc38, hL25⟩ := bind_in hL25
     try dsimp only at hL25
     refine gx_c (rAhd_R b39 w17) (rAhd_ok N p0 x23 A0 c0 _ hc38 w17 (hP37.vwA hv0)) ?_
     rintro _ w40 ⟨rfl, hT42⟩
     have hS41 : St _ _ w40 [rowE .u8 5 A20 c21 l22] := hS18.take _ hT42
     refine gx_k (.slice A0 p0.length c0) w40 (gx_k (.int .i64 x23) w40 ?_)
     have hP43 : St _ _ w40 ([] ++ [rowE .u8 5 A20 c21 l22]) := hS41
     obtain ⟨b45, hc44, hL25⟩ := bind_in hL25
     try dsimp only at hL25
     refine gx_c (rBhd_R b45 w40) (rBhd_ok N p0 x23 A0 c0 _ hc44 w40 (hP43.vwA hv0)) ?_
     rintro _ w46 ⟨rfl, hT48⟩
     have hS47 : St _ _ w46 [rowE .u8 5 A20 c21 l22] := hS41.take _ hT48
     refine gx_k (.bool b39) w46 (gx_k (.bool b45) w46 ?_)
     refine gx_nil ?_
     refine gx_thenN ?_
     refine hK36 _ _ ?_
     refine gx_seq (fun K49 hK50 => ?_)
     refine gx_seq (fun K51 hK52 => ?_)
     refine gx_region ?_
     refine gx_k (.slice A0 p0.length c0) w46 (gx_k (.int .i64 x23) w46 ?_)
     obtain ⟨x53, hx54, hL25⟩ := bind_in hL25
     refine gx_v (.pointer (Option.map (fun (p : Addr) => p.add (Int.toNat x23 * 1)) A0)) w46 (run_ixaddr (E := 21) (s := 1) (k := .i64) (c := c0) rfl (by kernel_rfl) (by kernel_rfl) (by kernel_rfl) (fun _ => by kernel_rfl) (ix_in hx54).1 (ix_in hx54).2.1 (num_nil (hS47.view hv0))) ?_
     refine gx_v (.int .i32 x53) w46 (run_loadix rfl (by kernel_rfl) (fun _ => by kernel_rfl) (hS47.view hv0) hx54) ?_
     have hP55 : St _ _ w46 ([] ++ [rowE .u8 5 A20 c21 l22]) := hS47
     obtain ⟨x57, hc56, hL25⟩ := bind_in hL25
     try dsimp only at hL25
     refine gx_c (rfJn_R x57 w46) (rfJn_ok N x53 _ hc56 w46 ) ?_
     rintro _ w58 ⟨rfl, hT60⟩
     have hS59 : St _ _ w58 [rowE .u8 5 A20 c21 l22] := hS47.take _ hT60
     refine gx_nil ?_
     refine gx_thenN ?_
     refine hK52 _ _ ?_
     refine gx_block ?_
     refine gx_seq (fun K61 hK62 => ?_)
     refine gx_region ?_
     rcases if_in hL25 with ⟨h63, hL25⟩ | ⟨h63, hL25⟩
     ·refine gx_v (.bool true) w58 (run_boolE (decide_eq_true h63) (by kernel_rfl)) ?_
      refine gx_k (.bool true) w58 ?_
      refine gx_nil ?_
      refine gx_thenN ?_
      refine hK62 _ _ ?_
      refine gx_yes (by kernel_rfl) ?_
      refine gx_seq (fun K64 hK65 => ?_)
      refine gx_region ?_
      refine gx_k (.int .u8 1) w58 ?_
      refine gx_nil ?_
      refine gx_thenN ?_
      refine hK65 _ _ ?_
      refine gx_seq (fun K66 hK67 => ?_)
      refine gx_region ?_
      refine gx_k (.bool b39) w58 ?_
      refine gx_nil ?_
      refine gx_thenN ?_
      refine hK67 _ _ ?_
      cases b39 with
      | true =>
       try dsimp only at hL25
       refine gx_yes (by kernel_rfl) ?_
       refine gx_region ?_
       refine gx_k (.int .u8 4) w58 ?_
       refine gx_nil ?_
       refine gx_blkN ?_
       refine gx_thenN ?_
       refine hK50 _ _ ?_
       refine gx_region ?_
       refine gx_k (.slice A20 l22.length c21) w58 (gx_k (.int .u8 4) w58 ?_)
       refine gx_r (st_made .u8 5 [4] hS59 (by show 1 ≤ 1000000000; decide) (by kernel_rfl)) ?_
       rintro _ w68 ⟨rfl, hS69⟩
       have hS69 : St _ _ w68 [rowE .u8 5 A20 c21 l22, rowE .u8 5 (some ⟨w58.heap.size, 0, none⟩) 1 ([4])] := hS69
       obtain ⟨l70, ha71, hL25⟩ := bind_in hL25
       obtain ⟨ha71, hq72⟩ := apx_in ha71
       refine gx_r (st_append rfl (by kernel_rfl) (by kernel_rfl) hS69 0 rfl (hS69.row 1 rfl).1 (hS69.row 1 rfl).2 ha71 (by kernel_rfl) (by kernel_rfl)) ?_
       rintro _ w75 ⟨A73, c74, rfl, hS76⟩
       rw [← hq72] at hS76 ⊢
       have hS76 : St _ _ w75 [rowE .u8 5 A73 c74 l70, rowE .u8 5 (some ⟨w58.heap.size, 0, none⟩) 1 ([4])] := hS76
       refine gx_k (.slice A73 l70.length c74) w75 ?_
       refine gx_nil ?_
       refine gx_blkN ?_
       refine gx_thenN ?_
       refine hK32 _ _ ?_
       refine gx_region ?_
       refine gx_k (.int .i64 x23) w75 (gx_k (.int .i64 (IntKind.i64.wrap (x23 + 1))) w75 (gx_k (.int .i64 (IntKind.i64.wrap (x23 + 1))) w75 ?_))
       refine gx_nil ?_
       refine gx_thenN ?_
       exact ⟨k24, Nat.lt_succ_self k24, l70, (IntKind.i64.wrap (x23 + 1)), A73, c74, selfA_i (by kernel_rfl), hL25, (hS76.pick [0] rfl rfl)⟩
      | false =>
       try dsimp only at hL25
       refine gx_no (by kernel_rfl) ?_
       refine gx_pass ?_
       refine gx_blkN ?_
       refine gx_thenN ?_
       refine hK50 _ _ ?_
       refine gx_region ?_
       refine gx_k (.slice A20 l22.length c21) w58 (gx_k (.int .u8 1) w58 ?_)
       refine gx_r (st_made .u8 5 [1] hS59 (by show 1 ≤ 1000000000; decide) (by kernel_rfl)) ?_
       rintro _ w77 ⟨rfl, hS78⟩
       have hS78 : St _ _ w77 [rowE .u8 5 A20 c21 l22, rowE .u8 5 (some ⟨w58.heap.size, 0, none⟩) 1 ([1])] := hS78
       obtain ⟨l79, ha80, hL25⟩ := bind_in hL25
       obtain ⟨ha80, hq81⟩ := apx_in ha80
       refine gx_r (st_append rfl (by kernel_rfl) (by kernel_rfl) hS78 0 rfl (hS78.row 1 rfl).1 (hS78.row 1 rfl).2 ha80 (by kernel_rfl) (by kernel_rfl)) ?_
       rintro _ w84 ⟨A82, c83, rfl, hS85⟩
       rw [← hq81] at hS85 ⊢
       have hS85 : St _ _ w84 [rowE .u8 5 A82 c83 l79, rowE .u8 5 (some ⟨w58.heap.size, 0, none⟩) 1 ([1])] := hS85
       refine gx_k (.slice A82 l79.length c83) w84 ?_
       refine gx_nil ?_
       refine gx_blkN ?_
       refine gx_thenN ?_
       refine hK32 _ _ ?_
       refine gx_region ?_
       refine gx_k (.int .i64 x23) w84 (gx_k (.int .i64 (IntKind.i64.wrap (x23 + 1))) w84 (gx_k (.int .i64 (IntKind.i64.wrap (x23 + 1))) w84 ?_))
       refine gx_nil ?_
       refine gx_thenN ?_
       exact ⟨k24, Nat.lt_succ_self k24, l79, (IntKind.i64.wrap (x23 + 1)), A82, c83, selfA_i (by kernel_rfl), hL25, (hS85.pick [0] rfl rfl)⟩
     ·refine gx_v (.bool false) w58 (run_boolE (decide_eq_false h63) (by kernel_rfl)) ?_
      refine gx_k (.bool false) w58 ?_
      refine gx_nil ?_
      refine gx_thenN ?_
      refine hK62 _ _ ?_
      refine gx_no (by kernel_rfl) ?_
      refine gx_seq (fun K86 hK87 => ?_)
      refine gx_region ?_
      rcases if_in hL25 with ⟨h88, hL25⟩ | ⟨h88, hL25⟩
      ·refine gx_v (.bool true) w58 (run_boolE (decide_eq_true h88) (by kernel_rfl)) ?_
       refine gx_k (.bool true) w58 ?_
       refine gx_nil ?_
       refine gx_thenN ?_
       refine hK87 _ _ ?_
       refine gx_yes (by kernel_rfl) ?_
       refine gx_seq (fun K89 hK90 => ?_)
       refine gx_region ?_
       refine gx_k (.int .u8 1) w58 ?_
       refine gx_nil ?_
       refine gx_thenN ?_
       refine hK90 _ _ ?_
       refine gx_seq (fun K91 hK92 => ?_)
       refine gx_region ?_
       refine gx_k (.bool b45) w58 ?_
       refine gx_nil ?_
       refine gx_thenN ?_
       refine hK92 _ _ ?_
       cases b45 with
       | true =>
        try dsimp only at hL25
        refine gx_yes (by kernel_rfl) ?_
        refine gx_region ?_
        refine gx_k (.int .u8 2) w58 ?_
        refine gx_nil ?_
        refine gx_blkN ?_
        refine gx_thenN ?_
        refine hK50 _ _ ?_
        refine gx_region ?_
        refine gx_k (.slice A20 l22.length c21) w58 (gx_k (.int .u8 2) w58 ?_)
        refine gx_r (st_made .u8 5 [2] hS59 (by show 1 ≤ 1000000000; decide) (by kernel_rfl)) ?_
        rintro _ w93 ⟨rfl, hS94⟩
        have hS94 : St _ _ w93 [rowE .u8 5 A20 c21 l22, rowE .u8 5 (some ⟨w58.heap.size, 0, none⟩) 1 ([2])] := hS94
        obtain ⟨l95, ha96, hL25⟩ := bind_in hL25
        obtain ⟨ha96, hq97⟩ := apx_in ha96
        refine gx_r (st_append rfl (by kernel_rfl) (by kernel_rfl) hS94 0 rfl (hS94.row 1 rfl).1 (hS94.row 1 rfl).2 ha96 (by kernel_rfl) (by kernel_rfl)) ?_
        rintro _ w100 ⟨A98, c99, rfl, hS101⟩
        rw [← hq97] at hS101 ⊢
        have hS101 : St _ _ w100 [rowE .u8 5 A98 c99 l95, rowE .u8 5 (some ⟨w58.heap.size, 0, none⟩) 1 ([2])] := hS101
        refine gx_k (.slice A98 l95.length c99) w100 ?_
        refine gx_nil ?_
        refine gx_blkN ?_
        refine gx_thenN ?_
        refine hK32 _ _ ?_
        refine gx_region ?_
        refine gx_k (.int .i64 x23) w100 (gx_k (.int .i64 (IntKind.i64.wrap (x23 + 1))) w100 (gx_k (.int .i64 (IntKind.i64.wrap (x23 + 1))) w100 ?_))
        refine gx_nil ?_
        refine gx_thenN ?_
        exact ⟨k24, Nat.lt_succ_self k24, l95, (IntKind.i64.wrap (x23 + 1)), A98, c99, selfA_i (by kernel_rfl), hL25, (hS101.pick [0] rfl rfl)⟩
       | false =>
        try dsimp only at hL25
        refine gx_no (by kernel_rfl) ?_
        refine gx_pass ?_
        refine gx_blkN ?_
        refine gx_thenN ?_
        refine hK50 _ _ ?_
        refine gx_region ?_
        refine gx_k (.slice A20 l22.length c21) w58 (gx_k (.int .u8 1) w58 ?_)
        refine gx_r (st_made .u8 5 [1] hS59 (by show 1 ≤ 1000000000; decide) (by kernel_rfl)) ?_
        rintro _ w102 ⟨rfl, hS103⟩
        have hS103 : St _ _ w102 [rowE .u8 5 A20 c21 l22, rowE .u8 5 (some ⟨w58.heap.size, 0, none⟩) 1 ([1])] := hS103
        obtain ⟨l104, ha105, hL25⟩ := bind_in hL25
        obtain ⟨ha105, hq106⟩ := apx_in ha105
        refine gx_r (st_append rfl (by kernel_rfl) (by kernel_rfl) hS103 0 rfl (hS103.row 1 rfl).1 (hS103.row 1 rfl).2 ha105 (by kernel_rfl) (by kernel_rfl)) ?_
        rintro _ w109 ⟨A107, c108, rfl, hS110⟩
        rw [← hq106] at hS110 ⊢
        have hS110 : St _ _ w109 [rowE .u8 5 A107 c108 l104, rowE .u8 5 (some ⟨w58.heap.size, 0, none⟩) 1 ([1])] := hS110
        refine gx_k (.slice A107 l104.length c108) w109 ?_
        refine gx_nil ?_
        refine gx_blkN ?_
        refine gx_thenN ?_
        refine hK32 _ _ ?_
        refine gx_region ?_
        refine gx_k (.int .i64 x23) w109 (gx_k (.int .i64 (IntKind.i64.wrap (x23 + 1))) w109 (gx_k (.int .i64 (IntKind.i64.wrap (x23 + 1))) w109 ?_))
        refine gx_nil ?_
        refine gx_thenN ?_
        exact ⟨k24, Nat.lt_succ_self k24, l104, (IntKind.i64.wrap (x23 + 1)), A107, c108, selfA_i (by kernel_rfl), hL25, (hS110.pick [0] rfl rfl)⟩
      ·refine gx_v (.bool false) w58 (run_boolE (decide_eq_false h88) (by kernel_rfl)) ?_
       refine gx_k (.bool false) w58 ?_
       refine gx_nil ?_
       refine gx_thenN ?_
       refine hK87 _ _ ?_
       refine gx_no (by kernel_rfl) ?_
       refine gx_seq (fun K111 hK112 => ?_)
       refine gx_region ?_
       rcases if_in hL25 with ⟨h113, hL25⟩ | ⟨h113, hL25⟩
       ·refine gx_v (.bool true) w58 (run_boolE (decide_eq_true h113) (by kernel_rfl)) ?_
        refine gx_k (.bool true) w58 ?_
        refine gx_nil ?_
        refine gx_thenN ?_
        refine hK112 _ _ ?_
        refine gx_yes (by kernel_rfl) ?_
        refine gx_block ?_
        obtain ⟨c118, hE119, hO120⟩ := bind_in hL25
        refine gx_cut (fun a w => ∃ (b117 : Bool), selfA (fun u116 => ⟨((.slice A0 p0.length c0) :: undef :: (.slice none 0 0) :: (.slice A20 l22.length c21) :: (.int .i64 x23) :: (.int .u8 0) :: (.bool b39) :: (.bool b45) :: (.int .i64 x23) :: (u116 9) :: (.int .i64 ((p0.length : Nat) : Int)) :: (.bool true) :: dd u19 12 2 ((u116 14) :: (.int .i64 x23) :: (.bool b39) :: (u116 17) :: (.int .i64 x23) :: (.bool b45) :: (u116 20) :: (.int .i64 x23) :: (.pointer (Option.map (fun (p : Addr) => p.add (Int.toNat x23 * 1)) A0)) :: (.int .i32 x53) :: (.int .u8 x57) :: (.bool false) :: (.bool false) :: (u19 27) :: (.bool false) :: (.bool false) :: (u19 30) :: (.bool true) :: (.bool true) :: (.bool b117) :: dd u116 34 4 (dd u19 38 8 (undef :: [])))).toArray, []⟩) a ∧ b117 = c118 ∧ St [] w0 w [rowE .u8 5 A20 c21 l22]) ?_ ?_
        ·refine gx_region ?_
         refine gx_k (.bool b39) w58 (gx_k (.bool b39) w58 ?_)
         cases b39 with
         | true =>
          try dsimp only at hE119
          refine gx_k (.bool b45) w58 (gx_k (.bool b45) w58 (gx_k (.bool b45) w58 ?_))
          refine gx_nil ?_
          refine gx_thenN ?_
          exact ⟨b45, selfA_i (by kernel_rfl), (Option.some.inj hE119), hS59⟩
         | false =>
          try dsimp only at hE119
          refine gx_o (gx_k (.bool false) w58 (gx_k (.bool false) w58 ?_))
          refine gx_nil ?_
          refine gx_thenN ?_
          exact ⟨false, selfA_i (by kernel_rfl), (Option.some.inj hE119), hS59⟩
        ·rintro _ w114 ⟨b117, hq161, rfl, hS115⟩
         obtain ⟨u116, rfl⟩ := selfA_u hq161
         try dsimp only at hO120
         cases b117 with
         | true =>
          try dsimp only at hO120
          refine gx_yes (by kernel_rfl) ?_
          refine gx_region ?_
          refine gx_k (.int .u8 3) w114 ?_
          refine gx_nil ?_
          refine gx_blkN ?_
          refine gx_blkN ?_
          refine gx_thenN ?_
          refine hK50 _ _ ?_
          refine gx_region ?_
          refine gx_k (.slice A20 l22.length c21) w114 (gx_k (.int .u8 3) w114 ?_)
          refine gx_r (st_made .u8 5 [3] hS115 (by show 1 ≤ 1000000000; decide) (by kernel_rfl)) ?_
          rintro _ w121 ⟨rfl, hS122⟩
          have hS122 : St _ _ w121 [rowE .u8 5 A20 c21 l22, rowE .u8 5 (some ⟨w114.heap.size, 0, none⟩) 1 ([3])] := hS122
          obtain ⟨l123, ha124, hO120⟩ := bind_in hO120
          obtain ⟨ha124, hq125⟩ := apx_in ha124
          refine gx_r (st_append rfl (by kernel_rfl) (by kernel_rfl) hS122 0 rfl (hS122.row 1 rfl).1 (hS122.row 1 rfl).2 ha124 (by kernel_rfl) (by kernel_rfl)) ?_
          rintro _ w128 ⟨A126, c127, rfl, hS129⟩
          rw [← hq125] at hS129 ⊢
          have hS129 : St _ _ w128 [rowE .u8 5 A126 c127 l123, rowE .u8 5 (some ⟨w114.heap.size, 0, none⟩) 1 ([3])] := hS129
          refine gx_k (.slice A126 l123.length c127) w128 ?_
          refine gx_nil ?_
          refine gx_blkN ?_
          refine gx_thenN ?_
          refine hK32 _ _ ?_
          refine gx_region ?_
          refine gx_k (.int .i64 x23) w128 (gx_k (.int .i64 (IntKind.i64.wrap (x23 + 1))) w128 (gx_k (.int .i64 (IntKind.i64.wrap (x23 + 1))) w128 ?_))
          refine gx_nil ?_
          refine gx_thenN ?_
          exact ⟨k24, Nat.lt_succ_self k24, l123, (IntKind.i64.wrap (x23 + 1)), A126, c127, selfA_i (by kernel_rfl), hO120, (hS129.pick [0] rfl rfl)⟩
         | false =>
          try dsimp only at hO120
          refine gx_no (by kernel_rfl) ?_
          refine gx_seq (fun K130 hK131 => ?_)
          refine gx_region ?_
          refine gx_k (.bool b39) w114 (gx_k (.bool b39) w114 ?_)
          refine gx_nil ?_
          refine gx_thenN ?_
          refine hK131 _ _ ?_
          cases b39 with
          | true =>
           try dsimp only at hO120
           refine gx_yes (by kernel_rfl) ?_
           refine gx_region ?_
           refine gx_k (.int .u8 4) w114 ?_
           refine gx_nil ?_
           refine gx_blkN ?_
           refine gx_blkN ?_
           refine gx_thenN ?_
           refine hK50 _ _ ?_
           refine gx_region ?_
           refine gx_k (.slice A20 l22.length c21) w114 (gx_k (.int .u8 4) w114 ?_)
           refine gx_r (st_made .u8 5 [4] hS115 (by show 1 ≤ 1000000000; decide) (by kernel_rfl)) ?_
           rintro _ w132 ⟨rfl, hS133⟩
           have hS133 : St _ _ w132 [rowE .u8 5 A20 c21 l22, rowE .u8 5 (some ⟨w114.heap.size, 0, none⟩) 1 ([4])] := hS133
           obtain ⟨l134, ha135, hO120⟩ := bind_in hO120
           obtain ⟨ha135, hq136⟩ := apx_in ha135
           refine gx_r (st_append rfl (by kernel_rfl) (by kernel_rfl) hS133 0 rfl (hS133.row 1 rfl).1 (hS133.row 1 rfl).2 ha135 (by kernel_rfl) (by kernel_rfl)) ?_
           rintro _ w139 ⟨A137, c138, rfl, hS140⟩
           rw [← hq136] at hS140 ⊢
           have hS140 : St _ _ w139 [rowE .u8 5 A137 c138 l134, rowE .u8 5 (some ⟨w114.heap.size, 0, none⟩) 1 ([4])] := hS140
           refine gx_k (.slice A137 l134.length c138) w139 ?_
           refine gx_nil ?_
           refine gx_blkN ?_
           refine gx_thenN ?_
           refine hK32 _ _ ?_
           refine gx_region ?_
           refine gx_k (.int .i64 x23) w139 (gx_k (.int .i64 (IntKind.i64.wrap (x23 + 1))) w139 (gx_k (.int .i64 (IntKind.i64.wrap (x23 + 1))) w139 ?_))
           refine gx_nil ?_
           refine gx_thenN ?_
           exact ⟨k24, Nat.lt_succ_self k24, l134, (IntKind.i64.wrap (x23 + 1)), A137, c138, selfA_i (by kernel_rfl), hO120, (hS140.pick [0] rfl rfl)⟩
          | false =>
           try dsimp only at hO120
           refine gx_no (by kernel_rfl) ?_
           refine gx_seq (fun K141 hK142 => ?_)
           refine gx_region ?_
           refine gx_k (.bool b45) w114 (gx_k (.bool b45) w114 ?_)
           refine gx_nil ?_
           refine gx_thenN ?_
           refine hK142 _ _ ?_
           cases b45 with
           | true =>
            try dsimp only at hO120
            refine gx_yes (by kernel_rfl) ?_
            refine gx_region ?_
            refine gx_k (.int .u8 2) w114 ?_
            refine gx_nil ?_
            refine gx_blkN ?_
            refine gx_blkN ?_
            refine gx_thenN ?_
            refine hK50 _ _ ?_
            refine gx_region ?_
            refine gx_k (.slice A20 l22.length c21) w114 (gx_k (.int .u8 2) w114 ?_)
            refine gx_r (st_made .u8 5 [2] hS115 (by show 1 ≤ 1000000000; decide) (by kernel_rfl)) ?_
            rintro _ w143 ⟨rfl, hS144⟩
            have hS144 : St _ _ w143 [rowE .u8 5 A20 c21 l22, rowE .u8 5 (some ⟨w114.heap.size, 0, none⟩) 1 ([2])] := hS144
            obtain ⟨l145, ha146, hO120⟩ := bind_in hO120
            obtain ⟨ha146, hq147⟩ := apx_in ha146
            refine gx_r (st_append rfl (by kernel_rfl) (by kernel_rfl) hS144 0 rfl (hS144.row 1 rfl).1 (hS144.row 1 rfl).2 ha146 (by kernel_rfl) (by kernel_rfl)) ?_
            rintro _ w150 ⟨A148, c149, rfl, hS151⟩
            rw [← hq147] at hS151 ⊢
            have hS151 : St _ _ w150 [rowE .u8 5 A148 c149 l145, rowE .u8 5 (some ⟨w114.heap.size, 0, none⟩) 1 ([2])] := hS151
            refine gx_k (.slice A148 l145.length c149) w150 ?_
            refine gx_nil ?_
            refine gx_blkN ?_
            refine gx_thenN ?_
            refine hK32 _ _ ?_
            refine gx_region ?_
            refine gx_k (.int .i64 x23) w150 (gx_k (.int .i64 (IntKind.i64.wrap (x23 + 1))) w150 (gx_k (.int .i64 (IntKind.i64.wrap (x23 + 1))) w150 ?_))
            refine gx_nil ?_
            refine gx_thenN ?_
            exact ⟨k24, Nat.lt_succ_self k24, l145, (IntKind.i64.wrap (x23 + 1)), A148, c149, selfA_i (by kernel_rfl), hO120, (hS151.pick [0] rfl rfl)⟩
           | false =>
            try dsimp only at hO120
            refine gx_no (by kernel_rfl) ?_
            refine gx_region ?_
            refine gx_k (.int .u8 1) w114 ?_
            refine gx_nil ?_
            refine gx_blkN ?_
            refine gx_blkN ?_
            refine gx_thenN ?_
            refine hK50 _ _ ?_
            refine gx_region ?_
            refine gx_k (.slice A20 l22.length c21) w114 (gx_k (.int .u8 1) w114 ?_)
            refine gx_r (st_made .u8 5 [1] hS115 (by show 1 ≤ 1000000000; decide) (by kernel_rfl)) ?_
            rintro _ w152 ⟨rfl, hS153⟩
            have hS153 : St _ _ w152 [rowE .u8 5 A20 c21 l22, rowE .u8 5 (some ⟨w114.heap.size, 0, none⟩) 1 ([1])] := hS153
            obtain ⟨l154, ha155, hO120⟩ := bind_in hO120
            obtain ⟨ha155, hq156⟩ := apx_in ha155
            refine gx_r (st_append rfl (by kernel_rfl) (by kernel_rfl) hS153 0 rfl (hS153.row 1 rfl).1 (hS153.row 1 rfl).2 ha155 (by kernel_rfl) (by kernel_rfl)) ?_
            rintro _ w159 ⟨A157, c158, rfl, hS160⟩
            rw [← hq156] at hS160 ⊢
            have hS160 : St _ _ w159 [rowE .u8 5 A157 c158 l154, rowE .u8 5 (some ⟨w114.heap.size, 0, none⟩) 1 ([1])] := hS160
            refine gx_k (.slice A157 l154.length c158) w159 ?_
            refine gx_nil ?_
            refine gx_blkN ?_
            refine gx_thenN ?_
            refine hK32 _ _ ?_
            refine gx_region ?_
            refine gx_k (.int .i64 x23) w159 (gx_k (.int .i64 (IntKind.i64.wrap (x23 + 1))) w159 (gx_k (.int .i64 (IntKind.i64.wrap (x23 + 1))) w159 ?_))
            refine gx_nil ?_
            refine gx_thenN ?_
            exact ⟨k24, Nat.lt_succ_self k24, l154, (IntKind.i64.wrap (x23 + 1)), A157, c158, selfA_i (by kernel_rfl), hO120, (hS160.pick [0] rfl rfl)⟩
       ·refine gx_v (.bool false) w58 (run_boolE (decide_eq_false h113) (by kernel_rfl)) ?_
        refine gx_k (.bool false) w58 ?_
        refine gx_nil ?_
        refine gx_thenN ?_
        refine hK112 _ _ ?_
        refine gx_no (by kernel_rfl) ?_
        refine gx_pass ?_
        refine gx_blkN ?_
        refine gx_thenN ?_
        refine hK50 _ _ ?_
        refine gx_region ?_
        refine gx_k (.slice A20 l22.length c21) w58 (gx_k (.int .u8 0) w58 ?_)
        refine gx_r (st_made .u8 5 [0] hS59 (by show 1 ≤ 1000000000; decide) (by kernel_rfl)) ?_
        rintro _ w162 ⟨rfl, hS163⟩
        have hS163 : St _ _ w162 [rowE .u8 5 A20 c21 l22, rowE .u8 5 (some ⟨w58.heap.size, 0, none⟩) 1 ([0])] := hS163
        obtain ⟨l164, ha165, hL25⟩ := bind_in hL25
        obtain ⟨ha165, hq166⟩ := apx_in ha165
        refine gx_r (st_append rfl (by kernel_rfl) (by kernel_rfl) hS163 0 rfl (hS163.row 1 rfl).1 (hS163.row 1 rfl).2 ha165 (by kernel_rfl) (by kernel_rfl)) ?_
        rintro _ w169 ⟨A167, c168, rfl, hS170⟩
        rw [← hq166] at hS170 ⊢
        have hS170 : St _ _ w169 [rowE .u8 5 A167 c168 l164, rowE .u8 5 (some ⟨w58.heap.size, 0, none⟩) 1 ([0])] := hS170
        refine gx_k (.slice A167 l164.length c168) w169 ?_
        refine gx_nil ?_
        refine gx_blkN ?_
        refine gx_thenN ?_
        refine hK32 _ _ ?_
        refine gx_region ?_
        refine gx_k (.int .i64 x23) w169 (gx_k (.int .i64 (IntKind.i64.wrap (x23 + 1))) w169 (gx_k (.int .i64 (IntKind.i64.wrap (x23 + 1))) w169 ?_))
        refine gx_nil ?_
        refine gx_thenN ?_
        exact ⟨k24, Nat.lt_succ_self k24, l164, (IntKind.i64.wrap (x23 + 1)), A167, c168, selfA_i (by kernel_rfl), hL25, (hS170.pick [0] rfl rfl)⟩
    ·refine gx_v (.bool false) w17 (run_boolE (decide_eq_false h30) (by kernel_rfl)) ?_
     refine gx_nil ?_
     refine gx_thenN ?_
     refine hK29 _ _ ?_
     refine gx_no (by kernel_rfl) ?_
     refine gx_exit ?_
     refine gx_thenE ?_
     refine gx_thenE ?_
     refine gx_blkE ?_
     refine gx_thenN ?_
     exact ⟨l22, A20, c21, selfA_i (by kernel_rfl), (Option.some.inj hL25), hS18⟩
 ·rintro _ w5 ⟨l10, A8, c9, hq174, rfl, hS6⟩
  obtain ⟨u7, rfl⟩ := selfA_u hq174
  try dsimp only at hO13
  refine gx_seq (fun K172 hK173 => ?_)
  refine gx_region ?_
  refine gx_k (.slice A8 l10.length c9) w5 (gx_k (.slice A8 l10.length c9) w5 ?_)
  refine gx_nil ?_
  refine gx_thenN ?_
  refine hK173 _ _ ?_
  refine gx_ret ?_
  obtain rfl := Option.some.inj hO13
  exact gx_fin (.slice A8 l10.length c9) (by kernel_rfl) (by kernel_rfl) ⟨_, rfl, A8, c9, rfl, hS6⟩

end Go.Proofs.YtbdhgjaoojimmaaDoor
