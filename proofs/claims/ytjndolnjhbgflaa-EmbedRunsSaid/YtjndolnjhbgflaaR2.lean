/-
  The document's sequences, walked.
-/
import Derived.Test.YtjndolnjhbgflaaR1
namespace Go.Proofs.Ytjndolnjhbgflaa
open Go Go.RowKit
set_option linter.unusedVariables false

def enccalamusref10Seq : Enc (List Int × Int × Int × Int) := (pairE (rowOf (intE .i64)) (pairE (intE .u8) (pairE (intE .u8) (intE .u8))))

def rSide (_N : Nat) (p0 : Int) (p1 : Int) : Option (Int) :=
 (if (Int.tmod (if p0 < p1 then p1 else p0) 2) = 1 then some 2 else some 1)

set_option linter.unusedVariables false in
def rSide_R (r : Int) (w0 : World) (v : Value) (w : World) : Prop := v = .int .u8 r ∧ St [] w0 w []

set_option maxRecDepth 100000 in
set_option maxHeartbeats 4000000 in
theorem rSide_ok (N : Nat) (p0 : Int) (p1 : Int)  (r : Int) (hF : rSide N p0 p1 = some r) (w0 : World)  :
  Calls Try.prog 20 #[.int .u8 p0, .int .u8 p1] w0 fun e w => ∃ v, e = .returned v ∧ rSide_R r w0 v w := by
 have hS0 := St.start w0
 unfold rSide at hF
 refine calls_of Try.func20 rfl ⟨((.int .u8 p0) :: (.int .u8 p1) :: un 8 ([])).toArray, []⟩ (by kernel_rfl) ?_
 refine gx_seq (fun K1 hK2 => ?_)
 refine gx_region ?_
 refine gx_k (.int .u8 0) w0 ?_
 refine gx_nil ?_
 refine gx_thenN ?_
 refine hK2 _ _ ?_
 refine gx_seq (fun K3 hK4 => ?_)
 refine gx_seq (fun K5 hK6 => ?_)
 refine gx_region ?_
 refine gx_k (.int .u8 p0) w0 (gx_k (.int .u8 p1) w0 ?_)
 refine gx_v (.int .u8 (if p0 < p1 then p1 else p0)) w0 (run_max2 rfl (by kernel_rfl) (by kernel_rfl)) ?_
 refine gx_k (.int .u8 (Int.tmod (if p0 < p1 then p1 else p0) 2)) w0 ?_
 rcases if_in hF with ⟨h7, hF⟩ | ⟨h7, hF⟩
 ·refine gx_v (.bool true) w0 (run_boolE (decide_eq_true h7) (by kernel_rfl)) ?_
  refine gx_nil ?_
  refine gx_thenN ?_
  refine hK6 _ _ ?_
  refine gx_yes (by kernel_rfl) ?_
  refine gx_seq (fun K8 hK9 => ?_)
  refine gx_region ?_
  refine gx_k (.int .u8 2) w0 ?_
  refine gx_nil ?_
  refine gx_thenN ?_
  refine hK9 _ _ ?_
  refine gx_ret ?_
  refine gx_thenR ?_
  obtain rfl := Option.some.inj hF
  exact gx_fin (.int .u8 2) (by kernel_rfl) (by kernel_rfl) ⟨_, rfl, rfl, hS0⟩
 ·refine gx_v (.bool false) w0 (run_boolE (decide_eq_false h7) (by kernel_rfl)) ?_
  refine gx_nil ?_
  refine gx_thenN ?_
  refine hK6 _ _ ?_
  refine gx_no (by kernel_rfl) ?_
  refine gx_pass ?_
  refine gx_thenN ?_
  refine hK4 _ _ ?_
  refine gx_seq (fun K10 hK11 => ?_)
  refine gx_region ?_
  refine gx_k (.int .u8 1) w0 ?_
  refine gx_nil ?_
  refine gx_thenN ?_
  refine hK11 _ _ ?_
  refine gx_ret ?_
  obtain rfl := Option.some.inj hF
  exact gx_fin (.int .u8 1) (by kernel_rfl) (by kernel_rfl) ⟨_, rfl, rfl, hS0⟩

def rLev (_N : Nat) (p0_0 : List Int) (p0_1 : List Int) (p0_2 : Int) (p1 : Int) : Option (Int) :=
 (((if p1 < 0 then some (Ctl.ret p0_2) else (if p1 ≥ ((p0_0.length : Nat) : Int) then some (Ctl.ret p0_2) else some (Ctl.go ()))) : Option (Ctl (Unit) (Int))).bind fun | Ctl.go () => ((ix p0_0 p1).bind fun x23 => ((ix p0_1 x23).bind fun x25 => some x25)) | Ctl.ret r => some r)

set_option linter.unusedVariables false in
def rLev_R (r : Int) (w0 : World) (v : Value) (w : World) : Prop := v = .int .u8 r ∧ St [] w0 w []

set_option maxRecDepth 100000 in
set_option maxHeartbeats 4000000 in
theorem rLev_ok (N : Nat) (p0_0 : List Int) (p0_1 : List Int) (p0_2 : Int) (p1 : Int) (A0_0 : Option Addr) (c0_0 : Nat) (A0_1 : Option Addr) (c0_1 : Nat) (r : Int) (hF : rLev N p0_0 p0_1 p0_2 p1 = some r) (w0 : World) (hv0_0 : Vw [] .i64 w0 A0_0 c0_0 p0_0) (hv0_1 : Vw [] .u8 w0 A0_1 c0_1 p0_1) :
  Calls Try.prog 19 #[.agg #[.slice A0_0 p0_0.length c0_0, .slice A0_1 p0_1.length c0_1, .int .u8 p0_2], .int .i64 p1] w0 fun e w => ∃ v, e = .returned v ∧ rLev_R r w0 v w := by
 have hS0 := St.start w0
 unfold rLev at hF
 refine calls_of Try.func19 rfl ⟨((.agg #[.slice A0_0 p0_0.length c0_0, .slice A0_1 p0_1.length c0_1, .int .u8 p0_2]) :: (.int .i64 p1) :: un 23 ([])).toArray, []⟩ (by kernel_rfl) ?_
 refine gx_seq (fun K1 hK2 => ?_)
 refine gx_region ?_
 refine gx_r (st_boxed [.slice A0_0 p0_0.length c0_0, .slice A0_1 p0_1.length c0_1, .int .u8 p0_2] 51 hS0 (by kernel_rfl)) ?_
 rintro _ w3 ⟨rfl, hS4⟩
 have hS4 : St _ _ w3 [boxE w0.heap.size [.slice A0_0 p0_0.length c0_0, .slice A0_1 p0_1.length c0_1, .int .u8 p0_2] 51] := hS4
 refine gx_k (.int .u8 0) w3 ?_
 refine gx_nil ?_
 refine gx_thenN ?_
 refine hK2 _ _ ?_
 obtain ⟨c8, hE9, hO10⟩ := bind_in hF
 refine gx_cut (fun a w => selfA (fun u7 => ⟨((u7 0) :: (.int .i64 p1) :: (.pointer (some ⟨w0.heap.size, 0, none⟩)) :: undef :: dd u7 4 12 (un 9 ([]))).toArray, []⟩) a ∧ Ctl.go () = c8 ∧ St [] w0 w [boxE w0.heap.size [.slice A0_0 p0_0.length c0_0, .slice A0_1 p0_1.length c0_1, .int .u8 p0_2] 51]) ?_ ?_
 ·refine gx_seq (fun K11 hK12 => ?_)
  refine gx_region ?_
  refine gx_k (.int .i64 p1) w3 ?_
  rcases if_in hE9 with ⟨h13, hE9⟩ | ⟨h13, hE9⟩
  ·refine gx_v (.bool true) w3 (run_boolE (decide_eq_true h13) (by kernel_rfl)) ?_
   refine gx_k (.bool true) w3 (gx_o (gx_o (gx_o (gx_o (gx_o (gx_k (.bool true) w3 ?_))))))
   refine gx_nil ?_
   refine gx_thenN ?_
   refine hK12 _ _ ?_
   refine gx_yes (by kernel_rfl) ?_
   refine gx_seq (fun K14 hK15 => ?_)
   refine gx_region ?_
   refine gx_k (.pointer (some ⟨w0.heap.size, 2, none⟩)) w3 ?_
   refine gx_v (.int .u8 p0_2) w3 (run_load1 rfl (by kernel_rfl) (fun _ => by kernel_rfl) (hS4.box 0 rfl 2 rfl)) ?_
   refine gx_k (.int .u8 p0_2) w3 ?_
   refine gx_nil ?_
   refine gx_thenN ?_
   refine hK15 _ _ ?_
   refine gx_ret ?_
   refine gx_thenR ?_
   obtain rfl := Option.some.inj hE9
   try dsimp only at hO10
   obtain rfl := Option.some.inj hO10
   exact gx_fin (.int .u8 p0_2) (by kernel_rfl) (by kernel_rfl) ⟨_, rfl, rfl, (hS4.pick [] rfl rfl)⟩
  ·refine gx_v (.bool false) w3 (run_boolE (decide_eq_false h13) (by kernel_rfl)) ?_
   refine gx_k (.bool false) w3 (gx_k (.int .i64 p1) w3 (gx_k (.pointer (some ⟨w0.heap.size, 0, none⟩)) w3 ?_))
   refine gx_v (.slice A0_0 p0_0.length c0_0) w3 (run_load1 rfl (by kernel_rfl) (fun _ => by kernel_rfl) (hS4.box 0 rfl 0 rfl)) ?_
   refine gx_k (.int .i64 ((p0_0.length : Nat) : Int)) w3 ?_
   rcases if_in hE9 with ⟨h16, hE9⟩ | ⟨h16, hE9⟩
   ·refine gx_v (.bool true) w3 (run_boolE (decide_eq_true h16) (by kernel_rfl)) ?_
    refine gx_k (.bool true) w3 ?_
    refine gx_nil ?_
    refine gx_thenN ?_
    refine hK12 _ _ ?_
    refine gx_yes (by kernel_rfl) ?_
    refine gx_seq (fun K17 hK18 => ?_)
    refine gx_region ?_
    refine gx_k (.pointer (some ⟨w0.heap.size, 2, none⟩)) w3 ?_
    refine gx_v (.int .u8 p0_2) w3 (run_load1 rfl (by kernel_rfl) (fun _ => by kernel_rfl) (hS4.box 0 rfl 2 rfl)) ?_
    refine gx_k (.int .u8 p0_2) w3 ?_
    refine gx_nil ?_
    refine gx_thenN ?_
    refine hK18 _ _ ?_
    refine gx_ret ?_
    refine gx_thenR ?_
    obtain rfl := Option.some.inj hE9
    try dsimp only at hO10
    obtain rfl := Option.some.inj hO10
    exact gx_fin (.int .u8 p0_2) (by kernel_rfl) (by kernel_rfl) ⟨_, rfl, rfl, (hS4.pick [] rfl rfl)⟩
   ·refine gx_v (.bool false) w3 (run_boolE (decide_eq_false h16) (by kernel_rfl)) ?_
    refine gx_k (.bool false) w3 ?_
    refine gx_nil ?_
    refine gx_thenN ?_
    refine hK12 _ _ ?_
    refine gx_no (by kernel_rfl) ?_
    refine gx_pass ?_
    refine gx_thenN ?_
    exact ⟨selfA_i (by kernel_rfl), (Option.some.inj hE9), hS4⟩
 ·rintro _ w5 ⟨hq27, rfl, hS6⟩
  obtain ⟨u7, rfl⟩ := selfA_u hq27
  try dsimp only at hO10
  refine gx_seq (fun K19 hK20 => ?_)
  refine gd_start (fun w => St [] w0 w [boxE w0.heap.size [.slice A0_0 p0_0.length c0_0, .slice A0_1 p0_1.length c0_1, .int .u8 p0_2] 51]) 10 #[false, false, false, false, false, false, false, false, false, false] (by kernel_rfl) (by kernel_rfl) ?_
  have hS22 := hS6.drew
  generalize w5.drew = w21 at hS22 ⊢
  refine gd1 0 { dst := some 16, op := _, type := _, pos := _, after := _, guard := _ } (.pointer (some ⟨w0.heap.size, 1, none⟩)) rfl hS22 (fun w hSw => by kernel_rfl) ?_
  refine gd1 1 { dst := some 17, op := _, type := _, pos := _, after := _, guard := _ } (.slice A0_1 p0_1.length c0_1) rfl hS22 (fun w hSw => run_load1 rfl (by kernel_rfl) (fun _ => by kernel_rfl) (hSw.box 0 rfl 1 rfl)) ?_
  refine gd1 2 { dst := some 18, op := _, type := _, pos := _, after := _, guard := _ } (.pointer (some ⟨w0.heap.size, 0, none⟩)) rfl hS22 (fun w hSw => by kernel_rfl) ?_
  refine gd1 3 { dst := some 19, op := _, type := _, pos := _, after := _, guard := _ } (.slice A0_0 p0_0.length c0_0) rfl hS22 (fun w hSw => run_load1 rfl (by kernel_rfl) (fun _ => by kernel_rfl) (hSw.box 0 rfl 0 rfl)) ?_
  refine gd1 4 { dst := some 20, op := _, type := _, pos := _, after := _, guard := _ } (.int .i64 p1) rfl hS22 (fun w hSw => by kernel_rfl) ?_
  obtain ⟨x23, hx24, hO10⟩ := bind_in hO10
  refine gd1 5 { dst := some 21, op := _, type := _, pos := _, after := _, guard := _ } (.pointer (Option.map (fun (p : Addr) => p.add (Int.toNat p1 * 1)) A0_0)) rfl hS22 (fun w hSw => run_ixaddr (E := 3) (s := 1) (k := .i64) (c := c0_0) rfl (by kernel_rfl) (by kernel_rfl) (by kernel_rfl) (fun _ => by kernel_rfl) (ix_in hx24).1 (ix_in hx24).2.1 (num_nil (hS22.view hv0_0))) ?_
  refine gd1 6 { dst := some 22, op := _, type := _, pos := _, after := _, guard := _ } (.int .i64 x23) rfl hS22 (fun w hSw => run_loadix rfl (by kernel_rfl) (fun _ => by kernel_rfl) (hSw.view hv0_0) hx24) ?_
  obtain ⟨x25, hx26, hO10⟩ := bind_in hO10
  refine gd1 7 { dst := some 23, op := _, type := _, pos := _, after := _, guard := _ } (.pointer (Option.map (fun (p : Addr) => p.add (Int.toNat x23 * 1)) A0_1)) rfl hS22 (fun w hSw => run_ixaddr (E := 5) (s := 1) (k := .i64) (c := c0_1) rfl (by kernel_rfl) (by kernel_rfl) (by kernel_rfl) (fun _ => by kernel_rfl) (ix_in hx26).1 (ix_in hx26).2.1 (num_nil (hS22.view hv0_1))) ?_
  refine gd1 8 { dst := some 24, op := _, type := _, pos := _, after := _, guard := _ } (.int .u8 x25) rfl hS22 (fun w hSw => run_loadix rfl (by kernel_rfl) (fun _ => by kernel_rfl) (hSw.view hv0_1) hx26) ?_
  refine gd1 9 { dst := some 4, op := _, type := _, pos := _, after := _, guard := _ } (.int .u8 x25) rfl hS22 (fun w hSw => by kernel_rfl) ?_
  refine gd_done (by kernel_rfl) ?_
  refine gx_thenN ?_
  refine hK20 _ _ ?_
  refine gx_ret ?_
  obtain rfl := Option.some.inj hO10
  exact gx_fin (.int .u8 x25) (by kernel_rfl) (by kernel_rfl) ⟨_, rfl, rfl, (hS22.pick [] rfl rfl)⟩

def rBeg (N : Nat) (p0_0 : List Int) (p0_1 : List Int) (p0_2 : Int) (p1 : Int) : Option (Bool) :=
 (if p1 = 0 then some true else ((rLev N p0_0 p0_1 p0_2 p1).bind fun x12 => ((rLev N p0_0 p0_1 p0_2 (IntKind.i64.wrap (p1 - 1))).bind fun x18 => some (x12 != x18))))

set_option linter.unusedVariables false in
def rBeg_R (r : Bool) (w0 : World) (v : Value) (w : World) : Prop := v = .bool r ∧ St [] w0 w []

set_option maxRecDepth 100000 in
set_option maxHeartbeats 4000000 in
theorem rBeg_ok (N : Nat) (p0_0 : List Int) (p0_1 : List Int) (p0_2 : Int) (p1 : Int) (A0_0 : Option Addr) (c0_0 : Nat) (A0_1 : Option Addr) (c0_1 : Nat) (r : Bool) (hF : rBeg N p0_0 p0_1 p0_2 p1 = some r) (w0 : World) (hv0_0 : Vw [] .i64 w0 A0_0 c0_0 p0_0) (hv0_1 : Vw [] .u8 w0 A0_1 c0_1 p0_1) :
  Calls Try.prog 18 #[.agg #[.slice A0_0 p0_0.length c0_0, .slice A0_1 p0_1.length c0_1, .int .u8 p0_2], .int .i64 p1] w0 fun e w => ∃ v, e = .returned v ∧ rBeg_R r w0 v w := by
 have hS0 := St.start w0
 unfold rBeg at hF
 refine calls_of Try.func18 rfl ⟨((.agg #[.slice A0_0 p0_0.length c0_0, .slice A0_1 p0_1.length c0_1, .int .u8 p0_2]) :: (.int .i64 p1) :: un 15 ([])).toArray, []⟩ (by kernel_rfl) ?_
 refine gx_seq (fun K1 hK2 => ?_)
 refine gx_region ?_
 refine gx_r (st_boxed [.slice A0_0 p0_0.length c0_0, .slice A0_1 p0_1.length c0_1, .int .u8 p0_2] 51 hS0 (by kernel_rfl)) ?_
 rintro _ w3 ⟨rfl, hS4⟩
 have hS4 : St _ _ w3 [boxE w0.heap.size [.slice A0_0 p0_0.length c0_0, .slice A0_1 p0_1.length c0_1, .int .u8 p0_2] 51] := hS4
 refine gx_k (.bool false) w3 ?_
 refine gx_nil ?_
 refine gx_thenN ?_
 refine hK2 _ _ ?_
 refine gx_seq (fun K5 hK6 => ?_)
 refine gd_start (fun w => St [] w0 w [boxE w0.heap.size [.slice A0_0 p0_0.length c0_0, .slice A0_1 p0_1.length c0_1, .int .u8 p0_2] 51]) 13 #[false, false, false, false, false, false, false, false, false, false, false, false, false] (by kernel_rfl) (by kernel_rfl) ?_
 have hS8 := hS4.drew
 generalize w3.drew = w7 at hS8 ⊢
 refine gd1 0 { dst := some 5, op := _, type := _, pos := _, after := _, guard := _ } (.int .i64 p1) rfl hS8 (fun w hSw => by kernel_rfl) ?_
 rcases if_in hF with ⟨h9, hF⟩ | ⟨h9, hF⟩
 ·refine gd1 1 { dst := some 6, op := _, type := _, pos := _, after := _, guard := _ } (.bool true) rfl hS8 (fun w hSw => run_boolE (decide_eq_true h9) (by kernel_rfl)) ?_
  refine gd1 2 { dst := some 7, op := _, type := _, pos := _, after := _, guard := _ } (.bool true) rfl hS8 (fun w hSw => by kernel_rfl) ?_
  refine gd0 3 { dst := some 8, op := _, type := _, pos := _, after := _, guard := _ } rfl hS8 ?_
  refine gd0 4 { dst := some 9, op := _, type := _, pos := _, after := _, guard := _ } rfl hS8 ?_
  refine gd0 5 { dst := some 10, op := _, type := _, pos := _, after := _, guard := _ } rfl hS8 ?_
  refine gd0 6 { dst := some 11, op := _, type := _, pos := _, after := _, guard := _ } rfl hS8 ?_
  refine gd0 7 { dst := some 12, op := _, type := _, pos := _, after := _, guard := _ } rfl hS8 ?_
  refine gd0 8 { dst := some 13, op := _, type := _, pos := _, after := _, guard := _ } rfl hS8 ?_
  refine gd0 9 { dst := some 14, op := _, type := _, pos := _, after := _, guard := _ } rfl hS8 ?_
  refine gd0 10 { dst := some 15, op := _, type := _, pos := _, after := _, guard := _ } rfl hS8 ?_
  refine gd1 11 { dst := some 16, op := _, type := _, pos := _, after := _, guard := _ } (.bool true) rfl hS8 (fun w hSw => by kernel_rfl) ?_
  refine gd1 12 { dst := some 4, op := _, type := _, pos := _, after := _, guard := _ } (.bool true) rfl hS8 (fun w hSw => by kernel_rfl) ?_
  refine gd_done (by kernel_rfl) ?_
  refine gx_thenN ?_
  refine hK6 _ _ ?_
  refine gx_ret ?_
  obtain rfl := Option.some.inj hF
  exact gx_fin (.bool true) (by kernel_rfl) (by kernel_rfl) ⟨_, rfl, rfl, (hS8.pick [] rfl rfl)⟩
 ·refine gd1 1 { dst := some 6, op := _, type := _, pos := _, after := _, guard := _ } (.bool false) rfl hS8 (fun w hSw => run_boolE (decide_eq_false h9) (by kernel_rfl)) ?_
  refine gd1 2 { dst := some 7, op := _, type := _, pos := _, after := _, guard := _ } (.bool false) rfl hS8 (fun w hSw => by kernel_rfl) ?_
  refine gd1 3 { dst := some 8, op := _, type := _, pos := _, after := _, guard := _ } (.agg #[.slice A0_0 p0_0.length c0_0, .slice A0_1 p0_1.length c0_1, .int .u8 p0_2]) rfl hS8 (fun w hSw => run_loadG (d := _) rfl (by kernel_rfl) (hSw.get 0 rfl) rfl rfl (by kernel_rfl)) ?_
  refine gd1 4 { dst := some 9, op := _, type := _, pos := _, after := _, guard := _ } (.int .i64 p1) rfl hS8 (fun w hSw => by kernel_rfl) ?_
  refine gd1 6 { dst := some 11, op := _, type := _, pos := _, after := _, guard := _ } (.agg #[.slice A0_0 p0_0.length c0_0, .slice A0_1 p0_1.length c0_1, .int .u8 p0_2]) rfl hS8 (fun w hSw => run_loadG (d := _) rfl (by kernel_rfl) (hSw.get 0 rfl) rfl rfl (by kernel_rfl)) ?_
  refine gd1 7 { dst := some 12, op := _, type := _, pos := _, after := _, guard := _ } (.int .i64 p1) rfl hS8 (fun w hSw => by kernel_rfl) ?_
  refine gd1 8 { dst := some 13, op := _, type := _, pos := _, after := _, guard := _ } (.int .i64 (IntKind.i64.wrap (p1 - 1))) rfl hS8 (fun w hSw => by kernel_rfl) ?_
  have hP10 : St _ _ w7 ([] ++ [boxE w0.heap.size [.slice A0_0 p0_0.length c0_0, .slice A0_1 p0_1.length c0_1, .int .u8 p0_2] 51]) := hS8
  obtain ⟨x12, hc11, hF⟩ := bind_in hF
  try dsimp only at hF
  refine gdC 5 { dst := some 10, op := _, type := _, pos := _, after := _, guard := _ } (rLev_R x12 w7) rfl (by kernel_rfl) (rLev_ok N p0_0 p0_1 p0_2 p1 A0_0 c0_0 A0_1 c0_1 _ hc11 w7 (hP10.vwA hv0_0) (hP10.vwA hv0_1)) ?_
  rintro _ w13 ⟨rfl, hT15⟩
  have hS14 : St _ _ w13 [boxE w0.heap.size [.slice A0_0 p0_0.length c0_0, .slice A0_1 p0_1.length c0_1, .int .u8 p0_2] 51] := hS8.take _ hT15
  refine ⟨hS14, ?_⟩
  have hP16 : St _ _ w13 ([] ++ [boxE w0.heap.size [.slice A0_0 p0_0.length c0_0, .slice A0_1 p0_1.length c0_1, .int .u8 p0_2] 51]) := hS14
  obtain ⟨x18, hc17, hF⟩ := bind_in hF
  try dsimp only at hF
  refine gdC 9 { dst := some 14, op := _, type := _, pos := _, after := _, guard := _ } (rLev_R x18 w13) rfl (by kernel_rfl) (rLev_ok N p0_0 p0_1 p0_2 (IntKind.i64.wrap (p1 - 1)) A0_0 c0_0 A0_1 c0_1 _ hc17 w13 (hP16.vwA hv0_0) (hP16.vwA hv0_1)) ?_
  rintro _ w19 ⟨rfl, hT21⟩
  have hS20 : St _ _ w19 [boxE w0.heap.size [.slice A0_0 p0_0.length c0_0, .slice A0_1 p0_1.length c0_1, .int .u8 p0_2] 51] := hS14.take _ hT21
  refine ⟨hS20, ?_⟩
  refine gd1 10 { dst := some 15, op := _, type := _, pos := _, after := _, guard := _ } (.bool (x12 != x18)) rfl hS20 (fun w hSw => by kernel_rfl) ?_
  refine gd1 11 { dst := some 16, op := _, type := _, pos := _, after := _, guard := _ } (.bool (x12 != x18)) rfl hS20 (fun w hSw => by kernel_rfl) ?_
  refine gd1 12 { dst := some 4, op := _, type := _, pos := _, after := _, guard := _ } (.bool (x12 != x18)) rfl hS20 (fun w hSw => by kernel_rfl) ?_
  refine gd_done (by kernel_rfl) ?_
  refine gx_thenN ?_
  refine hK6 _ _ ?_
  refine gx_ret ?_
  obtain rfl := Option.some.inj hF
  exact gx_fin (.bool (x12 != x18)) (by kernel_rfl) (by kernel_rfl) ⟨_, rfl, rfl, (hS20.pick [] rfl rfl)⟩

def rEnds (N : Nat) (p0_0 : List Int) (p0_1 : List Int) (p0_2 : Int) (p1 : Int) : Option (Bool) :=
 (if p1 = (IntKind.i64.wrap (((p0_0.length : Nat) : Int) - 1)) then some true else ((rLev N p0_0 p0_1 p0_2 p1).bind fun x12 => ((rLev N p0_0 p0_1 p0_2 (IntKind.i64.wrap (p1 + 1))).bind fun x18 => some (x12 != x18))))

set_option linter.unusedVariables false in
def rEnds_R (r : Bool) (w0 : World) (v : Value) (w : World) : Prop := v = .bool r ∧ St [] w0 w []

set_option maxRecDepth 100000 in
set_option maxHeartbeats 4000000 in
theorem rEnds_ok (N : Nat) (p0_0 : List Int) (p0_1 : List Int) (p0_2 : Int) (p1 : Int) (A0_0 : Option Addr) (c0_0 : Nat) (A0_1 : Option Addr) (c0_1 : Nat) (r : Bool) (hF : rEnds N p0_0 p0_1 p0_2 p1 = some r) (w0 : World) (hv0_0 : Vw [] .i64 w0 A0_0 c0_0 p0_0) (hv0_1 : Vw [] .u8 w0 A0_1 c0_1 p0_1) :
  Calls Try.prog 16 #[.agg #[.slice A0_0 p0_0.length c0_0, .slice A0_1 p0_1.length c0_1, .int .u8 p0_2], .int .i64 p1] w0 fun e w => ∃ v, e = .returned v ∧ rEnds_R r w0 v w := by
 have hS0 := St.start w0
 unfold rEnds at hF
 refine calls_of Try.func16 rfl ⟨((.agg #[.slice A0_0 p0_0.length c0_0, .slice A0_1 p0_1.length c0_1, .int .u8 p0_2]) :: (.int .i64 p1) :: un 19 ([])).toArray, []⟩ (by kernel_rfl) ?_
 refine gx_seq (fun K1 hK2 => ?_)
 refine gx_region ?_
 refine gx_r (st_boxed [.slice A0_0 p0_0.length c0_0, .slice A0_1 p0_1.length c0_1, .int .u8 p0_2] 51 hS0 (by kernel_rfl)) ?_
 rintro _ w3 ⟨rfl, hS4⟩
 have hS4 : St _ _ w3 [boxE w0.heap.size [.slice A0_0 p0_0.length c0_0, .slice A0_1 p0_1.length c0_1, .int .u8 p0_2] 51] := hS4
 refine gx_k (.bool false) w3 ?_
 refine gx_nil ?_
 refine gx_thenN ?_
 refine hK2 _ _ ?_
 refine gx_seq (fun K5 hK6 => ?_)
 refine gd_start (fun w => St [] w0 w [boxE w0.heap.size [.slice A0_0 p0_0.length c0_0, .slice A0_1 p0_1.length c0_1, .int .u8 p0_2] 51]) 17 #[false, false, false, false, false, false, false, false, false, false, false, false, false, false, false, false, false] (by kernel_rfl) (by kernel_rfl) ?_
 have hS8 := hS4.drew
 generalize w3.drew = w7 at hS8 ⊢
 refine gd1 0 { dst := some 5, op := _, type := _, pos := _, after := _, guard := _ } (.int .i64 p1) rfl hS8 (fun w hSw => by kernel_rfl) ?_
 refine gd1 1 { dst := some 6, op := _, type := _, pos := _, after := _, guard := _ } (.pointer (some ⟨w0.heap.size, 0, none⟩)) rfl hS8 (fun w hSw => by kernel_rfl) ?_
 refine gd1 2 { dst := some 7, op := _, type := _, pos := _, after := _, guard := _ } (.slice A0_0 p0_0.length c0_0) rfl hS8 (fun w hSw => run_load1 rfl (by kernel_rfl) (fun _ => by kernel_rfl) (hSw.box 0 rfl 0 rfl)) ?_
 refine gd1 3 { dst := some 8, op := _, type := _, pos := _, after := _, guard := _ } (.int .i64 ((p0_0.length : Nat) : Int)) rfl hS8 (fun w hSw => by kernel_rfl) ?_
 refine gd1 4 { dst := some 9, op := _, type := _, pos := _, after := _, guard := _ } (.int .i64 (IntKind.i64.wrap (((p0_0.length : Nat) : Int) - 1))) rfl hS8 (fun w hSw => by kernel_rfl) ?_
 rcases if_in hF with ⟨h9, hF⟩ | ⟨h9, hF⟩
 ·refine gd1 5 { dst := some 10, op := _, type := _, pos := _, after := _, guard := _ } (.bool true) rfl hS8 (fun w hSw => run_boolE (decide_eq_true h9) (by kernel_rfl)) ?_
  refine gd1 6 { dst := some 11, op := _, type := _, pos := _, after := _, guard := _ } (.bool true) rfl hS8 (fun w hSw => by kernel_rfl) ?_
  refine gd0 7 { dst := some 12, op := _, type := _, pos := _, after := _, guard := _ } rfl hS8 ?_
  refine gd0 8 { dst := some 13, op := _, type := _, pos := _, after := _, guard := _ } rfl hS8 ?_
  refine gd0 9 { dst := some 14, op := _, type := _, pos := _, after := _, guard := _ } rfl hS8 ?_
  refine gd0 10 { dst := some 15, op := _, type := _, pos := _, after := _, guard := _ } rfl hS8 ?_
  refine gd0 11 { dst := some 16, op := _, type := _, pos := _, after := _, guard := _ } rfl hS8 ?_
  refine gd0 12 { dst := some 17, op := _, type := _, pos := _, after := _, guard := _ } rfl hS8 ?_
  refine gd0 13 { dst := some 18, op := _, type := _, pos := _, after := _, guard := _ } rfl hS8 ?_
  refine gd0 14 { dst := some 19, op := _, type := _, pos := _, after := _, guard := _ } rfl hS8 ?_
  refine gd1 15 { dst := some 20, op := _, type := _, pos := _, after := _, guard := _ } (.bool true) rfl hS8 (fun w hSw => by kernel_rfl) ?_
  refine gd1 16 { dst := some 4, op := _, type := _, pos := _, after := _, guard := _ } (.bool true) rfl hS8 (fun w hSw => by kernel_rfl) ?_
  refine gd_done (by kernel_rfl) ?_
  refine gx_thenN ?_
  refine hK6 _ _ ?_
  refine gx_ret ?_
  obtain rfl := Option.some.inj hF
  exact gx_fin (.bool true) (by kernel_rfl) (by kernel_rfl) ⟨_, rfl, rfl, (hS8.pick [] rfl rfl)⟩
 ·refine gd1 5 { dst := some 10, op := _, type := _, pos := _, after := _, guard := _ } (.bool false) rfl hS8 (fun w hSw => run_boolE (decide_eq_false h9) (by kernel_rfl)) ?_
  refine gd1 6 { dst := some 11, op := _, type := _, pos := _, after := _, guard := _ } (.bool false) rfl hS8 (fun w hSw => by kernel_rfl) ?_
  refine gd1 7 { dst := some 12, op := _, type := _, pos := _, after := _, guard := _ } (.agg #[.slice A0_0 p0_0.length c0_0, .slice A0_1 p0_1.length c0_1, .int .u8 p0_2]) rfl hS8 (fun w hSw => run_loadG (d := _) rfl (by kernel_rfl) (hSw.get 0 rfl) rfl rfl (by kernel_rfl)) ?_
  refine gd1 8 { dst := some 13, op := _, type := _, pos := _, after := _, guard := _ } (.int .i64 p1) rfl hS8 (fun w hSw => by kernel_rfl) ?_
  refine gd1 10 { dst := some 15, op := _, type := _, pos := _, after := _, guard := _ } (.agg #[.slice A0_0 p0_0.length c0_0, .slice A0_1 p0_1.length c0_1, .int .u8 p0_2]) rfl hS8 (fun w hSw => run_loadG (d := _) rfl (by kernel_rfl) (hSw.get 0 rfl) rfl rfl (by kernel_rfl)) ?_
  refine gd1 11 { dst := some 16, op := _, type := _, pos := _, after := _, guard := _ } (.int .i64 p1) rfl hS8 (fun w hSw => by kernel_rfl) ?_
  refine gd1 12 { dst := some 17, op := _, type := _, pos := _, after := _, guard := _ } (.int .i64 (IntKind.i64.wrap (p1 + 1))) rfl hS8 (fun w hSw => by kernel_rfl) ?_
  have hP10 : St _ _ w7 ([] ++ [boxE w0.heap.size [.slice A0_0 p0_0.length c0_0, .slice A0_1 p0_1.length c0_1, .int .u8 p0_2] 51]) := hS8
  obtain ⟨x12, hc11, hF⟩ := bind_in hF
  try dsimp only at hF
  refine gdC 9 { dst := some 14, op := _, type := _, pos := _, after := _, guard := _ } (rLev_R x12 w7) rfl (by kernel_rfl) (rLev_ok N p0_0 p0_1 p0_2 p1 A0_0 c0_0 A0_1 c0_1 _ hc11 w7 (hP10.vwA hv0_0) (hP10.vwA hv0_1)) ?_
  rintro _ w13 ⟨rfl, hT15⟩
  have hS14 : St _ _ w13 [boxE w0.heap.size [.slice A0_0 p0_0.length c0_0, .slice A0_1 p0_1.length c0_1, .int .u8 p0_2] 51] := hS8.take _ hT15
  refine ⟨hS14, ?_⟩
  have hP16 : St _ _ w13 ([] ++ [boxE w0.heap.size [.slice A0_0 p0_0.length c0_0, .slice A0_1 p0_1.length c0_1, .int .u8 p0_2] 51]) := hS14
  obtain ⟨x18, hc17, hF⟩ := bind_in hF
  try dsimp only at hF
  refine gdC 13 { dst := some 18, op := _, type := _, pos := _, after := _, guard := _ } (rLev_R x18 w13) rfl (by kernel_rfl) (rLev_ok N p0_0 p0_1 p0_2 (IntKind.i64.wrap (p1 + 1)) A0_0 c0_0 A0_1 c0_1 _ hc17 w13 (hP16.vwA hv0_0) (hP16.vwA hv0_1)) ?_
  rintro _ w19 ⟨rfl, hT21⟩
  have hS20 : St _ _ w19 [boxE w0.heap.size [.slice A0_0 p0_0.length c0_0, .slice A0_1 p0_1.length c0_1, .int .u8 p0_2] 51] := hS14.take _ hT21
  refine ⟨hS20, ?_⟩
  refine gd1 14 { dst := some 19, op := _, type := _, pos := _, after := _, guard := _ } (.bool (x12 != x18)) rfl hS20 (fun w hSw => by kernel_rfl) ?_
  refine gd1 15 { dst := some 20, op := _, type := _, pos := _, after := _, guard := _ } (.bool (x12 != x18)) rfl hS20 (fun w hSw => by kernel_rfl) ?_
  refine gd1 16 { dst := some 4, op := _, type := _, pos := _, after := _, guard := _ } (.bool (x12 != x18)) rfl hS20 (fun w hSw => by kernel_rfl) ?_
  refine gd_done (by kernel_rfl) ?_
  refine gx_thenN ?_
  refine hK6 _ _ ?_
  refine gx_ret ?_
  obtain rfl := Option.some.inj hF
  exact gx_fin (.bool (x12 != x18)) (by kernel_rfl) (by kernel_rfl) ⟨_, rfl, rfl, (hS20.pick [] rfl rfl)⟩

def rSeqs_L1 (N : Nat) (p0 : List Int) : Nat → (List Int) → (List Int) → Int → Option (List Int × List Int)
 | 0, _, _, _ => none
 | k66+1, l61, l63, x64 => (if x64 < ((p0.length : Nat) : Int) then ((ix l63 x64).bind fun _x77 => ((setx l63 x64 ((l61.length : Nat) : Int)).bind fun l81 => ((ix p0 x64).bind fun x85 => ((rRem N x85).bind fun b89 => (match b89 with | true => rSeqs_L1 N p0 k66 l61 l81 (IntKind.i64.wrap (x64 + 1)) | false => ((apx l61 ([x64])).bind fun l95 => rSeqs_L1 N p0 k66 l95 l81 (IntKind.i64.wrap (x64 + 1)))))))) else some ((l61, l63)))
def rSeqs_L2 (N : Nat) (p0 : List Int) (p1 : List Int) (p2 : Int) (l45 : List Int) (l47 : List Int) (l109 : List Int) : Nat → (List Int) → (List (Bool)) → Int → Option (List Int × List (Bool))
 | 0, _, _, _ => none
 | k146+1, l140, l142, x145 => (if x145 < ((l45.length : Nat) : Int) then ((ix l140 x145).bind fun _x157 => ((setx l140 x145 (-1)).bind fun l161 => ((ix l45 x145).bind fun x165 => ((ix l109 x165).bind fun x167 => ((((rEnds N l45 p1 p2 x145).bind fun b181 => (match b181 with | true => ((((ix l45 x145).bind fun x194 => ((ix p0 x194).bind fun x196 => ((((rInit N x196).bind fun b209 => (match b209 with | true => (if x167 ≥ 0 then some (true) else some (false)) | false => some (false))) : Option (Bool)).bind fun b201 => (match b201 with | true => ((ix l47 x167).bind fun x214 => ((rBeg N l45 p1 p2 x214).bind fun b218 => some (b218))) | false => some (false))))) : Option (Bool)).bind fun b188 => (match b188 with | true => ((ix l47 x167).bind fun x222 => ((ix l161 x145).bind fun _x224 => ((setx l161 x145 x222).bind fun l228 => some (l228)))) | false => some (l161))) | false => ((ix l161 x145).bind fun _x231 => ((setx l161 x145 (IntKind.i64.wrap (x145 + 1))).bind fun l235 => some (l235))))) : Option (List Int)).bind fun l173 => ((ix l173 x145).bind fun x239 => (if x239 ≥ 0 then ((ix l173 x145).bind fun x242 => ((ixg l142 x242).bind fun _x244 => ((setg l142 x242 true).bind fun l253 => rSeqs_L2 N p0 p1 p2 l45 l47 l109 k146 l173 l253 (IntKind.i64.wrap (x145 + 1))))) else rSeqs_L2 N p0 p1 p2 l45 l47 l109 k146 l173 l142 (IntKind.i64.wrap (x145 + 1))))))))) else some ((l140, l142)))
def rSeqs_L4 (N : Nat) (l45 : List Int) (l126 : List Int) : Nat → (List Int) → Int → Int → Option (List Int × Int)
 | 0, _, _, _ => none
 | k363+1, l359, x360, x361 => (if x361 ≥ 0 then ((ix l45 x361).bind fun xz36_373o5_1 => ((apx l359 ([xz36_373o5_1])).bind fun lz36_373o8_1 => ((ix l126 x361).bind fun x379 => rSeqs_L4 N l45 l126 k363 lz36_373o8_1 x361 x379))) else some ((l359, x360)))
def rSeqs_L3 (N : Nat) (p0 : List Int) (p1 : List Int) (p2 : Int) (l45 : List Int) (l109 : List Int) (l126 : List Int) (l128 : List (Bool)) : Nat → (List (List Int × Int × Int × Int)) → Int → Option (List (List Int × Int × Int × Int))
 | 0, _, _ => none
 | k293+1, l291, x292 => (if x292 < ((l45.length : Nat) : Int) then ((((ixg l128 x292).bind fun x318 => (match x318 with | true => some (l291) | false => ((rLev N l45 p1 p2 x292).bind fun xz31_328o2_3 => ((rLev N l45 p1 p2 x292).bind fun xz31_328o5_3 => ((rLev N l45 p1 p2 (IntKind.i64.wrap (x292 - 1))).bind fun xz31_328o9_3 => ((rSide N xz31_328o5_3 xz31_328o9_3).bind fun xz31_328o10_3 => ((rSeqs_L4 N l45 l126 N ([]) x292 x292 : Option (List Int × Int)).bind fun (l344, x345) => ((rLev N l45 p1 p2 (IntKind.i64.wrap (x345 + 1))).bind fun x387 => ((((ix l45 x345).bind fun x400 => ((ix p0 x400).bind fun x402 => ((rInit N x402).bind fun b406 => (match b406 with | true => ((ix l45 x345).bind fun x410 => ((ix l109 x410).bind fun x412 => (if x412 < 0 then some (p2) else some (x387)))) | false => some (x387))))) : Option (Int)).bind fun x394 => ((rLev N l45 p1 p2 x345).bind fun x419 => ((rSide N x419 x394).bind fun x425 => ((apg l291 ([(l344, xz31_328o2_3, xz31_328o10_3, x425)] : List (List Int × Int × Int × Int))).bind fun l439 => some (l439))))))))))))) : Option (List (List Int × Int × Int × Int))).bind fun l310 => rSeqs_L3 N p0 p1 p2 l45 l109 l126 l128 k293 l310 (IntKind.i64.wrap (x292 + 1))) else some (l291))
def rSeqs (N : Nat) (p0 : List Int) (p1 : List Int) (p2 : Int) : Option (List (List Int × Int × Int × Int) × Int) :=
 (if ((p0.length : Nat) : Int) > 65536 then some (([] : List (List Int × Int × Int × Int)), 3) else (if ((p0.length : Nat) : Int) ≠ ((p1.length : Nat) : Int) then some (([] : List (List Int × Int × Int × Int)), 2) else ((mkx ((p0.length : Nat) : Int)).bind fun l31 => ((rSeqs_L1 N p0 N ([]) l31 0 : Option (List Int × List Int)).bind fun (l45, l47) => ((rMatch N p0).bind fun l109 => ((mkx ((l45.length : Nat) : Int)).bind fun lz14_116o3_1 => ((mkg ((l45.length : Nat) : Int) (false : Bool)).bind fun lz14_116o7_1 => ((rSeqs_L2 N p0 p1 p2 l45 l47 l109 N lz14_116o3_1 lz14_116o7_1 0 : Option (List Int × List (Bool))).bind fun (l126, l128) => ((rSeqs_L3 N p0 p1 p2 l45 l109 l126 l128 N ([] : List (List Int × Int × Int × Int)) 0 : Option (List (List Int × Int × Int × Int))).bind fun l273 => some (l273, 0))))))))))

set_option linter.unusedVariables false in
def rSeqs_R (r : List (List Int × Int × Int × Int) × Int) (w0 : World) (v : Value) (w : World) : Prop := ∃ (A0' : Option Addr) (c0' : Nat) (vs0' : List Value) (ft' : List Nat), v = .tuple #[.slice A0' r.1.length c0', .int .i64 r.2] ∧ St [] w0 w [rowG 55 4 (.slice A0' r.1.length c0') r.1.length vs0', poolE ft' w] ∧ (fEach enccalamusref10Seq vs0' r.1).rd w ft'

set_option maxRecDepth 100000 in
set_option maxHeartbeats 4000000 in
theorem rSeqs_ok (N : Nat) (p0 : List Int) (p1 : List Int) (p2 : Int) (A0 : Option Addr) (c0 : Nat) (A1 : Option Addr) (c1 : Nat) (r : List (List Int × Int × Int × Int) × Int) (hF : rSeqs N p0 p1 p2 = some r) (w0 : World) (hv0 : Vw [] .u8 w0 A0 c0 p0) (hv1 : Vw [] .u8 w0 A1 c1 p1) :
  Calls Try.prog 9 #[.slice A0 p0.length c0, .slice A1 p1.length c1, .int .u8 p2] w0 fun e w => ∃ v, e = .returned v ∧ rSeqs_R r w0 v w := by
 have hS0 := (St.start w0).pool0
 unfold rSeqs at hF
 refine calls_of Try.func9 rfl ⟨((.slice A0 p0.length c0) :: (.slice A1 p1.length c1) :: (.int .u8 p2) :: un 211 ([])).toArray, []⟩ (by as_aux_lemma => kernel_rfl) ?_
 refine gx_seq (fun K1 hK2 => ?_)
 refine gx_region ?_
 refine gx_kA (.slice none 0 0) w0 (gx_kA (.int .i64 0) w0 ?_)
 refine gx_nil ?_
 refine gx_thenN ?_
 refine hK2 _ _ ?_
 refine gx_seq (fun K3 hK4 => ?_)
 refine gx_seq (fun K5 hK6 => ?_)
 refine gx_region ?_
 refine gx_kA (.slice A0 p0.length c0) w0 (gx_kA (.int .i64 ((p0.length : Nat) : Int)) w0 ?_)
 rcases if_in hF with ⟨h7, hF⟩ | ⟨h7, hF⟩
 ·refine gx_vA (.bool true) w0 (run_boolE (decide_eq_true h7) (by as_aux_lemma => kernel_rfl)) ?_
  refine gx_nil ?_
  refine gx_thenN ?_
  refine hK6 _ _ ?_
  refine gx_yes (by as_aux_lemma => kernel_rfl) ?_
  refine gx_seq (fun K8 hK9 => ?_)
  refine gx_region ?_
  refine gx_kA (.slice none 0 0) w0 (gx_kA (.int .i64 3) w0 ?_)
  refine gx_nil ?_
  refine gx_thenN ?_
  refine hK9 _ _ ?_
  refine gx_ret ?_
  refine gx_thenR ?_
  have hS10 : St _ _ w0 [poolE ([]) w0, rowG 55 4 (.slice none (([] : List (List Int × Int × Int × Int)).length) 0) (([] : List (List Int × Int × Int × Int)).length) ([])] := hS0.nilrowN 55 4
  have hf11 : (fEach enccalamusref10Seq [] []).rd w0 ([]) := each_nil
  have hS12 : St _ _ w0 [poolE ([]) w0, rowG 55 4 (.slice none (([] : List (List Int × Int × Int × Int)).length) 0) (([] : List (List Int × Int × Int × Int)).length) ([])] := hS10.renew 0 rfl
  obtain rfl := Option.some.inj hF
  exact gx_fin (.tuple #[.slice none (([] : List (List Int × Int × Int × Int)).length) 0, .int .i64 3]) (by as_aux_lemma => kernel_rfl) (by as_aux_lemma => kernel_rfl) ⟨_, rfl, none, 0, ([]), ([]), rfl, (hS12.pick [1, 0] rfl rfl), (hS10.now 0 rfl hf11)⟩
 ·refine gx_vA (.bool false) w0 (run_boolE (decide_eq_false h7) (by as_aux_lemma => kernel_rfl)) ?_
  refine gx_nil ?_
  refine gx_thenN ?_
  refine hK6 _ _ ?_
  refine gx_no (by as_aux_lemma => kernel_rfl) ?_
  refine gx_pass ?_
  refine gx_thenN ?_
  refine hK4 _ _ ?_
  refine gx_seq (fun K13 hK14 => ?_)
  refine gx_seq (fun K15 hK16 => ?_)
  refine gx_region ?_
  refine gx_kA (.slice A0 p0.length c0) w0 (gx_kA (.int .i64 ((p0.length : Nat) : Int)) w0 (gx_kA (.slice A1 p1.length c1) w0 (gx_kA (.int .i64 ((p1.length : Nat) : Int)) w0 ?_)))
  rcases if_in hF with ⟨h17, hF⟩ | ⟨h17, hF⟩
  ·refine gx_vA (.bool true) w0 (run_boolE (ne_yes h17) (by as_aux_lemma => kernel_rfl)) ?_
   refine gx_nil ?_
   refine gx_thenN ?_
   refine hK16 _ _ ?_
   refine gx_yes (by as_aux_lemma => kernel_rfl) ?_
   refine gx_seq (fun K18 hK19 => ?_)
   refine gx_region ?_
   refine gx_kA (.slice none 0 0) w0 (gx_kA (.int .i64 2) w0 ?_)
   refine gx_nil ?_
   refine gx_thenN ?_
   refine hK19 _ _ ?_
   refine gx_ret ?_
   refine gx_thenR ?_
   have hS20 : St _ _ w0 [poolE ([]) w0, rowG 55 4 (.slice none (([] : List (List Int × Int × Int × Int)).length) 0) (([] : List (List Int × Int × Int × Int)).length) ([])] := hS0.nilrowN 55 4
   have hf21 : (fEach enccalamusref10Seq [] []).rd w0 ([]) := each_nil
   have hS22 : St _ _ w0 [poolE ([]) w0, rowG 55 4 (.slice none (([] : List (List Int × Int × Int × Int)).length) 0) (([] : List (List Int × Int × Int × Int)).length) ([])] := hS20.renew 0 rfl
   obtain rfl := Option.some.inj hF
   exact gx_fin (.tuple #[.slice none (([] : List (List Int × Int × Int × Int)).length) 0, .int .i64 2]) (by as_aux_lemma => kernel_rfl) (by as_aux_lemma => kernel_rfl) ⟨_, rfl, none, 0, ([]), ([]), rfl, (hS22.pick [1, 0] rfl rfl), (hS20.now 0 rfl hf21)⟩
  ·refine gx_vA (.bool false) w0 (run_boolE (ne_no h17) (by as_aux_lemma => kernel_rfl)) ?_
   refine gx_nil ?_
   refine gx_thenN ?_
   refine hK16 _ _ ?_
   refine gx_no (by as_aux_lemma => kernel_rfl) ?_
   refine gx_pass ?_
   refine gx_thenN ?_
   refine hK14 _ _ ?_
   refine gx_seq (fun K23 hK24 => ?_)
   refine gx_region ?_
   refine gx_kA (.slice A1 p1.length c1) w0 (gx_kA (.int .u8 p2) w0 (gx_kA (.agg #[.slice none 0 0, .slice A1 p1.length c1, .int .u8 p2]) w0 ?_))
   refine gx_rA (st_boxed [.slice none 0 0, .slice none 0 0, .int .u8 0] 51 hS0 (by as_aux_lemma => kernel_rfl)) ?_
   rintro _ w25 ⟨rfl, hS26⟩
   have hS26 : St _ _ w25 [poolE ([]) w0, boxE w0.heap.size [.slice none 0 0, .slice none 0 0, .int .u8 0] 51] := hS26
   refine gx_sA (st_storeG (cs := [.slice none 0 0, .slice none 0 0, .int .u8 0]) (ds := [.slice none 0 0, .slice A1 p1.length c1, .int .u8 p2]) rfl (by as_aux_lemma => kernel_rfl) (by as_aux_lemma => kernel_rfl) (by as_aux_lemma => kernel_rfl) rfl rfl hS26 1 rfl) ?_
   rintro w27 hS28
   have hS28 : St _ _ w27 [poolE ([]) w0, boxE w0.heap.size [.slice none 0 0, .slice A1 p1.length c1, .int .u8 p2] 51] := hS28
   refine gx_nil ?_
   refine gx_thenN ?_
   refine hK24 _ _ ?_
   refine gx_seq (fun K29 hK30 => ?_)
   refine gx_region ?_
   refine gx_kA (.slice A0 p0.length c0) w27 (gx_kA (.int .i64 ((p0.length : Nat) : Int)) w27 ?_)
   obtain ⟨l31, hm32, hF⟩ := bind_in hF
   refine gx_rA (st_make (T := 3) (k := .i64) (by_ := 8) rfl (by as_aux_lemma => kernel_rfl) (by as_aux_lemma => kernel_rfl) (by as_aux_lemma => kernel_rfl) (by as_aux_lemma => kernel_rfl) (by as_aux_lemma => kernel_rfl) hS28 hm32) ?_
   rintro _ w33 ⟨A35, c36, rfl, hS34⟩
   have hS34 : St _ _ w33 [poolE ([]) w0, boxE w0.heap.size [.slice none 0 0, .slice A1 p1.length c1, .int .u8 p2] 51, rowE .i64 3 A35 c36 l31] := hS34
   refine gx_kA (.slice A35 l31.length c36) w33 ?_
   refine gx_nil ?_
   refine gx_thenN ?_
   refine hK30 _ _ ?_
   obtain ⟨c48, hE49, hO50⟩ := bind_in hF
   refine gx_cut (fun a w => ∃ (l45 : List Int) (l47 : List Int) (ft40 : List Nat) (W41 : World) (A43 : Option Addr) (c44 : Nat), selfA (fun u39 => ⟨((.slice A0 p0.length c0) :: (u39 1) :: (.int .u8 p2) :: un 3 ((.slice none 0 0) :: (.int .i64 0) :: (.pointer (some ⟨w0.heap.size, 0, none⟩)) :: (.slice A35 l31.length c36) :: (u39 10) :: un 11 ((u39 22) :: (.int .i64 ((p0.length : Nat) : Int)) :: (.bool false) :: (u39 25) :: (.int .i64 ((p0.length : Nat) : Int)) :: (u39 27) :: (.int .i64 ((p1.length : Nat) : Int)) :: (.bool false) :: (u39 30) :: (.int .u8 p2) :: dd u39 32 2 ((.int .i64 ((p0.length : Nat) : Int)) :: dd u39 35 25 (un 154 ([])))))).toArray, []⟩) a ∧ (l45, l47) = c48 ∧ St [] w0 w [poolE ft40 W41, rowE .i64 3 A43 c44 l45, boxE w0.heap.size [.slice A43 l45.length c44, .slice A1 p1.length c1, .int .u8 p2] 51, rowE .i64 3 A35 c36 l47] ∧ Turn [] w0 w0 ([]) W41 ft40 ∧ l31.length = l47.length) ?_ ?_
   ·refine gx_seq (fun K51 hK52 => ?_)
    refine gx_region ?_
    refine gx_kA (.int .i64 0) w33 ?_
    refine gx_nil ?_
    refine gx_thenN ?_
    refine hK52 _ _ ?_
    refine gx_block ?_
    have hS65 : St _ _ w33 [poolE ([]) w0, boxE w0.heap.size [.slice none 0 0, .slice A1 p1.length c1, .int .u8 p2] 51, rowE .i64 3 A35 c36 l31, rowE .i64 3 none 0 ([])] := hS34.nilrow .i64 3
    refine gx_loop (fun k a w => ∃ (l61 : List Int) (l63 : List Int) (x64 : Int) (ft56 : List Nat) (W57 : World) (A59 : Option Addr) (c60 : Nat), selfA (fun u55 => ⟨((.slice A0 p0.length c0) :: (u55 1) :: (.int .u8 p2) :: un 3 ((.slice none 0 0) :: (.int .i64 0) :: (.pointer (some ⟨w0.heap.size, 0, none⟩)) :: (.slice A35 l31.length c36) :: (.int .i64 x64) :: un 11 ((u55 22) :: (.int .i64 ((p0.length : Nat) : Int)) :: (.bool false) :: (u55 25) :: (.int .i64 ((p0.length : Nat) : Int)) :: (u55 27) :: (.int .i64 ((p1.length : Nat) : Int)) :: (.bool false) :: (u55 30) :: (.int .u8 p2) :: dd u55 32 2 ((.int .i64 ((p0.length : Nat) : Int)) :: dd u55 35 25 (un 154 ([])))))).toArray, []⟩) a ∧ rSeqs_L1 N p0 k l61 l63 x64 = some c48 ∧ St [] w0 w [poolE ft56 W57, rowE .i64 3 A59 c60 l61, boxE w0.heap.size [.slice A59 l61.length c60, .slice A1 p1.length c1, .int .u8 p2] 51, rowE .i64 3 A35 c36 l63] ∧ Turn [] w0 w0 ([]) W57 ft56 ∧ l31.length = l63.length) N ?_ ?_
    ·exact ⟨([]), l31, 0, ([]), w0, none, 0, selfA_i (by as_aux_lemma => kernel_rfl), hE49, (hS65.pick [0, 3, 1, 2] rfl rfl), (Turn.refl _ _ _ _), rfl⟩
    ·rintro k66 _ w53 ⟨l61, l63, x64, ft56, W57, A59, c60, hq104, hL67, hS54, hT58, hn62⟩
     obtain ⟨u55, rfl⟩ := selfA_u hq104
     cases k66 with
     | zero => cases hL67
     | succ k66 =>
      first | rw [rSeqs_L1] at hL67 | unfold rSeqs_L1 at hL67
      refine gx_seq (fun K68 hK69 => ?_)
      refine gx_seq (fun K70 hK71 => ?_)
      refine gx_region ?_
      refine gx_kA (.int .i64 x64) w53 (gx_kA (.slice A0 p0.length c0) w53 (gx_kA (.int .i64 ((p0.length : Nat) : Int)) w53 ?_))
      rcases if_in hL67 with ⟨h72, hL67⟩ | ⟨h72, hL67⟩
      ·refine gx_vA (.bool true) w53 (run_boolE (decide_eq_true h72) (by as_aux_lemma => kernel_rfl)) ?_
       refine gx_nil ?_
       refine gx_thenN ?_
       refine hK71 _ _ ?_
       refine gx_yes (by as_aux_lemma => kernel_rfl) ?_
       refine gx_pass ?_
       refine gx_thenN ?_
       refine hK69 _ _ ?_
       refine gx_seq (fun K73 hK74 => ?_)
       refine gx_block ?_
       refine gx_seq (fun K75 hK76 => ?_)
       refine gx_region ?_
       refine gx_kA (.slice A35 l31.length c36) w53 (gx_kA (.int .i64 x64) w53 (gx_kA (.pointer (some ⟨w0.heap.size, 0, none⟩)) w53 ?_))
       refine gx_vA (.slice A59 l61.length c60) w53 (run_load1 rfl (by as_aux_lemma => kernel_rfl) (fun _ => by kernel_rfl) (hS54.box 2 rfl 0 rfl)) ?_
       refine gx_kA (.int .i64 ((l61.length : Nat) : Int)) w53 ?_
       obtain ⟨x77, hx78, hL67⟩ := bind_in hL67
       refine gx_vA (.pointer (Option.map (fun (p : Addr) => p.add (Int.toNat x64 * 1)) A35)) w53 (run_ixaddr (E := 3) (s := 1) (k := .i64) (c := c36) rfl (by as_aux_lemma => kernel_rfl) (by as_aux_lemma => kernel_rfl) (by as_aux_lemma => kernel_rfl) (fun _ => by kernel_rfl) (ix_in hx78).1 (lt_len hn62 (ix_in hx78).2.1) (nil_len hn62 (num_nil (hS54.row 3 rfl).1))) ?_
       obtain ⟨l81, hx82, hL67⟩ := bind_in hL67
       refine gx_sA (st_storeix rfl (by as_aux_lemma => kernel_rfl) (by as_aux_lemma => kernel_rfl) (fun _ => by kernel_rfl) hS54 3 rfl hx82) ?_
       rintro w79 hS80
       have hS80 : St _ _ w79 [poolE ft56 W57, rowE .i64 3 A59 c60 l61, boxE w0.heap.size [.slice A59 l61.length c60, .slice A1 p1.length c1, .int .u8 p2] 51, rowE .i64 3 A35 c36 l81] := hS80
       refine gx_nil ?_
       refine gx_thenN ?_
       refine hK76 _ _ ?_
       refine gx_seq (fun K83 hK84 => ?_)
       refine gx_region ?_
       refine gx_kA (.slice A0 p0.length c0) w79 (gx_kA (.int .i64 x64) w79 ?_)
       obtain ⟨x85, hx86, hL67⟩ := bind_in hL67
       refine gx_vA (.pointer (Option.map (fun (p : Addr) => p.add (Int.toNat x64 * 1)) A0)) w79 (run_ixaddr (E := 34) (s := 1) (k := .i64) (c := c0) rfl (by as_aux_lemma => kernel_rfl) (by as_aux_lemma => kernel_rfl) (by as_aux_lemma => kernel_rfl) (fun _ => by kernel_rfl) (ix_in hx86).1 (ix_in hx86).2.1 (num_nil (hS80.view hv0))) ?_
       refine gx_vA (.int .u8 x85) w79 (run_loadix rfl (by as_aux_lemma => kernel_rfl) (fun _ => by kernel_rfl) (hS80.view hv0) hx86) ?_
       have hP87 : St _ _ w79 ([] ++ [poolE ft56 W57, rowE .i64 3 A59 c60 l61, boxE w0.heap.size [.slice A59 l61.length c60, .slice A1 p1.length c1, .int .u8 p2] 51, rowE .i64 3 A35 c36 l81]) := hS80
       obtain ⟨b89, hc88, hL67⟩ := bind_in hL67
       try dsimp only at hL67
       refine gx_cA (rRem_R b89 w79) (rRem_ok N x85 _ hc88 w79 ) ?_
       rintro _ w90 ⟨rfl, hT92⟩
       have hS91 : St _ _ w90 [poolE ft56 W57, rowE .i64 3 A59 c60 l61, boxE w0.heap.size [.slice A59 l61.length c60, .slice A1 p1.length c1, .int .u8 p2] 51, rowE .i64 3 A35 c36 l81] := hS80.take _ hT92
       cases b89 with
       | true =>
        try dsimp only at hL67
        refine gx_kA (.bool false) w90 ?_
        refine gx_nil ?_
        refine gx_thenN ?_
        refine hK84 _ _ ?_
        refine gx_no (by as_aux_lemma => kernel_rfl) ?_
        refine gx_pass ?_
        refine gx_blkN ?_
        refine gx_thenN ?_
        refine hK74 _ _ ?_
        refine gx_region ?_
        refine gx_kA (.int .i64 x64) w90 (gx_kA (.int .i64 (IntKind.i64.wrap (x64 + 1))) w90 (gx_kA (.int .i64 (IntKind.i64.wrap (x64 + 1))) w90 ?_))
        refine gx_nil ?_
        refine gx_thenN ?_
        exact ⟨k66, Nat.lt_succ_self k66, l61, l81, (IntKind.i64.wrap (x64 + 1)), ft56, W57, A59, c60, selfA_i (by as_aux_lemma => kernel_rfl), hL67, hS91, hT58, (hn62.trans (setx_len hx82).symm)⟩
       | false =>
        try dsimp only at hL67
        refine gx_kA (.bool true) w90 ?_
        refine gx_nil ?_
        refine gx_thenN ?_
        refine hK84 _ _ ?_
        refine gx_yes (by as_aux_lemma => kernel_rfl) ?_
        refine gx_region ?_
        refine gx_kA (.pointer (some ⟨w0.heap.size, 0, none⟩)) w90 ?_
        refine gx_vA (.slice A59 l61.length c60) w90 (run_load1 rfl (by as_aux_lemma => kernel_rfl) (fun _ => by kernel_rfl) (hS91.box 2 rfl 0 rfl)) ?_
        refine gx_kA (.int .i64 x64) w90 ?_
        refine gx_rA (st_made .i64 3 [x64] hS91 (by show 1 ≤ 1000000000; decide) (by as_aux_lemma => kernel_rfl)) ?_
        rintro _ w93 ⟨rfl, hS94⟩
        have hS94 : St _ _ w93 [poolE ft56 W57, rowE .i64 3 A59 c60 l61, boxE w0.heap.size [.slice A59 l61.length c60, .slice A1 p1.length c1, .int .u8 p2] 51, rowE .i64 3 A35 c36 l81, rowE .i64 3 (some ⟨w90.heap.size, 0, none⟩) 1 ([x64])] := hS94
        obtain ⟨l95, ha96, hL67⟩ := bind_in hL67
        obtain ⟨ha96, hq97⟩ := apx_in ha96
        refine gx_rA (st_append rfl (by as_aux_lemma => kernel_rfl) (by as_aux_lemma => kernel_rfl) hS94 1 rfl (hS94.row 4 rfl).1 (hS94.row 4 rfl).2 ha96 (by as_aux_lemma => kernel_rfl) (by as_aux_lemma => kernel_rfl)) ?_
        rintro _ w100 ⟨A98, c99, rfl, hS101⟩
        rw [← hq97] at hS101 ⊢
        have hS101 : St _ _ w100 [poolE ft56 W57, rowE .i64 3 A98 c99 l95, boxE w0.heap.size [.slice A59 l61.length c60, .slice A1 p1.length c1, .int .u8 p2] 51, rowE .i64 3 A35 c36 l81, rowE .i64 3 (some ⟨w90.heap.size, 0, none⟩) 1 ([x64])] := hS101
        refine gx_kA (.pointer (some ⟨w0.heap.size, 0, none⟩)) w100 ?_
        refine gx_sA (st_store (j := 0) (v := (.slice A98 l95.length c99)) rfl (by as_aux_lemma => kernel_rfl) (by as_aux_lemma => kernel_rfl) rfl (fun _ => by kernel_rfl) hS101 2 rfl (by show 0 < 3; decide)) ?_
        rintro w102 hS103
        have hS103 : St _ _ w102 [poolE ft56 W57, rowE .i64 3 A98 c99 l95, boxE w0.heap.size [.slice A98 l95.length c99, .slice A1 p1.length c1, .int .u8 p2] 51, rowE .i64 3 A35 c36 l81, rowE .i64 3 (some ⟨w90.heap.size, 0, none⟩) 1 ([x64])] := hS103
        refine gx_nil ?_
        refine gx_blkN ?_
        refine gx_thenN ?_
        refine hK74 _ _ ?_
        refine gx_region ?_
        refine gx_kA (.int .i64 x64) w102 (gx_kA (.int .i64 (IntKind.i64.wrap (x64 + 1))) w102 (gx_kA (.int .i64 (IntKind.i64.wrap (x64 + 1))) w102 ?_))
        refine gx_nil ?_
        refine gx_thenN ?_
        exact ⟨k66, Nat.lt_succ_self k66, l95, l81, (IntKind.i64.wrap (x64 + 1)), ft56, W57, A98, c99, selfA_i (by as_aux_lemma => kernel_rfl), hL67, (hS103.pick [0, 1, 2, 3] rfl rfl), hT58, (hn62.trans (setx_len hx82).symm)⟩
      ·refine gx_vA (.bool false) w53 (run_boolE (decide_eq_false h72) (by as_aux_lemma => kernel_rfl)) ?_
       refine gx_nil ?_
       refine gx_thenN ?_
       refine hK71 _ _ ?_
       refine gx_no (by as_aux_lemma => kernel_rfl) ?_
       refine gx_exit ?_
       refine gx_thenE ?_
       refine gx_thenE ?_
       refine gx_blkE ?_
       refine gx_thenN ?_
       exact ⟨l61, l63, ft56, W57, A59, c60, selfA_i (by as_aux_lemma => kernel_rfl), (Option.some.inj hL67), hS54, hT58, hn62⟩
   ·rintro _ w37 ⟨l45, l47, ft40, W41, A43, c44, hq458, rfl, hS38, hT42, hn46⟩
    obtain ⟨u39, rfl⟩ := selfA_u hq458
    try dsimp only at hO50
    refine gx_seq (fun K105 hK106 => ?_)
    refine gx_region ?_
    refine gx_kA (.slice A0 p0.length c0) w37 ?_
    have hP107 : St _ _ w37 ([] ++ [poolE ft40 W41, rowE .i64 3 A43 c44 l45, boxE w0.heap.size [.slice A43 l45.length c44, .slice A1 p1.length c1, .int .u8 p2] 51, rowE .i64 3 A35 c36 l47]) := hS38
    obtain ⟨l109, hc108, hO50⟩ := bind_in hO50
    try dsimp only at hO50
    refine gx_cA (rMatch_R l109 w37) (rMatch_ok N p0 A0 c0 _ hc108 w37 (hP107.vwA hv0)) ?_
    rintro _ w112 ⟨A110, c111, rfl, hT114⟩
    have hS113 : St _ _ w112 [poolE ft40 W41, rowE .i64 3 A43 c44 l45, boxE w0.heap.size [.slice A43 l45.length c44, .slice A1 p1.length c1, .int .u8 p2] 51, rowE .i64 3 A35 c36 l47, rowE .i64 3 A110 c111 l109] := hS38.take _ hT114
    refine gx_kA (.slice A110 l109.length c111) w112 ?_
    refine gx_nil ?_
    refine gx_thenN ?_
    refine hK106 _ _ ?_
    refine gx_seq (fun K115 hK116 => ?_)
    refine gd_start (fun w => St [] w0 w [poolE ft40 W41, rowE .i64 3 A43 c44 l45, boxE w0.heap.size [.slice A43 l45.length c44, .slice A1 p1.length c1, .int .u8 p2] 51, rowE .i64 3 A35 c36 l47, rowE .i64 3 A110 c111 l109]) 10 #[false, false, false, false, false, false, false, false, false, false] (by as_aux_lemma => kernel_rfl) (by as_aux_lemma => kernel_rfl) ?_
    have hS119 := hS113.drew
    generalize w112.drew = w118 at hS119 ⊢
    obtain ⟨lz14_116o3_1, hmz14_116o3_2, hO50⟩ := bind_in hO50
    obtain ⟨lz14_116o7_1, hmz14_116o7_2, hO50⟩ := bind_in hO50
    refine gd_share (X := (Option Addr) × Nat × (Option Addr) × Nat × (List Value)) (fun ⟨Az14_116o3_5, cz14_116o3_6, Az14_116o7_5, cz14_116o7_6, vsz14_116o7_7⟩ => ⟨((.slice A0 p0.length c0) :: (u39 1) :: (.int .u8 p2) :: un 3 ((.slice none 0 0) :: (.int .i64 0) :: (.pointer (some ⟨w0.heap.size, 0, none⟩)) :: (.slice A35 l31.length c36) :: (u39 10) :: (.slice A110 l109.length c111) :: (.slice Az14_116o3_5 lz14_116o3_1.length cz14_116o3_6) :: (.slice Az14_116o7_5 lz14_116o7_1.length cz14_116o7_6) :: un 8 ((u39 22) :: (.int .i64 ((p0.length : Nat) : Int)) :: (.bool false) :: (u39 25) :: (.int .i64 ((p0.length : Nat) : Int)) :: (u39 27) :: (.int .i64 ((p1.length : Nat) : Int)) :: (.bool false) :: (u39 30) :: (.int .u8 p2) :: dd u39 32 2 ((.int .i64 ((p0.length : Nat) : Int)) :: dd u39 35 25 ((.slice A0 p0.length c0) :: (.slice A110 l109.length c111) :: (.pointer (some ⟨w0.heap.size, 0, none⟩)) :: (.slice A43 l45.length c44) :: (.int .i64 ((l45.length : Nat) : Int)) :: (.slice Az14_116o3_5 lz14_116o3_1.length cz14_116o3_6) :: (.pointer (some ⟨w0.heap.size, 0, none⟩)) :: (.slice A43 l45.length c44) :: (.int .i64 ((l45.length : Nat) : Int)) :: (.slice Az14_116o7_5 lz14_116o7_1.length cz14_116o7_6) :: un 144 ([])))))).toArray, []⟩) (fun ⟨Az14_116o3_5, cz14_116o3_6, Az14_116o7_5, cz14_116o7_6, vsz14_116o7_7⟩ w => (fEach boolE vsz14_116o7_7 lz14_116o7_1).rd W41 ft40 ∧ St [] w0 w [poolE ft40 W41, rowE .i64 3 A43 c44 l45, boxE w0.heap.size [.slice A43 l45.length c44, .slice A1 p1.length c1, .int .u8 p2] 51, rowE .i64 3 A35 c36 l47, rowE .i64 3 A110 c111 l109, rowE .i64 3 Az14_116o3_5 cz14_116o3_6 lz14_116o3_1, rowG 4 1 (.slice Az14_116o7_5 lz14_116o7_1.length cz14_116o7_6) lz14_116o7_1.length vsz14_116o7_7]) ?_ ?_
    ·rintro ⟨Az14_116o3_5, cz14_116o3_6, Az14_116o7_5, cz14_116o7_6, vsz14_116o7_7⟩ w120 ⟨hfz14_116o7_8, hS121⟩
     have hS121 : St _ _ w120 [poolE ft40 W41, rowE .i64 3 A43 c44 l45, boxE w0.heap.size [.slice A43 l45.length c44, .slice A1 p1.length c1, .int .u8 p2] 51, rowE .i64 3 A35 c36 l47, rowE .i64 3 A110 c111 l109, rowE .i64 3 Az14_116o3_5 cz14_116o3_6 lz14_116o3_1, rowG 4 1 (.slice Az14_116o7_5 lz14_116o7_1.length cz14_116o7_6) lz14_116o7_1.length vsz14_116o7_7] := hS121
     have hfz14_116o7_8 : (fEach boolE vsz14_116o7_7 lz14_116o7_1).rd W41 ft40 := hfz14_116o7_8
     show WQ _ _ ⟨((.slice A0 p0.length c0) :: (u39 1) :: (.int .u8 p2) :: un 3 ((.slice none 0 0) :: (.int .i64 0) :: (.pointer (some ⟨w0.heap.size, 0, none⟩)) :: (.slice A35 l31.length c36) :: (u39 10) :: (.slice A110 l109.length c111) :: (.slice Az14_116o3_5 lz14_116o3_1.length cz14_116o3_6) :: (.slice Az14_116o7_5 lz14_116o7_1.length cz14_116o7_6) :: un 8 ((u39 22) :: (.int .i64 ((p0.length : Nat) : Int)) :: (.bool false) :: (u39 25) :: (.int .i64 ((p0.length : Nat) : Int)) :: (u39 27) :: (.int .i64 ((p1.length : Nat) : Int)) :: (.bool false) :: (u39 30) :: (.int .u8 p2) :: dd u39 32 2 ((.int .i64 ((p0.length : Nat) : Int)) :: dd u39 35 25 ((.slice A0 p0.length c0) :: (.slice A110 l109.length c111) :: (.pointer (some ⟨w0.heap.size, 0, none⟩)) :: (.slice A43 l45.length c44) :: (.int .i64 ((l45.length : Nat) : Int)) :: (.slice Az14_116o3_5 lz14_116o3_1.length cz14_116o3_6) :: (.pointer (some ⟨w0.heap.size, 0, none⟩)) :: (.slice A43 l45.length c44) :: (.int .i64 ((l45.length : Nat) : Int)) :: (.slice Az14_116o7_5 lz14_116o7_1.length cz14_116o7_6) :: un 144 ([])))))).toArray, []⟩ _
     refine gx_thenN ?_
     refine hK116 _ _ ?_
     obtain ⟨c131, hE132, hO133⟩ := bind_in hO50
     refine gx_cut (fun a w => ∃ (l126 : List Int) (l128 : List (Bool)) (vs129 : List Value), selfA (fun u124 => ⟨((.slice A0 p0.length c0) :: (u39 1) :: (.int .u8 p2) :: un 3 ((.slice none 0 0) :: (.int .i64 0) :: (.pointer (some ⟨w0.heap.size, 0, none⟩)) :: (u124 9) :: (u39 10) :: (.slice A110 l109.length c111) :: (.slice Az14_116o3_5 lz14_116o3_1.length cz14_116o3_6) :: (.slice Az14_116o7_5 lz14_116o7_1.length cz14_116o7_6) :: dd u124 14 2 (un 6 ((u39 22) :: (.int .i64 ((p0.length : Nat) : Int)) :: (.bool false) :: (u39 25) :: (.int .i64 ((p0.length : Nat) : Int)) :: (u39 27) :: (.int .i64 ((p1.length : Nat) : Int)) :: (.bool false) :: (u39 30) :: (.int .u8 p2) :: dd u39 32 2 ((.int .i64 ((p0.length : Nat) : Int)) :: dd u39 35 25 (dd u124 60 2 ((.pointer (some ⟨w0.heap.size, 0, none⟩)) :: (u124 63) :: (.int .i64 ((l45.length : Nat) : Int)) :: (u124 65) :: (.pointer (some ⟨w0.heap.size, 0, none⟩)) :: (u124 67) :: (.int .i64 ((l45.length : Nat) : Int)) :: dd u124 69 67 (un 78 ([]))))))))).toArray, []⟩) a ∧ (l126, l128) = c131 ∧ St [] w0 w [poolE ft40 W41, rowE .i64 3 A43 c44 l45, boxE w0.heap.size [.slice A43 l45.length c44, .slice A1 p1.length c1, .int .u8 p2] 51, rowE .i64 3 A110 c111 l109, rowE .i64 3 Az14_116o3_5 cz14_116o3_6 l126, rowG 4 1 (.slice Az14_116o7_5 lz14_116o7_1.length cz14_116o7_6) lz14_116o7_1.length vs129] ∧ lz14_116o3_1.length = l126.length ∧ (fEach boolE vs129 l128).rd W41 ft40 ∧ lz14_116o7_1.length = l128.length) ?_ ?_
     ·refine gx_seq (fun K134 hK135 => ?_)
      refine gx_region ?_
      refine gx_kA (.int .i64 0) w120 ?_
      refine gx_nil ?_
      refine gx_thenN ?_
      refine hK135 _ _ ?_
      refine gx_block ?_
      refine gx_loop (fun k a w => ∃ (l140 : List Int) (l142 : List (Bool)) (x145 : Int) (vs143 : List Value), selfA (fun u138 => ⟨((.slice A0 p0.length c0) :: (u39 1) :: (.int .u8 p2) :: un 3 ((.slice none 0 0) :: (.int .i64 0) :: (.pointer (some ⟨w0.heap.size, 0, none⟩)) :: (.slice A35 l31.length c36) :: (u39 10) :: (.slice A110 l109.length c111) :: (.slice Az14_116o3_5 lz14_116o3_1.length cz14_116o3_6) :: (.slice Az14_116o7_5 lz14_116o7_1.length cz14_116o7_6) :: (.int .i64 x145) :: (u138 15) :: un 6 ((u39 22) :: (.int .i64 ((p0.length : Nat) : Int)) :: (.bool false) :: (u39 25) :: (.int .i64 ((p0.length : Nat) : Int)) :: (u39 27) :: (.int .i64 ((p1.length : Nat) : Int)) :: (.bool false) :: (u39 30) :: (.int .u8 p2) :: dd u39 32 2 ((.int .i64 ((p0.length : Nat) : Int)) :: dd u39 35 25 (dd u138 60 2 ((.pointer (some ⟨w0.heap.size, 0, none⟩)) :: (u138 63) :: (.int .i64 ((l45.length : Nat) : Int)) :: (u138 65) :: (.pointer (some ⟨w0.heap.size, 0, none⟩)) :: (u138 67) :: (.int .i64 ((l45.length : Nat) : Int)) :: dd u138 69 67 (un 78 ([])))))))).toArray, []⟩) a ∧ rSeqs_L2 N p0 p1 p2 l45 l47 l109 k l140 l142 x145 = some c131 ∧ St [] w0 w [poolE ft40 W41, rowE .i64 3 A43 c44 l45, boxE w0.heap.size [.slice A43 l45.length c44, .slice A1 p1.length c1, .int .u8 p2] 51, rowE .i64 3 A35 c36 l47, rowE .i64 3 A110 c111 l109, rowE .i64 3 Az14_116o3_5 cz14_116o3_6 l140, rowG 4 1 (.slice Az14_116o7_5 lz14_116o7_1.length cz14_116o7_6) lz14_116o7_1.length vs143] ∧ lz14_116o3_1.length = l140.length ∧ (fEach boolE vs143 l142).rd W41 ft40 ∧ lz14_116o7_1.length = l142.length) N ?_ ?_
      ·exact ⟨lz14_116o3_1, lz14_116o7_1, 0, vsz14_116o7_7, selfA_i (by as_aux_lemma => kernel_rfl), hE132, hS121, rfl, hfz14_116o7_8, rfl⟩
      ·rintro k146 _ w136 ⟨l140, l142, x145, vs143, hq260, hL147, hS137, hn139, hf144, hn141⟩
       obtain ⟨u138, rfl⟩ := selfA_u hq260
       cases k146 with
       | zero => cases hL147
       | succ k146 =>
        first | rw [rSeqs_L2] at hL147 | unfold rSeqs_L2 at hL147
        refine gx_seq (fun K148 hK149 => ?_)
        refine gx_seq (fun K150 hK151 => ?_)
        refine gx_region ?_
        refine gx_kA (.int .i64 x145) w136 (gx_kA (.pointer (some ⟨w0.heap.size, 0, none⟩)) w136 ?_)
        refine gx_vA (.slice A43 l45.length c44) w136 (run_load1 rfl (by as_aux_lemma => kernel_rfl) (fun _ => by kernel_rfl) (hS137.box 2 rfl 0 rfl)) ?_
        refine gx_kA (.int .i64 ((l45.length : Nat) : Int)) w136 ?_
        rcases if_in hL147 with ⟨h152, hL147⟩ | ⟨h152, hL147⟩
        ·refine gx_vA (.bool true) w136 (run_boolE (decide_eq_true h152) (by as_aux_lemma => kernel_rfl)) ?_
         refine gx_nil ?_
         refine gx_thenN ?_
         refine hK151 _ _ ?_
         refine gx_yes (by as_aux_lemma => kernel_rfl) ?_
         refine gx_pass ?_
         refine gx_thenN ?_
         refine hK149 _ _ ?_
         refine gx_seq (fun K153 hK154 => ?_)
         refine gx_block ?_
         refine gx_seq (fun K155 hK156 => ?_)
         refine gx_region ?_
         refine gx_kA (.slice Az14_116o3_5 lz14_116o3_1.length cz14_116o3_6) w136 (gx_kA (.int .i64 x145) w136 ?_)
         obtain ⟨x157, hx158, hL147⟩ := bind_in hL147
         refine gx_vA (.pointer (Option.map (fun (p : Addr) => p.add (Int.toNat x145 * 1)) Az14_116o3_5)) w136 (run_ixaddr (E := 3) (s := 1) (k := .i64) (c := cz14_116o3_6) rfl (by as_aux_lemma => kernel_rfl) (by as_aux_lemma => kernel_rfl) (by as_aux_lemma => kernel_rfl) (fun _ => by kernel_rfl) (ix_in hx158).1 (lt_len hn139 (ix_in hx158).2.1) (nil_len hn139 (num_nil (hS137.row 5 rfl).1))) ?_
         obtain ⟨l161, hx162, hL147⟩ := bind_in hL147
         refine gx_sA (st_storeix rfl (by as_aux_lemma => kernel_rfl) (by as_aux_lemma => kernel_rfl) (fun _ => by kernel_rfl) hS137 5 rfl hx162) ?_
         rintro w159 hS160
         have hS160 : St _ _ w159 [poolE ft40 W41, rowE .i64 3 A43 c44 l45, boxE w0.heap.size [.slice A43 l45.length c44, .slice A1 p1.length c1, .int .u8 p2] 51, rowE .i64 3 A35 c36 l47, rowE .i64 3 A110 c111 l109, rowE .i64 3 Az14_116o3_5 cz14_116o3_6 l161, rowG 4 1 (.slice Az14_116o7_5 lz14_116o7_1.length cz14_116o7_6) lz14_116o7_1.length vs143] := hS160
         refine gx_nil ?_
         refine gx_thenN ?_
         refine hK156 _ _ ?_
         refine gx_seq (fun K163 hK164 => ?_)
         refine gx_region ?_
         refine gx_kA (.slice A110 l109.length c111) w159 (gx_kA (.pointer (some ⟨w0.heap.size, 0, none⟩)) w159 ?_)
         refine gx_vA (.slice A43 l45.length c44) w159 (run_load1 rfl (by as_aux_lemma => kernel_rfl) (fun _ => by kernel_rfl) (hS160.box 2 rfl 0 rfl)) ?_
         refine gx_kA (.int .i64 x145) w159 ?_
         obtain ⟨x165, hx166, hL147⟩ := bind_in hL147
         refine gx_vA (.pointer (Option.map (fun (p : Addr) => p.add (Int.toNat x145 * 1)) A43)) w159 (run_ixaddr (E := 3) (s := 1) (k := .i64) (c := c44) rfl (by as_aux_lemma => kernel_rfl) (by as_aux_lemma => kernel_rfl) (by as_aux_lemma => kernel_rfl) (fun _ => by kernel_rfl) (ix_in hx166).1 (ix_in hx166).2.1 (num_nil (hS160.row 1 rfl).1)) ?_
         refine gx_vA (.int .i64 x165) w159 (run_loadix rfl (by as_aux_lemma => kernel_rfl) (fun _ => by kernel_rfl) (hS160.row 1 rfl).1 hx166) ?_
         obtain ⟨x167, hx168, hL147⟩ := bind_in hL147
         refine gx_vA (.pointer (Option.map (fun (p : Addr) => p.add (Int.toNat x165 * 1)) A110)) w159 (run_ixaddr (E := 3) (s := 1) (k := .i64) (c := c111) rfl (by as_aux_lemma => kernel_rfl) (by as_aux_lemma => kernel_rfl) (by as_aux_lemma => kernel_rfl) (fun _ => by kernel_rfl) (ix_in hx168).1 (ix_in hx168).2.1 (num_nil (hS160.row 4 rfl).1)) ?_
         refine gx_vA (.int .i64 x167) w159 (run_loadix rfl (by as_aux_lemma => kernel_rfl) (fun _ => by kernel_rfl) (hS160.row 4 rfl).1 hx168) ?_
         refine gx_kA (.int .i64 x167) w159 ?_
         refine gx_nil ?_
         refine gx_thenN ?_
         refine hK164 _ _ ?_
         obtain ⟨c174, hE175, hO176⟩ := bind_in hL147
         refine gx_cut (fun a w => ∃ (l173 : List Int), selfA (fun u171 => ⟨((.slice A0 p0.length c0) :: (u39 1) :: (.int .u8 p2) :: un 3 ((.slice none 0 0) :: (.int .i64 0) :: (.pointer (some ⟨w0.heap.size, 0, none⟩)) :: (.slice A35 l31.length c36) :: (u39 10) :: (.slice A110 l109.length c111) :: (.slice Az14_116o3_5 lz14_116o3_1.length cz14_116o3_6) :: (.slice Az14_116o7_5 lz14_116o7_1.length cz14_116o7_6) :: (.int .i64 x145) :: (.int .i64 x167) :: un 6 ((u39 22) :: (.int .i64 ((p0.length : Nat) : Int)) :: (.bool false) :: (u39 25) :: (.int .i64 ((p0.length : Nat) : Int)) :: (u39 27) :: (.int .i64 ((p1.length : Nat) : Int)) :: (.bool false) :: (u39 30) :: (.int .u8 p2) :: dd u39 32 2 ((.int .i64 ((p0.length : Nat) : Int)) :: dd u39 35 25 (dd u138 60 2 ((.pointer (some ⟨w0.heap.size, 0, none⟩)) :: (u138 63) :: (.int .i64 ((l45.length : Nat) : Int)) :: (u138 65) :: (.pointer (some ⟨w0.heap.size, 0, none⟩)) :: (u138 67) :: (.int .i64 ((l45.length : Nat) : Int)) :: (u138 69) :: (.int .i64 x145) :: (.pointer (some ⟨w0.heap.size, 0, none⟩)) :: (u171 72) :: (.int .i64 ((l45.length : Nat) : Int)) :: (.bool true) :: dd u138 75 2 ((u171 77) :: (.int .i64 x145) :: (.pointer (Option.map (fun (p : Addr) => p.add (Int.toNat x145 * 1)) Az14_116o3_5)) :: (u171 80) :: (.pointer (some ⟨w0.heap.size, 0, none⟩)) :: (u171 82) :: (.int .i64 x145) :: (.pointer (Option.map (fun (p : Addr) => p.add (Int.toNat x145 * 1)) A43)) :: (.int .i64 x165) :: (.pointer (Option.map (fun (p : Addr) => p.add (Int.toNat x165 * 1)) A110)) :: (.int .i64 x167) :: dd u171 88 37 (dd u138 125 11 (un 78 ([])))))))))).toArray, []⟩) a ∧ l173 = c174 ∧ St [] w0 w [poolE ft40 W41, rowE .i64 3 A43 c44 l45, boxE w0.heap.size [.slice A43 l45.length c44, .slice A1 p1.length c1, .int .u8 p2] 51, rowE .i64 3 A35 c36 l47, rowE .i64 3 A110 c111 l109, rowE .i64 3 Az14_116o3_5 cz14_116o3_6 l173, rowG 4 1 (.slice Az14_116o7_5 lz14_116o7_1.length cz14_116o7_6) lz14_116o7_1.length vs143] ∧ lz14_116o3_1.length = l173.length) ?_ ?_
         ·refine gx_seq (fun K177 hK178 => ?_)
          refine gx_region ?_
          refine gx_vA (.agg #[.slice A43 l45.length c44, .slice A1 p1.length c1, .int .u8 p2]) w159 (run_loadG (d := _) rfl (by as_aux_lemma => kernel_rfl) (hS160.get 2 rfl) rfl rfl (by as_aux_lemma => kernel_rfl)) ?_
          refine gx_kA (.int .i64 x145) w159 ?_
          have hP179 : St _ _ w159 ([] ++ [poolE ft40 W41, rowE .i64 3 A43 c44 l45, boxE w0.heap.size [.slice A43 l45.length c44, .slice A1 p1.length c1, .int .u8 p2] 51, rowE .i64 3 A35 c36 l47, rowE .i64 3 A110 c111 l109, rowE .i64 3 Az14_116o3_5 cz14_116o3_6 l161, rowG 4 1 (.slice Az14_116o7_5 lz14_116o7_1.length cz14_116o7_6) lz14_116o7_1.length vs143]) := hS160
          obtain ⟨b181, hc180, hE175⟩ := bind_in hE175
          try dsimp only at hE175
          refine gx_cA (rEnds_R b181 w159) (rEnds_ok N l45 p1 p2 x145 A43 c44 A1 c1 _ hc180 w159 (hP179.vwB 1 rfl) (hP179.vwA hv1)) ?_
          rintro _ w182 ⟨rfl, hT184⟩
          have hS183 : St _ _ w182 [poolE ft40 W41, rowE .i64 3 A43 c44 l45, boxE w0.heap.size [.slice A43 l45.length c44, .slice A1 p1.length c1, .int .u8 p2] 51, rowE .i64 3 A35 c36 l47, rowE .i64 3 A110 c111 l109, rowE .i64 3 Az14_116o3_5 cz14_116o3_6 l161, rowG 4 1 (.slice Az14_116o7_5 lz14_116o7_1.length cz14_116o7_6) lz14_116o7_1.length vs143] := hS160.take _ hT184
          cases b181 with
          | true =>
           try dsimp only at hE175
           refine gx_kA (.bool false) w182 ?_
           refine gx_nil ?_
           refine gx_thenN ?_
           refine hK178 _ _ ?_
           refine gx_no (by as_aux_lemma => kernel_rfl) ?_
           obtain ⟨c189, hE190, hO191⟩ := bind_in hE175
           refine gx_cut (fun a w => ∃ (b188 : Bool), selfA (fun u187 => ⟨((.slice A0 p0.length c0) :: (u39 1) :: (.int .u8 p2) :: un 3 ((.slice none 0 0) :: (.int .i64 0) :: (.pointer (some ⟨w0.heap.size, 0, none⟩)) :: (.slice A35 l31.length c36) :: (u39 10) :: (.slice A110 l109.length c111) :: (.slice Az14_116o3_5 lz14_116o3_1.length cz14_116o3_6) :: (.slice Az14_116o7_5 lz14_116o7_1.length cz14_116o7_6) :: (.int .i64 x145) :: (.int .i64 x167) :: un 6 ((u39 22) :: (.int .i64 ((p0.length : Nat) : Int)) :: (.bool false) :: (u39 25) :: (.int .i64 ((p0.length : Nat) : Int)) :: (u39 27) :: (.int .i64 ((p1.length : Nat) : Int)) :: (.bool false) :: (u39 30) :: (.int .u8 p2) :: dd u39 32 2 ((.int .i64 ((p0.length : Nat) : Int)) :: dd u39 35 25 (dd u138 60 2 ((.pointer (some ⟨w0.heap.size, 0, none⟩)) :: (u138 63) :: (.int .i64 ((l45.length : Nat) : Int)) :: (u138 65) :: (.pointer (some ⟨w0.heap.size, 0, none⟩)) :: (u138 67) :: (.int .i64 ((l45.length : Nat) : Int)) :: (u138 69) :: (.int .i64 x145) :: (.pointer (some ⟨w0.heap.size, 0, none⟩)) :: (u187 72) :: (.int .i64 ((l45.length : Nat) : Int)) :: (.bool true) :: dd u138 75 2 ((u187 77) :: (.int .i64 x145) :: (.pointer (Option.map (fun (p : Addr) => p.add (Int.toNat x145 * 1)) Az14_116o3_5)) :: (u187 80) :: (.pointer (some ⟨w0.heap.size, 0, none⟩)) :: (u187 82) :: (.int .i64 x145) :: (.pointer (Option.map (fun (p : Addr) => p.add (Int.toNat x145 * 1)) A43)) :: (.int .i64 x165) :: (.pointer (Option.map (fun (p : Addr) => p.add (Int.toNat x165 * 1)) A110)) :: (.int .i64 x167) :: (u187 88) :: (.int .i64 x145) :: (.bool true) :: (.bool false) :: dd u138 92 5 (dd u187 97 20 ((.bool b188) :: dd u138 118 18 (un 78 ([]))))))))))).toArray, []⟩) a ∧ b188 = c189 ∧ St [] w0 w [poolE ft40 W41, rowE .i64 3 A43 c44 l45, boxE w0.heap.size [.slice A43 l45.length c44, .slice A1 p1.length c1, .int .u8 p2] 51, rowE .i64 3 A35 c36 l47, rowE .i64 3 A110 c111 l109, rowE .i64 3 Az14_116o3_5 cz14_116o3_6 l161, rowG 4 1 (.slice Az14_116o7_5 lz14_116o7_1.length cz14_116o7_6) lz14_116o7_1.length vs143]) ?_ ?_
           ·refine gd_start (fun w => St [] w0 w [poolE ft40 W41, rowE .i64 3 A43 c44 l45, boxE w0.heap.size [.slice A43 l45.length c44, .slice A1 p1.length c1, .int .u8 p2] 51, rowE .i64 3 A35 c36 l47, rowE .i64 3 A110 c111 l109, rowE .i64 3 Az14_116o3_5 cz14_116o3_6 l161, rowG 4 1 (.slice Az14_116o7_5 lz14_116o7_1.length cz14_116o7_6) lz14_116o7_1.length vs143]) 21 #[false, false, false, false, false, false, false, false, false, false, false, false, false, false, false, false, false, false, false, false, false] (by as_aux_lemma => kernel_rfl) (by as_aux_lemma => kernel_rfl) ?_
            have hS193 := hS183.drew
            generalize w182.drew = w192 at hS193 ⊢
            refine gd1 0 { dst := some 97, op := _, type := _, pos := _, after := _, guard := _ } (.slice A0 p0.length c0) rfl hS193 (fun w hSw => by kernel_rfl) ?_
            refine gd1 1 { dst := some 98, op := _, type := _, pos := _, after := _, guard := _ } (.pointer (some ⟨w0.heap.size, 0, none⟩)) rfl hS193 (fun w hSw => by kernel_rfl) ?_
            refine gd1 2 { dst := some 99, op := _, type := _, pos := _, after := _, guard := _ } (.slice A43 l45.length c44) rfl hS193 (fun w hSw => run_load1 rfl (by as_aux_lemma => kernel_rfl) (fun _ => by kernel_rfl) (hSw.box 2 rfl 0 rfl)) ?_
            refine gd1 3 { dst := some 100, op := _, type := _, pos := _, after := _, guard := _ } (.int .i64 x145) rfl hS193 (fun w hSw => by kernel_rfl) ?_
            obtain ⟨x194, hx195, hE190⟩ := bind_in hE190
            refine gd1 4 { dst := some 101, op := _, type := _, pos := _, after := _, guard := _ } (.pointer (Option.map (fun (p : Addr) => p.add (Int.toNat x145 * 1)) A43)) rfl hS193 (fun w hSw => run_ixaddr (E := 3) (s := 1) (k := .i64) (c := c44) rfl (by as_aux_lemma => kernel_rfl) (by as_aux_lemma => kernel_rfl) (by as_aux_lemma => kernel_rfl) (fun _ => by kernel_rfl) (ix_in hx195).1 (ix_in hx195).2.1 (num_nil (hS193.row 1 rfl).1)) ?_
            refine gd1 5 { dst := some 102, op := _, type := _, pos := _, after := _, guard := _ } (.int .i64 x194) rfl hS193 (fun w hSw => run_loadix rfl (by as_aux_lemma => kernel_rfl) (fun _ => by kernel_rfl) (hSw.row 1 rfl).1 hx195) ?_
            obtain ⟨x196, hx197, hE190⟩ := bind_in hE190
            refine gd1 6 { dst := some 103, op := _, type := _, pos := _, after := _, guard := _ } (.pointer (Option.map (fun (p : Addr) => p.add (Int.toNat x194 * 1)) A0)) rfl hS193 (fun w hSw => run_ixaddr (E := 34) (s := 1) (k := .i64) (c := c0) rfl (by as_aux_lemma => kernel_rfl) (by as_aux_lemma => kernel_rfl) (by as_aux_lemma => kernel_rfl) (fun _ => by kernel_rfl) (ix_in hx197).1 (ix_in hx197).2.1 (num_nil (hS193.view hv0))) ?_
            refine gd1 7 { dst := some 104, op := _, type := _, pos := _, after := _, guard := _ } (.int .u8 x196) rfl hS193 (fun w hSw => run_loadix rfl (by as_aux_lemma => kernel_rfl) (fun _ => by kernel_rfl) (hSw.view hv0) hx197) ?_
            obtain ⟨c202, hE203, hO204⟩ := bind_in hE190
            refine gd_mid (fun a w => ∃ (b201 : Bool), selfA (fun u200 => ⟨((.slice A0 p0.length c0) :: (u39 1) :: (.int .u8 p2) :: un 3 ((.slice none 0 0) :: (.int .i64 0) :: (.pointer (some ⟨w0.heap.size, 0, none⟩)) :: (.slice A35 l31.length c36) :: (u39 10) :: (.slice A110 l109.length c111) :: (.slice Az14_116o3_5 lz14_116o3_1.length cz14_116o3_6) :: (.slice Az14_116o7_5 lz14_116o7_1.length cz14_116o7_6) :: (.int .i64 x145) :: (.int .i64 x167) :: un 6 ((u39 22) :: (.int .i64 ((p0.length : Nat) : Int)) :: (.bool false) :: (u39 25) :: (.int .i64 ((p0.length : Nat) : Int)) :: (u39 27) :: (.int .i64 ((p1.length : Nat) : Int)) :: (.bool false) :: (u39 30) :: (.int .u8 p2) :: dd u39 32 2 ((.int .i64 ((p0.length : Nat) : Int)) :: dd u39 35 25 (dd u138 60 2 ((.pointer (some ⟨w0.heap.size, 0, none⟩)) :: (u138 63) :: (.int .i64 ((l45.length : Nat) : Int)) :: (u138 65) :: (.pointer (some ⟨w0.heap.size, 0, none⟩)) :: (u138 67) :: (.int .i64 ((l45.length : Nat) : Int)) :: (u138 69) :: (.int .i64 x145) :: (.pointer (some ⟨w0.heap.size, 0, none⟩)) :: (u200 72) :: (.int .i64 ((l45.length : Nat) : Int)) :: (.bool true) :: dd u138 75 2 ((u200 77) :: (.int .i64 x145) :: (.pointer (Option.map (fun (p : Addr) => p.add (Int.toNat x145 * 1)) Az14_116o3_5)) :: (u200 80) :: (.pointer (some ⟨w0.heap.size, 0, none⟩)) :: (u200 82) :: (.int .i64 x145) :: (.pointer (Option.map (fun (p : Addr) => p.add (Int.toNat x145 * 1)) A43)) :: (.int .i64 x165) :: (.pointer (Option.map (fun (p : Addr) => p.add (Int.toNat x165 * 1)) A110)) :: (.int .i64 x167) :: (u200 88) :: (.int .i64 x145) :: (.bool true) :: (.bool false) :: dd u138 92 5 ((u200 97) :: (.pointer (some ⟨w0.heap.size, 0, none⟩)) :: (u200 99) :: (.int .i64 x145) :: (.pointer (Option.map (fun (p : Addr) => p.add (Int.toNat x145 * 1)) A43)) :: (.int .i64 x194) :: (.pointer (Option.map (fun (p : Addr) => p.add (Int.toNat x194 * 1)) A0)) :: (.int .u8 x196) :: dd u200 105 4 ((.bool b201) :: dd u138 110 26 (un 78 ([]))))))))))).toArray, []⟩) a ∧ b201 = c202 ∧ St [] w0 w [poolE ft40 W41, rowE .i64 3 A43 c44 l45, boxE w0.heap.size [.slice A43 l45.length c44, .slice A1 p1.length c1, .int .u8 p2] 51, rowE .i64 3 A35 c36 l47, rowE .i64 3 A110 c111 l109, rowE .i64 3 Az14_116o3_5 cz14_116o3_6 l161, rowG 4 1 (.slice Az14_116o7_5 lz14_116o7_1.length cz14_116o7_6) lz14_116o7_1.length vs143]) 8 #[true, true, true, true, true, true, true, true, true, true, true, true, true, false, false, false, false, false, false, false, false] ?_ ?_
            ·rintro _ w198 ⟨b201, hq205, rfl, hS199⟩
             obtain ⟨u200, rfl⟩ := selfA_u hq205
             try dsimp only at hO204
             refine gd1 13 { dst := some 110, op := _, type := _, pos := _, after := _, guard := _ } (.bool b201) rfl hS199 (fun w hSw => by kernel_rfl) ?_
             cases b201 with
             | true =>
              try dsimp only at hO204
              refine gd1 14 { dst := some 111, op := _, type := _, pos := _, after := _, guard := _ } (.agg #[.slice A43 l45.length c44, .slice A1 p1.length c1, .int .u8 p2]) rfl hS199 (fun w hSw => run_loadG (d := _) rfl (by as_aux_lemma => kernel_rfl) (hSw.get 2 rfl) rfl rfl (by as_aux_lemma => kernel_rfl)) ?_
              refine gd1 15 { dst := some 112, op := _, type := _, pos := _, after := _, guard := _ } (.slice A35 l31.length c36) rfl hS199 (fun w hSw => by kernel_rfl) ?_
              refine gd1 16 { dst := some 113, op := _, type := _, pos := _, after := _, guard := _ } (.int .i64 x167) rfl hS199 (fun w hSw => by kernel_rfl) ?_
              obtain ⟨x214, hx215, hO204⟩ := bind_in hO204
              refine gd1 17 { dst := some 114, op := _, type := _, pos := _, after := _, guard := _ } (.pointer (Option.map (fun (p : Addr) => p.add (Int.toNat x167 * 1)) A35)) rfl hS199 (fun w hSw => run_ixaddr (E := 3) (s := 1) (k := .i64) (c := c36) rfl (by as_aux_lemma => kernel_rfl) (by as_aux_lemma => kernel_rfl) (by as_aux_lemma => kernel_rfl) (fun _ => by kernel_rfl) (ix_in hx215).1 (lt_len hn46 (ix_in hx215).2.1) (nil_len hn46 (num_nil (hS199.row 3 rfl).1))) ?_
              refine gd1 18 { dst := some 115, op := _, type := _, pos := _, after := _, guard := _ } (.int .i64 x214) rfl hS199 (fun w hSw => run_loadix rfl (by as_aux_lemma => kernel_rfl) (fun _ => by kernel_rfl) (hSw.row 3 rfl).1 hx215) ?_
              have hP216 : St _ _ w198 ([] ++ [poolE ft40 W41, rowE .i64 3 A43 c44 l45, boxE w0.heap.size [.slice A43 l45.length c44, .slice A1 p1.length c1, .int .u8 p2] 51, rowE .i64 3 A35 c36 l47, rowE .i64 3 A110 c111 l109, rowE .i64 3 Az14_116o3_5 cz14_116o3_6 l161, rowG 4 1 (.slice Az14_116o7_5 lz14_116o7_1.length cz14_116o7_6) lz14_116o7_1.length vs143]) := hS199
              obtain ⟨b218, hc217, hO204⟩ := bind_in hO204
              try dsimp only at hO204
              refine gdC 19 { dst := some 116, op := _, type := _, pos := _, after := _, guard := _ } (rBeg_R b218 w198) rfl (by as_aux_lemma => kernel_rfl) (rBeg_ok N l45 p1 p2 x214 A43 c44 A1 c1 _ hc217 w198 (hP216.vwB 1 rfl) (hP216.vwA hv1)) ?_
              rintro _ w219 ⟨rfl, hT221⟩
              have hS220 : St _ _ w219 [poolE ft40 W41, rowE .i64 3 A43 c44 l45, boxE w0.heap.size [.slice A43 l45.length c44, .slice A1 p1.length c1, .int .u8 p2] 51, rowE .i64 3 A35 c36 l47, rowE .i64 3 A110 c111 l109, rowE .i64 3 Az14_116o3_5 cz14_116o3_6 l161, rowG 4 1 (.slice Az14_116o7_5 lz14_116o7_1.length cz14_116o7_6) lz14_116o7_1.length vs143] := hS199.take _ hT221
              refine ⟨hS220, ?_⟩
              refine gd1 20 { dst := some 117, op := _, type := _, pos := _, after := _, guard := _ } (.bool b218) rfl hS220 (fun w hSw => by kernel_rfl) ?_
              refine gd_done (by as_aux_lemma => kernel_rfl) ?_
              refine gx_thenN ?_
              exact ⟨b218, selfA_i (by as_aux_lemma => kernel_rfl), (Option.some.inj hO204), hS220⟩
             | false =>
              try dsimp only at hO204
              refine gd0 14 { dst := some 111, op := _, type := _, pos := _, after := _, guard := _ } rfl hS199 ?_
              refine gd0 15 { dst := some 112, op := _, type := _, pos := _, after := _, guard := _ } rfl hS199 ?_
              refine gd0 16 { dst := some 113, op := _, type := _, pos := _, after := _, guard := _ } rfl hS199 ?_
              refine gd0 17 { dst := some 114, op := _, type := _, pos := _, after := _, guard := _ } rfl hS199 ?_
              refine gd0 18 { dst := some 115, op := _, type := _, pos := _, after := _, guard := _ } rfl hS199 ?_
              refine gd0 19 { dst := some 116, op := _, type := _, pos := _, after := _, guard := _ } rfl hS199 ?_
              refine gd1 20 { dst := some 117, op := _, type := _, pos := _, after := _, guard := _ } (.bool false) rfl hS199 (fun w hSw => by kernel_rfl) ?_
              refine gd_done (by as_aux_lemma => kernel_rfl) ?_
              refine gx_thenN ?_
              exact ⟨false, selfA_i (by as_aux_lemma => kernel_rfl), (Option.some.inj hO204), hS199⟩
            ·intro hK206
             have hP207 : St _ _ w192 ([] ++ [poolE ft40 W41, rowE .i64 3 A43 c44 l45, boxE w0.heap.size [.slice A43 l45.length c44, .slice A1 p1.length c1, .int .u8 p2] 51, rowE .i64 3 A35 c36 l47, rowE .i64 3 A110 c111 l109, rowE .i64 3 Az14_116o3_5 cz14_116o3_6 l161, rowG 4 1 (.slice Az14_116o7_5 lz14_116o7_1.length cz14_116o7_6) lz14_116o7_1.length vs143]) := hS193
             obtain ⟨b209, hc208, hE203⟩ := bind_in hE203
             try dsimp only at hE203
             refine gdC 8 { dst := some 105, op := _, type := _, pos := _, after := _, guard := _ } (rInit_R b209 w192) rfl (by as_aux_lemma => kernel_rfl) (rInit_ok N x196 _ hc208 w192 ) ?_
             rintro _ w210 ⟨rfl, hT212⟩
             have hS211 : St _ _ w210 [poolE ft40 W41, rowE .i64 3 A43 c44 l45, boxE w0.heap.size [.slice A43 l45.length c44, .slice A1 p1.length c1, .int .u8 p2] 51, rowE .i64 3 A35 c36 l47, rowE .i64 3 A110 c111 l109, rowE .i64 3 Az14_116o3_5 cz14_116o3_6 l161, rowG 4 1 (.slice Az14_116o7_5 lz14_116o7_1.length cz14_116o7_6) lz14_116o7_1.length vs143] := hS193.take _ hT212
             refine ⟨hS211, ?_⟩
             refine gd1 9 { dst := some 106, op := _, type := _, pos := _, after := _, guard := _ } (.bool b209) rfl hS211 (fun w hSw => by kernel_rfl) ?_
             cases b209 with
             | true =>
              try dsimp only at hE203
              refine gd1 10 { dst := some 107, op := _, type := _, pos := _, after := _, guard := _ } (.int .i64 x167) rfl hS211 (fun w hSw => by kernel_rfl) ?_
              rcases if_in hE203 with ⟨h213, hE203⟩ | ⟨h213, hE203⟩
              ·refine gd1 11 { dst := some 108, op := _, type := _, pos := _, after := _, guard := _ } (.bool true) rfl hS211 (fun w hSw => run_boolE (decide_eq_true h213) (by as_aux_lemma => kernel_rfl)) ?_
               refine gd1 12 { dst := some 109, op := _, type := _, pos := _, after := _, guard := _ } (.bool true) rfl hS211 (fun w hSw => by kernel_rfl) ?_
               exact gd_to hK206 (by as_aux_lemma => kernel_rfl) ⟨true, selfA_i (by as_aux_lemma => kernel_rfl), (Option.some.inj hE203), hS211⟩
              ·refine gd1 11 { dst := some 108, op := _, type := _, pos := _, after := _, guard := _ } (.bool false) rfl hS211 (fun w hSw => run_boolE (decide_eq_false h213) (by as_aux_lemma => kernel_rfl)) ?_
               refine gd1 12 { dst := some 109, op := _, type := _, pos := _, after := _, guard := _ } (.bool false) rfl hS211 (fun w hSw => by kernel_rfl) ?_
               exact gd_to hK206 (by as_aux_lemma => kernel_rfl) ⟨false, selfA_i (by as_aux_lemma => kernel_rfl), (Option.some.inj hE203), hS211⟩
             | false =>
              try dsimp only at hE203
              refine gd0 10 { dst := some 107, op := _, type := _, pos := _, after := _, guard := _ } rfl hS211 ?_
              refine gd0 11 { dst := some 108, op := _, type := _, pos := _, after := _, guard := _ } rfl hS211 ?_
              refine gd1 12 { dst := some 109, op := _, type := _, pos := _, after := _, guard := _ } (.bool false) rfl hS211 (fun w hSw => by kernel_rfl) ?_
              exact gd_to hK206 (by as_aux_lemma => kernel_rfl) ⟨false, selfA_i (by as_aux_lemma => kernel_rfl), (Option.some.inj hE203), hS211⟩
           ·rintro _ w185 ⟨b188, hq230, rfl, hS186⟩
            obtain ⟨u187, rfl⟩ := selfA_u hq230
            try dsimp only at hO191
            cases b188 with
            | true =>
             try dsimp only at hO191
             refine gx_yes (by as_aux_lemma => kernel_rfl) ?_
             refine gx_region ?_
             refine gx_kA (.slice Az14_116o3_5 lz14_116o3_1.length cz14_116o3_6) w185 (gx_kA (.int .i64 x145) w185 (gx_kA (.slice A35 l31.length c36) w185 (gx_kA (.int .i64 x167) w185 ?_)))
             obtain ⟨x222, hx223, hO191⟩ := bind_in hO191
             refine gx_vA (.pointer (Option.map (fun (p : Addr) => p.add (Int.toNat x167 * 1)) A35)) w185 (run_ixaddr (E := 3) (s := 1) (k := .i64) (c := c36) rfl (by as_aux_lemma => kernel_rfl) (by as_aux_lemma => kernel_rfl) (by as_aux_lemma => kernel_rfl) (fun _ => by kernel_rfl) (ix_in hx223).1 (lt_len hn46 (ix_in hx223).2.1) (nil_len hn46 (num_nil (hS186.row 3 rfl).1))) ?_
             refine gx_vA (.int .i64 x222) w185 (run_loadix rfl (by as_aux_lemma => kernel_rfl) (fun _ => by kernel_rfl) (hS186.row 3 rfl).1 hx223) ?_
             obtain ⟨x224, hx225, hO191⟩ := bind_in hO191
             refine gx_vA (.pointer (Option.map (fun (p : Addr) => p.add (Int.toNat x145 * 1)) Az14_116o3_5)) w185 (run_ixaddr (E := 3) (s := 1) (k := .i64) (c := cz14_116o3_6) rfl (by as_aux_lemma => kernel_rfl) (by as_aux_lemma => kernel_rfl) (by as_aux_lemma => kernel_rfl) (fun _ => by kernel_rfl) (ix_in hx225).1 (lt_len (hn139.trans (setx_len hx162).symm) (ix_in hx225).2.1) (nil_len (hn139.trans (setx_len hx162).symm) (num_nil (hS186.row 5 rfl).1))) ?_
             obtain ⟨l228, hx229, hO191⟩ := bind_in hO191
             refine gx_sA (st_storeix rfl (by as_aux_lemma => kernel_rfl) (by as_aux_lemma => kernel_rfl) (fun _ => by kernel_rfl) hS186 5 rfl hx229) ?_
             rintro w226 hS227
             have hS227 : St _ _ w226 [poolE ft40 W41, rowE .i64 3 A43 c44 l45, boxE w0.heap.size [.slice A43 l45.length c44, .slice A1 p1.length c1, .int .u8 p2] 51, rowE .i64 3 A35 c36 l47, rowE .i64 3 A110 c111 l109, rowE .i64 3 Az14_116o3_5 cz14_116o3_6 l228, rowG 4 1 (.slice Az14_116o7_5 lz14_116o7_1.length cz14_116o7_6) lz14_116o7_1.length vs143] := hS227
             refine gx_nil ?_
             refine gx_thenN ?_
             exact ⟨l228, selfA_i (by as_aux_lemma => kernel_rfl), (Option.some.inj hO191), hS227, ((hn139.trans (setx_len hx162).symm).trans (setx_len hx229).symm)⟩
            | false =>
             try dsimp only at hO191
             refine gx_no (by as_aux_lemma => kernel_rfl) ?_
             refine gx_pass ?_
             refine gx_thenN ?_
             exact ⟨l161, selfA_i (by as_aux_lemma => kernel_rfl), (Option.some.inj hO191), hS186, (hn139.trans (setx_len hx162).symm)⟩
          | false =>
           try dsimp only at hE175
           refine gx_kA (.bool true) w182 ?_
           refine gx_nil ?_
           refine gx_thenN ?_
           refine hK178 _ _ ?_
           refine gx_yes (by as_aux_lemma => kernel_rfl) ?_
           refine gx_region ?_
           refine gx_kA (.slice Az14_116o3_5 lz14_116o3_1.length cz14_116o3_6) w182 (gx_kA (.int .i64 x145) w182 (gx_kA (.int .i64 x145) w182 (gx_kA (.int .i64 (IntKind.i64.wrap (x145 + 1))) w182 ?_)))
           obtain ⟨x231, hx232, hE175⟩ := bind_in hE175
           refine gx_vA (.pointer (Option.map (fun (p : Addr) => p.add (Int.toNat x145 * 1)) Az14_116o3_5)) w182 (run_ixaddr (E := 3) (s := 1) (k := .i64) (c := cz14_116o3_6) rfl (by as_aux_lemma => kernel_rfl) (by as_aux_lemma => kernel_rfl) (by as_aux_lemma => kernel_rfl) (fun _ => by kernel_rfl) (ix_in hx232).1 (lt_len (hn139.trans (setx_len hx162).symm) (ix_in hx232).2.1) (nil_len (hn139.trans (setx_len hx162).symm) (num_nil (hS183.row 5 rfl).1))) ?_
           obtain ⟨l235, hx236, hE175⟩ := bind_in hE175
           refine gx_sA (st_storeix rfl (by as_aux_lemma => kernel_rfl) (by as_aux_lemma => kernel_rfl) (fun _ => by kernel_rfl) hS183 5 rfl hx236) ?_
           rintro w233 hS234
           have hS234 : St _ _ w233 [poolE ft40 W41, rowE .i64 3 A43 c44 l45, boxE w0.heap.size [.slice A43 l45.length c44, .slice A1 p1.length c1, .int .u8 p2] 51, rowE .i64 3 A35 c36 l47, rowE .i64 3 A110 c111 l109, rowE .i64 3 Az14_116o3_5 cz14_116o3_6 l235, rowG 4 1 (.slice Az14_116o7_5 lz14_116o7_1.length cz14_116o7_6) lz14_116o7_1.length vs143] := hS234
           refine gx_nil ?_
           refine gx_thenN ?_
           exact ⟨l235, selfA_i (by as_aux_lemma => kernel_rfl), (Option.some.inj hE175), hS234, ((hn139.trans (setx_len hx162).symm).trans (setx_len hx236).symm)⟩
         ·rintro _ w169 ⟨l173, hq259, rfl, hS170, hn172⟩
          obtain ⟨u171, rfl⟩ := selfA_u hq259
          try dsimp only at hO176
          refine gx_seq (fun K237 hK238 => ?_)
          refine gx_region ?_
          refine gx_kA (.slice Az14_116o3_5 lz14_116o3_1.length cz14_116o3_6) w169 (gx_kA (.int .i64 x145) w169 ?_)
          obtain ⟨x239, hx240, hO176⟩ := bind_in hO176
          refine gx_vA (.pointer (Option.map (fun (p : Addr) => p.add (Int.toNat x145 * 1)) Az14_116o3_5)) w169 (run_ixaddr (E := 3) (s := 1) (k := .i64) (c := cz14_116o3_6) rfl (by as_aux_lemma => kernel_rfl) (by as_aux_lemma => kernel_rfl) (by as_aux_lemma => kernel_rfl) (fun _ => by kernel_rfl) (ix_in hx240).1 (lt_len hn172 (ix_in hx240).2.1) (nil_len hn172 (num_nil (hS170.row 5 rfl).1))) ?_
          refine gx_vA (.int .i64 x239) w169 (run_loadix rfl (by as_aux_lemma => kernel_rfl) (fun _ => by kernel_rfl) (hS170.row 5 rfl).1 hx240) ?_
          rcases if_in hO176 with ⟨h241, hO176⟩ | ⟨h241, hO176⟩
          ·refine gx_vA (.bool true) w169 (run_boolE (decide_eq_true h241) (by as_aux_lemma => kernel_rfl)) ?_
           refine gx_nil ?_
           refine gx_thenN ?_
           refine hK238 _ _ ?_
           refine gx_yes (by as_aux_lemma => kernel_rfl) ?_
           refine gx_region ?_
           refine gx_kA (.slice Az14_116o7_5 lz14_116o7_1.length cz14_116o7_6) w169 (gx_kA (.slice Az14_116o3_5 lz14_116o3_1.length cz14_116o3_6) w169 (gx_kA (.int .i64 x145) w169 ?_))
           obtain ⟨x242, hx243, hO176⟩ := bind_in hO176
           refine gx_vA (.pointer (Option.map (fun (p : Addr) => p.add (Int.toNat x145 * 1)) Az14_116o3_5)) w169 (run_ixaddr (E := 3) (s := 1) (k := .i64) (c := cz14_116o3_6) rfl (by as_aux_lemma => kernel_rfl) (by as_aux_lemma => kernel_rfl) (by as_aux_lemma => kernel_rfl) (fun _ => by kernel_rfl) (ix_in hx243).1 (lt_len hn172 (ix_in hx243).2.1) (nil_len hn172 (num_nil (hS170.row 5 rfl).1))) ?_
           refine gx_vA (.int .i64 x242) w169 (run_loadix rfl (by as_aux_lemma => kernel_rfl) (fun _ => by kernel_rfl) (hS170.row 5 rfl).1 hx243) ?_
           obtain ⟨x244, hx245, hO176⟩ := bind_in hO176
           obtain ⟨g246, o247, e248, hA249, he250, h251, ha252⟩ := elem_at (e := boolE) (rowG_lies (e := boolE) hn141 (hS170.get 6 rfl)) hf144 hx245 (by decide)
           obtain rfl := h251
           have ha252 : ∀ w', Lies w' Az14_116o7_5 vs143 → w'.rangeAt g246 o247 [.bool x244] := ha252
           refine gx_vA (.pointer (some ⟨g246, o247, none⟩)) w169 (run_ixaddrN (E := 4) (s := 1) (k := .i64) (c := cz14_116o7_6) rfl (by as_aux_lemma => kernel_rfl) (by as_aux_lemma => kernel_rfl) (by as_aux_lemma => kernel_rfl) (fun _ => by kernel_rfl) (ixg_in hx245).1 (lt_len hn141 (ixg_in hx245).2.1) hA249) ?_
           obtain ⟨l253, hx254, hO176⟩ := bind_in hO176
           refine gx_sA (st_setN1 (e := boolE) (ec := [.bool x244]) 0 rfl (by as_aux_lemma => kernel_rfl) (by as_aux_lemma => kernel_rfl) rfl (fun _ => by kernel_rfl) hS170 6 rfl hn141 hf144 hA249 he250 (by decide) (rd_bool true) hx254) ?_
           rintro w255 ⟨vs257, hf258, hS256⟩
           have hS256 : St _ _ w255 [poolE ft40 W41, rowE .i64 3 A43 c44 l45, boxE w0.heap.size [.slice A43 l45.length c44, .slice A1 p1.length c1, .int .u8 p2] 51, rowE .i64 3 A35 c36 l47, rowE .i64 3 A110 c111 l109, rowE .i64 3 Az14_116o3_5 cz14_116o3_6 l173, rowG 4 1 (.slice Az14_116o7_5 lz14_116o7_1.length cz14_116o7_6) lz14_116o7_1.length vs257] := hS256
           refine gx_nil ?_
           refine gx_blkN ?_
           refine gx_thenN ?_
           refine hK154 _ _ ?_
           refine gx_region ?_
           refine gx_kA (.int .i64 x145) w255 (gx_kA (.int .i64 (IntKind.i64.wrap (x145 + 1))) w255 (gx_kA (.int .i64 (IntKind.i64.wrap (x145 + 1))) w255 ?_))
           refine gx_nil ?_
           refine gx_thenN ?_
           exact ⟨k146, Nat.lt_succ_self k146, l173, l253, (IntKind.i64.wrap (x145 + 1)), vs257, selfA_i (by as_aux_lemma => kernel_rfl), hO176, hS256, hn172, hf258, (hn141.trans (setg_len hx254).symm)⟩
          ·refine gx_vA (.bool false) w169 (run_boolE (decide_eq_false h241) (by as_aux_lemma => kernel_rfl)) ?_
           refine gx_nil ?_
           refine gx_thenN ?_
           refine hK238 _ _ ?_
           refine gx_no (by as_aux_lemma => kernel_rfl) ?_
           refine gx_pass ?_
           refine gx_blkN ?_
           refine gx_thenN ?_
           refine hK154 _ _ ?_
           refine gx_region ?_
           refine gx_kA (.int .i64 x145) w169 (gx_kA (.int .i64 (IntKind.i64.wrap (x145 + 1))) w169 (gx_kA (.int .i64 (IntKind.i64.wrap (x145 + 1))) w169 ?_))
           refine gx_nil ?_
           refine gx_thenN ?_
           exact ⟨k146, Nat.lt_succ_self k146, l173, l142, (IntKind.i64.wrap (x145 + 1)), vs143, selfA_i (by as_aux_lemma => kernel_rfl), hO176, hS170, hn172, hf144, hn141⟩
        ·refine gx_vA (.bool false) w136 (run_boolE (decide_eq_false h152) (by as_aux_lemma => kernel_rfl)) ?_
         refine gx_nil ?_
         refine gx_thenN ?_
         refine hK151 _ _ ?_
         refine gx_no (by as_aux_lemma => kernel_rfl) ?_
         refine gx_exit ?_
         refine gx_thenE ?_
         refine gx_thenE ?_
         refine gx_blkE ?_
         refine gx_thenN ?_
         exact ⟨l140, l142, vs143, selfA_i (by as_aux_lemma => kernel_rfl), (Option.some.inj hL147), (hS137.pick [0, 1, 2, 4, 5, 6] rfl rfl), hn139, hf144, hn141⟩
     ·rintro _ w122 ⟨l126, l128, vs129, hq456, rfl, hS123, hn125, hf130, hn127⟩
      obtain ⟨u124, rfl⟩ := selfA_u hq456
      try dsimp only at hO133
      refine gx_seq (fun K261 hK262 => ?_)
      refine gx_region ?_
      refine gx_kA (.slice none 0 0) w122 ?_
      refine gx_nil ?_
      refine gx_thenN ?_
      refine hK262 _ _ ?_
      obtain ⟨c274, hE275, hO276⟩ := bind_in hO133
      refine gx_cut (fun a w => ∃ (l273 : List (List Int × Int × Int × Int)) (ft266 : List Nat) (W267 : World) (A269 : Option Addr) (c270 : Nat) (vs271 : List Value), selfA (fun u265 => ⟨((u265 0) :: (u39 1) :: (.int .u8 p2) :: un 3 ((.slice none 0 0) :: (.int .i64 0) :: (.pointer (some ⟨w0.heap.size, 0, none⟩)) :: (u124 9) :: (u39 10) :: dd u265 11 3 (dd u124 14 2 ((.slice A269 l273.length c270) :: dd u265 17 5 ((u39 22) :: (.int .i64 ((p0.length : Nat) : Int)) :: (.bool false) :: (u39 25) :: (.int .i64 ((p0.length : Nat) : Int)) :: (u39 27) :: (.int .i64 ((p1.length : Nat) : Int)) :: (.bool false) :: (u39 30) :: (.int .u8 p2) :: dd u39 32 2 ((.int .i64 ((p0.length : Nat) : Int)) :: dd u39 35 25 (dd u124 60 2 ((.pointer (some ⟨w0.heap.size, 0, none⟩)) :: (u124 63) :: (.int .i64 ((l45.length : Nat) : Int)) :: (u124 65) :: (.pointer (some ⟨w0.heap.size, 0, none⟩)) :: (u124 67) :: (.int .i64 ((l45.length : Nat) : Int)) :: dd u124 69 67 (dd u265 136 77 (undef :: [])))))))))).toArray, []⟩) a ∧ l273 = c274 ∧ St [] w0 w [poolE ft266 W267, rowE .i64 3 A43 c44 l45, boxE w0.heap.size [.slice A43 l45.length c44, .slice A1 p1.length c1, .int .u8 p2] 51, rowG 55 4 (.slice A269 l273.length c270) l273.length vs271] ∧ Turn [] w0 W41 ft40 W267 ft266 ∧ (fEach enccalamusref10Seq vs271 l273).rd W267 ft266) ?_ ?_
      ·refine gx_seq (fun K277 hK278 => ?_)
       refine gx_region ?_
       refine gx_kA (.int .i64 0) w122 ?_
       refine gx_nil ?_
       refine gx_thenN ?_
       refine hK278 _ _ ?_
       refine gx_block ?_
       have hS279 : St _ _ w122 [poolE ft40 W41, rowE .i64 3 A43 c44 l45, boxE w0.heap.size [.slice A43 l45.length c44, .slice A1 p1.length c1, .int .u8 p2] 51, rowE .i64 3 A110 c111 l109, rowE .i64 3 Az14_116o3_5 cz14_116o3_6 l126, rowG 4 1 (.slice Az14_116o7_5 lz14_116o7_1.length cz14_116o7_6) lz14_116o7_1.length vs129, rowG 55 4 (.slice none (([] : List (List Int × Int × Int × Int)).length) 0) (([] : List (List Int × Int × Int × Int)).length) ([])] := hS123.nilrowN 55 4
       have hf280 : (fEach enccalamusref10Seq [] []).rd W41 ft40 := each_nil
       refine gx_loop (fun k a w => ∃ (l291 : List (List Int × Int × Int × Int)) (x292 : Int) (ft284 : List Nat) (W285 : World) (A287 : Option Addr) (c288 : Nat) (vs289 : List Value), selfA (fun u283 => ⟨((.slice A0 p0.length c0) :: (u39 1) :: (.int .u8 p2) :: un 3 ((.slice none 0 0) :: (.int .i64 0) :: (.pointer (some ⟨w0.heap.size, 0, none⟩)) :: (u124 9) :: (u39 10) :: (.slice A110 l109.length c111) :: (.slice Az14_116o3_5 lz14_116o3_1.length cz14_116o3_6) :: (.slice Az14_116o7_5 lz14_116o7_1.length cz14_116o7_6) :: dd u124 14 2 ((.slice A287 l291.length c288) :: (.int .i64 x292) :: dd u283 18 4 ((u39 22) :: (.int .i64 ((p0.length : Nat) : Int)) :: (.bool false) :: (u39 25) :: (.int .i64 ((p0.length : Nat) : Int)) :: (u39 27) :: (.int .i64 ((p1.length : Nat) : Int)) :: (.bool false) :: (u39 30) :: (.int .u8 p2) :: dd u39 32 2 ((.int .i64 ((p0.length : Nat) : Int)) :: dd u39 35 25 (dd u124 60 2 ((.pointer (some ⟨w0.heap.size, 0, none⟩)) :: (u124 63) :: (.int .i64 ((l45.length : Nat) : Int)) :: (u124 65) :: (.pointer (some ⟨w0.heap.size, 0, none⟩)) :: (u124 67) :: (.int .i64 ((l45.length : Nat) : Int)) :: dd u124 69 67 (dd u283 136 77 (undef :: []))))))))).toArray, []⟩) a ∧ rSeqs_L3 N p0 p1 p2 l45 l109 l126 l128 k l291 x292 = some c274 ∧ St [] w0 w [poolE ft284 W285, rowE .i64 3 A43 c44 l45, boxE w0.heap.size [.slice A43 l45.length c44, .slice A1 p1.length c1, .int .u8 p2] 51, rowE .i64 3 A110 c111 l109, rowE .i64 3 Az14_116o3_5 cz14_116o3_6 l126, rowG 4 1 (.slice Az14_116o7_5 lz14_116o7_1.length cz14_116o7_6) lz14_116o7_1.length vs129, rowG 55 4 (.slice A287 l291.length c288) l291.length vs289] ∧ Turn [] w0 W41 ft40 W285 ft284 ∧ (fEach enccalamusref10Seq vs289 l291).rd W285 ft284) N ?_ ?_
       ·exact ⟨([] : List (List Int × Int × Int × Int)), 0, ft40, W41, none, 0, ([]), selfA_i (by as_aux_lemma => kernel_rfl), hE275, hS279, (Turn.refl _ _ _ _), hf280⟩
       ·rintro k293 _ w281 ⟨l291, x292, ft284, W285, A287, c288, vs289, hq451, hL294, hS282, hT286, hf290⟩
        obtain ⟨u283, rfl⟩ := selfA_u hq451
        cases k293 with
        | zero => cases hL294
        | succ k293 =>
         first | rw [rSeqs_L3] at hL294 | unfold rSeqs_L3 at hL294
         refine gx_seq (fun K295 hK296 => ?_)
         refine gx_seq (fun K297 hK298 => ?_)
         refine gx_region ?_
         refine gx_kA (.int .i64 x292) w281 (gx_kA (.pointer (some ⟨w0.heap.size, 0, none⟩)) w281 ?_)
         refine gx_vA (.slice A43 l45.length c44) w281 (run_load1 rfl (by as_aux_lemma => kernel_rfl) (fun _ => by kernel_rfl) (hS282.box 2 rfl 0 rfl)) ?_
         refine gx_kA (.int .i64 ((l45.length : Nat) : Int)) w281 ?_
         rcases if_in hL294 with ⟨h299, hL294⟩ | ⟨h299, hL294⟩
         ·refine gx_vA (.bool true) w281 (run_boolE (decide_eq_true h299) (by as_aux_lemma => kernel_rfl)) ?_
          refine gx_nil ?_
          refine gx_thenN ?_
          refine hK298 _ _ ?_
          refine gx_yes (by as_aux_lemma => kernel_rfl) ?_
          refine gx_pass ?_
          refine gx_thenN ?_
          refine hK296 _ _ ?_
          obtain ⟨c311, hE312, hO313⟩ := bind_in hL294
          refine gx_cut (fun a w => ∃ (l310 : List (List Int × Int × Int × Int)) (ft303 : List Nat) (W304 : World) (A306 : Option Addr) (c307 : Nat) (vs308 : List Value), selfA (fun u302 => ⟨((.slice A0 p0.length c0) :: (u39 1) :: (.int .u8 p2) :: un 3 ((.slice none 0 0) :: (.int .i64 0) :: (.pointer (some ⟨w0.heap.size, 0, none⟩)) :: (u124 9) :: (u39 10) :: (.slice A110 l109.length c111) :: (.slice Az14_116o3_5 lz14_116o3_1.length cz14_116o3_6) :: (.slice Az14_116o7_5 lz14_116o7_1.length cz14_116o7_6) :: dd u124 14 2 ((.slice A306 l310.length c307) :: (.int .i64 x292) :: dd u302 18 4 ((u39 22) :: (.int .i64 ((p0.length : Nat) : Int)) :: (.bool false) :: (u39 25) :: (.int .i64 ((p0.length : Nat) : Int)) :: (u39 27) :: (.int .i64 ((p1.length : Nat) : Int)) :: (.bool false) :: (u39 30) :: (.int .u8 p2) :: dd u39 32 2 ((.int .i64 ((p0.length : Nat) : Int)) :: dd u39 35 25 (dd u124 60 2 ((.pointer (some ⟨w0.heap.size, 0, none⟩)) :: (u124 63) :: (.int .i64 ((l45.length : Nat) : Int)) :: (u124 65) :: (.pointer (some ⟨w0.heap.size, 0, none⟩)) :: (u124 67) :: (.int .i64 ((l45.length : Nat) : Int)) :: dd u124 69 67 ((.int .i64 x292) :: (.pointer (some ⟨w0.heap.size, 0, none⟩)) :: (u302 138) :: (.int .i64 ((l45.length : Nat) : Int)) :: (.bool true) :: dd u283 141 2 (dd u302 143 70 (undef :: [])))))))))).toArray, []⟩) a ∧ l310 = c311 ∧ St [] w0 w [poolE ft303 W304, rowE .i64 3 A43 c44 l45, boxE w0.heap.size [.slice A43 l45.length c44, .slice A1 p1.length c1, .int .u8 p2] 51, rowE .i64 3 A110 c111 l109, rowE .i64 3 Az14_116o3_5 cz14_116o3_6 l126, rowG 4 1 (.slice Az14_116o7_5 lz14_116o7_1.length cz14_116o7_6) lz14_116o7_1.length vs129, rowG 55 4 (.slice A306 l310.length c307) l310.length vs308] ∧ Turn [] w0 W285 ft284 W304 ft303 ∧ (fEach enccalamusref10Seq vs308 l310).rd W304 ft303) ?_ ?_
          ·refine gx_block ?_
           refine gx_seq (fun K314 hK315 => ?_)
           refine gx_seq (fun K316 hK317 => ?_)
           refine gx_region ?_
           refine gx_kA (.slice Az14_116o7_5 lz14_116o7_1.length cz14_116o7_6) w281 (gx_kA (.int .i64 x292) w281 ?_)
           obtain ⟨x318, hx319, hE312⟩ := bind_in hE312
           obtain ⟨g320, o321, e322, hA323, he324, h325, ha326⟩ := elem_at (e := boolE) (rowG_lies (e := boolE) hn127 (hS282.get 5 rfl)) (hT286.pool hf130) hx319 (by decide)
           obtain rfl := h325
           have ha326 : ∀ w', Lies w' Az14_116o7_5 vs129 → w'.rangeAt g320 o321 [.bool x318] := ha326
           refine gx_vA (.pointer (some ⟨g320, o321, none⟩)) w281 (run_ixaddrN (E := 4) (s := 1) (k := .i64) (c := cz14_116o7_6) rfl (by as_aux_lemma => kernel_rfl) (by as_aux_lemma => kernel_rfl) (by as_aux_lemma => kernel_rfl) (fun _ => by kernel_rfl) (ixg_in hx319).1 (lt_len hn127 (ixg_in hx319).2.1) hA323) ?_
           refine gx_vA (.bool x318) w281 (run_loadN1 0 rfl (by as_aux_lemma => kernel_rfl) (fun _ => by kernel_rfl) (ha326 _ (rowG_lies (e := boolE) hn127 (hS282.get 5 rfl))) rfl) ?_
           refine gx_nil ?_
           refine gx_thenN ?_
           refine hK317 _ _ ?_
           cases x318 with
           | true =>
            try dsimp only at hE312
            refine gx_yes (by as_aux_lemma => kernel_rfl) ?_
            refine gx_exit ?_
            refine gx_thenE ?_
            refine gx_blkE ?_
            refine gx_thenN ?_
            exact ⟨l291, ft284, W285, A287, c288, vs289, selfA_i (by as_aux_lemma => kernel_rfl), (Option.some.inj hE312), hS282, (Turn.refl _ _ _ _), hf290⟩
           | false =>
            try dsimp only at hE312
            refine gx_no (by as_aux_lemma => kernel_rfl) ?_
            refine gx_pass ?_
            refine gx_thenN ?_
            refine hK315 _ _ ?_
            refine gx_seq (fun K327 hK328 => ?_)
            refine gd_start (fun w => St [] w0 w [rowE .i64 3 A43 c44 l45, boxE w0.heap.size [.slice A43 l45.length c44, .slice A1 p1.length c1, .int .u8 p2] 51, rowE .i64 3 A110 c111 l109, rowE .i64 3 Az14_116o3_5 cz14_116o3_6 l126, rowG 4 1 (.slice Az14_116o7_5 lz14_116o7_1.length cz14_116o7_6) lz14_116o7_1.length vs129, rowG 55 4 (.slice A287 l291.length c288) l291.length vs289]) 14 #[false, false, false, false, false, false, false, false, false, false, false, false, false, false] (by as_aux_lemma => kernel_rfl) (by as_aux_lemma => kernel_rfl) ?_
            have hS331 := hS282.drew
            generalize w281.drew = w330 at hS331 ⊢
            obtain ⟨xz31_328o2_3, hcz31_328o2_2, hE312⟩ := bind_in hE312
            try dsimp only at hE312
            obtain ⟨xz31_328o5_3, hcz31_328o5_2, hE312⟩ := bind_in hE312
            try dsimp only at hE312
            obtain ⟨xz31_328o9_3, hcz31_328o9_2, hE312⟩ := bind_in hE312
            try dsimp only at hE312
            obtain ⟨xz31_328o10_3, hcz31_328o10_2, hE312⟩ := bind_in hE312
            try dsimp only at hE312
            refine gd_share (X := Nat) (fun gz31_328B0 => ⟨((.slice A0 p0.length c0) :: (u39 1) :: (.int .u8 p2) :: un 3 ((.slice none 0 0) :: (.int .i64 0) :: (.pointer (some ⟨w0.heap.size, 0, none⟩)) :: (u124 9) :: (u39 10) :: (.slice A110 l109.length c111) :: (.slice Az14_116o3_5 lz14_116o3_1.length cz14_116o3_6) :: (.slice Az14_116o7_5 lz14_116o7_1.length cz14_116o7_6) :: dd u124 14 2 ((.slice A287 l291.length c288) :: (.int .i64 x292) :: (.pointer (some ⟨gz31_328B0, 0, none⟩)) :: dd u283 19 3 ((u39 22) :: (.int .i64 ((p0.length : Nat) : Int)) :: (.bool false) :: (u39 25) :: (.int .i64 ((p0.length : Nat) : Int)) :: (u39 27) :: (.int .i64 ((p1.length : Nat) : Int)) :: (.bool false) :: (u39 30) :: (.int .u8 p2) :: dd u39 32 2 ((.int .i64 ((p0.length : Nat) : Int)) :: dd u39 35 25 (dd u124 60 2 ((.pointer (some ⟨w0.heap.size, 0, none⟩)) :: (u124 63) :: (.int .i64 ((l45.length : Nat) : Int)) :: (u124 65) :: (.pointer (some ⟨w0.heap.size, 0, none⟩)) :: (u124 67) :: (.int .i64 ((l45.length : Nat) : Int)) :: dd u124 69 67 ((.int .i64 x292) :: (.pointer (some ⟨w0.heap.size, 0, none⟩)) :: (.slice A43 l45.length c44) :: (.int .i64 ((l45.length : Nat) : Int)) :: (.bool true) :: dd u283 141 2 ((.slice Az14_116o7_5 lz14_116o7_1.length cz14_116o7_6) :: (.int .i64 x292) :: (.pointer (some ⟨g320, o321, none⟩)) :: (.bool false) :: (.agg #[.slice A43 l45.length c44, .slice A1 p1.length c1, .int .u8 p2]) :: (.int .i64 x292) :: (.int .u8 xz31_328o2_3) :: (.agg #[.slice A43 l45.length c44, .slice A1 p1.length c1, .int .u8 p2]) :: (.int .i64 x292) :: (.int .u8 xz31_328o5_3) :: (.agg #[.slice A43 l45.length c44, .slice A1 p1.length c1, .int .u8 p2]) :: (.int .i64 x292) :: (.int .i64 (IntKind.i64.wrap (x292 - 1))) :: (.int .u8 xz31_328o9_3) :: (.int .u8 xz31_328o10_3) :: (.agg #[.slice none 0 0, .int .u8 xz31_328o2_3, .int .u8 xz31_328o10_3, .int .u8 0]) :: dd u283 159 54 (undef :: [])))))))))).toArray, []⟩) (fun gz31_328B0 w => St [] w0 w [poolE ft284 W285, rowE .i64 3 A43 c44 l45, boxE w0.heap.size [.slice A43 l45.length c44, .slice A1 p1.length c1, .int .u8 p2] 51, rowE .i64 3 A110 c111 l109, rowE .i64 3 Az14_116o3_5 cz14_116o3_6 l126, rowG 4 1 (.slice Az14_116o7_5 lz14_116o7_1.length cz14_116o7_6) lz14_116o7_1.length vs129, rowG 55 4 (.slice A287 l291.length c288) l291.length vs289, boxE gz31_328B0 [.slice none 0 0, .int .u8 xz31_328o2_3, .int .u8 xz31_328o10_3, .int .u8 0] 55]) ?_ ?_
            ·rintro gz31_328B0 w332 hS333
             have hS333 : St _ _ w332 [poolE ft284 W285, rowE .i64 3 A43 c44 l45, boxE w0.heap.size [.slice A43 l45.length c44, .slice A1 p1.length c1, .int .u8 p2] 51, rowE .i64 3 A110 c111 l109, rowE .i64 3 Az14_116o3_5 cz14_116o3_6 l126, rowG 4 1 (.slice Az14_116o7_5 lz14_116o7_1.length cz14_116o7_6) lz14_116o7_1.length vs129, rowG 55 4 (.slice A287 l291.length c288) l291.length vs289, boxE gz31_328B0 [.slice none 0 0, .int .u8 xz31_328o2_3, .int .u8 xz31_328o10_3, .int .u8 0] 55] := hS333
             show WQ _ _ ⟨((.slice A0 p0.length c0) :: (u39 1) :: (.int .u8 p2) :: un 3 ((.slice none 0 0) :: (.int .i64 0) :: (.pointer (some ⟨w0.heap.size, 0, none⟩)) :: (u124 9) :: (u39 10) :: (.slice A110 l109.length c111) :: (.slice Az14_116o3_5 lz14_116o3_1.length cz14_116o3_6) :: (.slice Az14_116o7_5 lz14_116o7_1.length cz14_116o7_6) :: dd u124 14 2 ((.slice A287 l291.length c288) :: (.int .i64 x292) :: (.pointer (some ⟨gz31_328B0, 0, none⟩)) :: dd u283 19 3 ((u39 22) :: (.int .i64 ((p0.length : Nat) : Int)) :: (.bool false) :: (u39 25) :: (.int .i64 ((p0.length : Nat) : Int)) :: (u39 27) :: (.int .i64 ((p1.length : Nat) : Int)) :: (.bool false) :: (u39 30) :: (.int .u8 p2) :: dd u39 32 2 ((.int .i64 ((p0.length : Nat) : Int)) :: dd u39 35 25 (dd u124 60 2 ((.pointer (some ⟨w0.heap.size, 0, none⟩)) :: (u124 63) :: (.int .i64 ((l45.length : Nat) : Int)) :: (u124 65) :: (.pointer (some ⟨w0.heap.size, 0, none⟩)) :: (u124 67) :: (.int .i64 ((l45.length : Nat) : Int)) :: dd u124 69 67 ((.int .i64 x292) :: (.pointer (some ⟨w0.heap.size, 0, none⟩)) :: (.slice A43 l45.length c44) :: (.int .i64 ((l45.length : Nat) : Int)) :: (.bool true) :: dd u283 141 2 ((.slice Az14_116o7_5 lz14_116o7_1.length cz14_116o7_6) :: (.int .i64 x292) :: (.pointer (some ⟨g320, o321, none⟩)) :: (.bool false) :: (.agg #[.slice A43 l45.length c44, .slice A1 p1.length c1, .int .u8 p2]) :: (.int .i64 x292) :: (.int .u8 xz31_328o2_3) :: (.agg #[.slice A43 l45.length c44, .slice A1 p1.length c1, .int .u8 p2]) :: (.int .i64 x292) :: (.int .u8 xz31_328o5_3) :: (.agg #[.slice A43 l45.length c44, .slice A1 p1.length c1, .int .u8 p2]) :: (.int .i64 x292) :: (.int .i64 (IntKind.i64.wrap (x292 - 1))) :: (.int .u8 xz31_328o9_3) :: (.int .u8 xz31_328o10_3) :: (.agg #[.slice none 0 0, .int .u8 xz31_328o2_3, .int .u8 xz31_328o10_3, .int .u8 0]) :: dd u283 159 54 (undef :: [])))))))))).toArray, []⟩ _
             refine gx_thenN ?_
             refine hK328 _ _ ?_
             refine gx_seq (fun K334 hK335 => ?_)
             refine gx_region ?_
             refine gx_kA (.int .i64 x292) w332 (gx_kA (.int .i64 x292) w332 ?_)
             refine gx_nil ?_
             refine gx_thenN ?_
             refine hK335 _ _ ?_
             obtain ⟨c346, hE347, hO348⟩ := bind_in hE312
             refine gx_cut (fun a w => ∃ (l344 : List Int) (x345 : Int) (ft339 : List Nat) (W340 : World) (A342 : Option Addr) (c343 : Nat), selfA (fun u338 => ⟨((.slice A0 p0.length c0) :: (u39 1) :: (.int .u8 p2) :: un 3 ((.slice none 0 0) :: (.int .i64 0) :: (.pointer (some ⟨w0.heap.size, 0, none⟩)) :: (u124 9) :: (u39 10) :: (.slice A110 l109.length c111) :: (.slice Az14_116o3_5 lz14_116o3_1.length cz14_116o3_6) :: (.slice Az14_116o7_5 lz14_116o7_1.length cz14_116o7_6) :: dd u124 14 2 ((.slice A287 l291.length c288) :: (.int .i64 x292) :: (.pointer (some ⟨gz31_328B0, 0, none⟩)) :: (.int .i64 x345) :: (u338 20) :: (u283 21) :: (u39 22) :: (.int .i64 ((p0.length : Nat) : Int)) :: (.bool false) :: (u39 25) :: (.int .i64 ((p0.length : Nat) : Int)) :: (u39 27) :: (.int .i64 ((p1.length : Nat) : Int)) :: (.bool false) :: (u39 30) :: (.int .u8 p2) :: dd u39 32 2 ((.int .i64 ((p0.length : Nat) : Int)) :: dd u39 35 25 (dd u124 60 2 ((.pointer (some ⟨w0.heap.size, 0, none⟩)) :: (u124 63) :: (.int .i64 ((l45.length : Nat) : Int)) :: (u124 65) :: (.pointer (some ⟨w0.heap.size, 0, none⟩)) :: (u124 67) :: (.int .i64 ((l45.length : Nat) : Int)) :: dd u124 69 67 ((.int .i64 x292) :: (.pointer (some ⟨w0.heap.size, 0, none⟩)) :: (u338 138) :: (.int .i64 ((l45.length : Nat) : Int)) :: (.bool true) :: dd u283 141 2 ((u338 143) :: (.int .i64 x292) :: (u338 145) :: (.bool false) :: (u338 147) :: (.int .i64 x292) :: (.int .u8 xz31_328o2_3) :: (u338 150) :: (.int .i64 x292) :: (.int .u8 xz31_328o5_3) :: (u338 153) :: (.int .i64 x292) :: (.int .i64 (IntKind.i64.wrap (x292 - 1))) :: (.int .u8 xz31_328o9_3) :: (.int .u8 xz31_328o10_3) :: (u338 158) :: (.int .i64 x292) :: dd u338 160 18 (dd u283 178 35 (undef :: [])))))))))).toArray, []⟩) a ∧ (l344, x345) = c346 ∧ St [] w0 w [poolE ft339 W340, rowE .i64 3 A43 c44 l45, boxE w0.heap.size [.slice A43 l45.length c44, .slice A1 p1.length c1, .int .u8 p2] 51, rowE .i64 3 A342 c343 l344, boxE gz31_328B0 [.slice A342 l344.length c343, .int .u8 xz31_328o2_3, .int .u8 xz31_328o10_3, .int .u8 0] 55, rowE .i64 3 A110 c111 l109, rowE .i64 3 Az14_116o3_5 cz14_116o3_6 l126, rowG 4 1 (.slice Az14_116o7_5 lz14_116o7_1.length cz14_116o7_6) lz14_116o7_1.length vs129, rowG 55 4 (.slice A287 l291.length c288) l291.length vs289] ∧ Turn [] w0 W285 ft284 W340 ft339) ?_ ?_
             ·refine gx_seq (fun K349 hK350 => ?_)
              refine gx_region ?_
              refine gx_kA (.int .i64 x292) w332 (gx_kA (.int .i64 x292) w332 ?_)
              refine gx_nil ?_
              refine gx_thenN ?_
              refine hK350 _ _ ?_
              refine gx_block ?_
              have hS362 : St _ _ w332 [poolE ft284 W285, rowE .i64 3 A43 c44 l45, boxE w0.heap.size [.slice A43 l45.length c44, .slice A1 p1.length c1, .int .u8 p2] 51, rowE .i64 3 A110 c111 l109, rowE .i64 3 Az14_116o3_5 cz14_116o3_6 l126, rowG 4 1 (.slice Az14_116o7_5 lz14_116o7_1.length cz14_116o7_6) lz14_116o7_1.length vs129, rowG 55 4 (.slice A287 l291.length c288) l291.length vs289, boxE gz31_328B0 [.slice none 0 0, .int .u8 xz31_328o2_3, .int .u8 xz31_328o10_3, .int .u8 0] 55, rowE .i64 3 none 0 ([])] := hS333.nilrow .i64 3
              refine gx_loop (fun k a w => ∃ (l359 : List Int) (x360 : Int) (x361 : Int) (ft354 : List Nat) (W355 : World) (A357 : Option Addr) (c358 : Nat), selfA (fun u353 => ⟨((.slice A0 p0.length c0) :: (u39 1) :: (.int .u8 p2) :: un 3 ((.slice none 0 0) :: (.int .i64 0) :: (.pointer (some ⟨w0.heap.size, 0, none⟩)) :: (u124 9) :: (u39 10) :: (.slice A110 l109.length c111) :: (.slice Az14_116o3_5 lz14_116o3_1.length cz14_116o3_6) :: (.slice Az14_116o7_5 lz14_116o7_1.length cz14_116o7_6) :: dd u124 14 2 ((.slice A287 l291.length c288) :: (.int .i64 x292) :: (.pointer (some ⟨gz31_328B0, 0, none⟩)) :: (.int .i64 x360) :: (.int .i64 x361) :: (u283 21) :: (u39 22) :: (.int .i64 ((p0.length : Nat) : Int)) :: (.bool false) :: (u39 25) :: (.int .i64 ((p0.length : Nat) : Int)) :: (u39 27) :: (.int .i64 ((p1.length : Nat) : Int)) :: (.bool false) :: (u39 30) :: (.int .u8 p2) :: dd u39 32 2 ((.int .i64 ((p0.length : Nat) : Int)) :: dd u39 35 25 (dd u124 60 2 ((.pointer (some ⟨w0.heap.size, 0, none⟩)) :: (u124 63) :: (.int .i64 ((l45.length : Nat) : Int)) :: (u124 65) :: (.pointer (some ⟨w0.heap.size, 0, none⟩)) :: (u124 67) :: (.int .i64 ((l45.length : Nat) : Int)) :: dd u124 69 67 ((.int .i64 x292) :: (.pointer (some ⟨w0.heap.size, 0, none⟩)) :: (u353 138) :: (.int .i64 ((l45.length : Nat) : Int)) :: (.bool true) :: dd u283 141 2 ((u353 143) :: (.int .i64 x292) :: (u353 145) :: (.bool false) :: (u353 147) :: (.int .i64 x292) :: (.int .u8 xz31_328o2_3) :: (u353 150) :: (.int .i64 x292) :: (.int .u8 xz31_328o5_3) :: (u353 153) :: (.int .i64 x292) :: (.int .i64 (IntKind.i64.wrap (x292 - 1))) :: (.int .u8 xz31_328o9_3) :: (.int .u8 xz31_328o10_3) :: (u353 158) :: (.int .i64 x292) :: (.int .i64 x292) :: dd u353 161 17 (dd u283 178 35 (undef :: [])))))))))).toArray, []⟩) a ∧ rSeqs_L4 N l45 l126 k l359 x360 x361 = some c346 ∧ St [] w0 w [poolE ft354 W355, rowE .i64 3 A43 c44 l45, boxE w0.heap.size [.slice A43 l45.length c44, .slice A1 p1.length c1, .int .u8 p2] 51, rowE .i64 3 A357 c358 l359, boxE gz31_328B0 [.slice A357 l359.length c358, .int .u8 xz31_328o2_3, .int .u8 xz31_328o10_3, .int .u8 0] 55, rowE .i64 3 A110 c111 l109, rowE .i64 3 Az14_116o3_5 cz14_116o3_6 l126, rowG 4 1 (.slice Az14_116o7_5 lz14_116o7_1.length cz14_116o7_6) lz14_116o7_1.length vs129, rowG 55 4 (.slice A287 l291.length c288) l291.length vs289] ∧ Turn [] w0 W285 ft284 W355 ft354) N ?_ ?_
              ·exact ⟨([]), x292, x292, ft284, W285, none, 0, selfA_i (by as_aux_lemma => kernel_rfl), hE347, (hS362.pick [0, 1, 2, 8, 7, 3, 4, 5, 6] rfl rfl), (Turn.refl _ _ _ _)⟩
              ·rintro k363 _ w351 ⟨l359, x360, x361, ft354, W355, A357, c358, hq382, hL364, hS352, hT356⟩
               obtain ⟨u353, rfl⟩ := selfA_u hq382
               cases k363 with
               | zero => cases hL364
               | succ k363 =>
                first | rw [rSeqs_L4] at hL364 | unfold rSeqs_L4 at hL364
                refine gx_seq (fun K365 hK366 => ?_)
                refine gx_seq (fun K367 hK368 => ?_)
                refine gx_region ?_
                refine gx_kA (.int .i64 x361) w351 ?_
                rcases if_in hL364 with ⟨h369, hL364⟩ | ⟨h369, hL364⟩
                ·refine gx_vA (.bool true) w351 (run_boolE (decide_eq_true h369) (by as_aux_lemma => kernel_rfl)) ?_
                 refine gx_nil ?_
                 refine gx_thenN ?_
                 refine hK368 _ _ ?_
                 refine gx_yes (by as_aux_lemma => kernel_rfl) ?_
                 refine gx_pass ?_
                 refine gx_thenN ?_
                 refine hK366 _ _ ?_
                 refine gx_seq (fun K370 hK371 => ?_)
                 refine gx_block ?_
                 refine gx_seq (fun K372 hK373 => ?_)
                 refine gd_start (fun w => St [] w0 w [rowE .i64 3 A43 c44 l45, boxE w0.heap.size [.slice A43 l45.length c44, .slice A1 p1.length c1, .int .u8 p2] 51, rowE .i64 3 A110 c111 l109, rowE .i64 3 Az14_116o3_5 cz14_116o3_6 l126, rowG 4 1 (.slice Az14_116o7_5 lz14_116o7_1.length cz14_116o7_6) lz14_116o7_1.length vs129, rowG 55 4 (.slice A287 l291.length c288) l291.length vs289]) 11 #[false, false, false, false, false, false, false, false, false, false, false] (by as_aux_lemma => kernel_rfl) (by as_aux_lemma => kernel_rfl) ?_
                 have hS376 := hS352.drew
                 generalize w351.drew = w375 at hS376 ⊢
                 obtain ⟨xz36_373o5_1, hxz36_373o5_2, hL364⟩ := bind_in hL364
                 obtain ⟨lz36_373o8_1, haz36_373o8_2, hL364⟩ := bind_in hL364
                 refine gd_share (X := Nat × (Option Addr) × Nat) (fun ⟨gz36_373B0, Az36_373o8_4, cz36_373o8_5⟩ => ⟨((.slice A0 p0.length c0) :: (u39 1) :: (.int .u8 p2) :: un 3 ((.slice none 0 0) :: (.int .i64 0) :: (.pointer (some ⟨w0.heap.size, 0, none⟩)) :: (u124 9) :: (u39 10) :: (.slice A110 l109.length c111) :: (.slice Az14_116o3_5 lz14_116o3_1.length cz14_116o3_6) :: (.slice Az14_116o7_5 lz14_116o7_1.length cz14_116o7_6) :: dd u124 14 2 ((.slice A287 l291.length c288) :: (.int .i64 x292) :: (.pointer (some ⟨gz31_328B0, 0, none⟩)) :: (.int .i64 x360) :: (.int .i64 x361) :: (u283 21) :: (u39 22) :: (.int .i64 ((p0.length : Nat) : Int)) :: (.bool false) :: (u39 25) :: (.int .i64 ((p0.length : Nat) : Int)) :: (u39 27) :: (.int .i64 ((p1.length : Nat) : Int)) :: (.bool false) :: (u39 30) :: (.int .u8 p2) :: dd u39 32 2 ((.int .i64 ((p0.length : Nat) : Int)) :: dd u39 35 25 (dd u124 60 2 ((.pointer (some ⟨w0.heap.size, 0, none⟩)) :: (u124 63) :: (.int .i64 ((l45.length : Nat) : Int)) :: (u124 65) :: (.pointer (some ⟨w0.heap.size, 0, none⟩)) :: (u124 67) :: (.int .i64 ((l45.length : Nat) : Int)) :: dd u124 69 67 ((.int .i64 x292) :: (.pointer (some ⟨w0.heap.size, 0, none⟩)) :: (u353 138) :: (.int .i64 ((l45.length : Nat) : Int)) :: (.bool true) :: dd u283 141 2 ((u353 143) :: (.int .i64 x292) :: (u353 145) :: (.bool false) :: (u353 147) :: (.int .i64 x292) :: (.int .u8 xz31_328o2_3) :: (u353 150) :: (.int .i64 x292) :: (.int .u8 xz31_328o5_3) :: (u353 153) :: (.int .i64 x292) :: (.int .i64 (IntKind.i64.wrap (x292 - 1))) :: (.int .u8 xz31_328o9_3) :: (.int .u8 xz31_328o10_3) :: (u353 158) :: (.int .i64 x292) :: (.int .i64 x292) :: (.int .i64 x361) :: (.bool true) :: dd u353 163 4 ((.pointer (some ⟨gz31_328B0, 0, none⟩)) :: (.slice A357 l359.length c358) :: (.pointer (some ⟨w0.heap.size, 0, none⟩)) :: (.slice A43 l45.length c44) :: (.int .i64 x361) :: (.pointer (Option.map (fun (p : Addr) => p.add (Int.toNat x361 * 1)) A43)) :: (.int .i64 xz36_373o5_1) :: (.slice (some ⟨gz36_373B0, 0, none⟩) (([xz36_373o5_1]).length) 1) :: (.slice Az36_373o8_4 lz36_373o8_1.length cz36_373o8_5) :: (.pointer (some ⟨gz31_328B0, 0, none⟩)) :: (u353 177) :: dd u283 178 35 (undef :: [])))))))))).toArray, []⟩) (fun ⟨gz36_373B0, Az36_373o8_4, cz36_373o8_5⟩ w => St [] w0 w [poolE ft354 W355, rowE .i64 3 A43 c44 l45, boxE w0.heap.size [.slice A43 l45.length c44, .slice A1 p1.length c1, .int .u8 p2] 51, rowE .i64 3 Az36_373o8_4 cz36_373o8_5 lz36_373o8_1, boxE gz31_328B0 [.slice Az36_373o8_4 lz36_373o8_1.length cz36_373o8_5, .int .u8 xz31_328o2_3, .int .u8 xz31_328o10_3, .int .u8 0] 55, rowE .i64 3 A110 c111 l109, rowE .i64 3 Az14_116o3_5 cz14_116o3_6 l126, rowG 4 1 (.slice Az14_116o7_5 lz14_116o7_1.length cz14_116o7_6) lz14_116o7_1.length vs129, rowG 55 4 (.slice A287 l291.length c288) l291.length vs289, rowE .i64 3 (some ⟨gz36_373B0, 0, none⟩) 1 ([xz36_373o5_1])]) ?_ ?_
                 ·rintro ⟨gz36_373B0, Az36_373o8_4, cz36_373o8_5⟩ w377 hS378
                  have hS378 : St _ _ w377 [poolE ft354 W355, rowE .i64 3 A43 c44 l45, boxE w0.heap.size [.slice A43 l45.length c44, .slice A1 p1.length c1, .int .u8 p2] 51, rowE .i64 3 Az36_373o8_4 cz36_373o8_5 lz36_373o8_1, boxE gz31_328B0 [.slice Az36_373o8_4 lz36_373o8_1.length cz36_373o8_5, .int .u8 xz31_328o2_3, .int .u8 xz31_328o10_3, .int .u8 0] 55, rowE .i64 3 A110 c111 l109, rowE .i64 3 Az14_116o3_5 cz14_116o3_6 l126, rowG 4 1 (.slice Az14_116o7_5 lz14_116o7_1.length cz14_116o7_6) lz14_116o7_1.length vs129, rowG 55 4 (.slice A287 l291.length c288) l291.length vs289, rowE .i64 3 (some ⟨gz36_373B0, 0, none⟩) 1 ([xz36_373o5_1])] := hS378
                  show WQ _ _ ⟨((.slice A0 p0.length c0) :: (u39 1) :: (.int .u8 p2) :: un 3 ((.slice none 0 0) :: (.int .i64 0) :: (.pointer (some ⟨w0.heap.size, 0, none⟩)) :: (u124 9) :: (u39 10) :: (.slice A110 l109.length c111) :: (.slice Az14_116o3_5 lz14_116o3_1.length cz14_116o3_6) :: (.slice Az14_116o7_5 lz14_116o7_1.length cz14_116o7_6) :: dd u124 14 2 ((.slice A287 l291.length c288) :: (.int .i64 x292) :: (.pointer (some ⟨gz31_328B0, 0, none⟩)) :: (.int .i64 x360) :: (.int .i64 x361) :: (u283 21) :: (u39 22) :: (.int .i64 ((p0.length : Nat) : Int)) :: (.bool false) :: (u39 25) :: (.int .i64 ((p0.length : Nat) : Int)) :: (u39 27) :: (.int .i64 ((p1.length : Nat) : Int)) :: (.bool false) :: (u39 30) :: (.int .u8 p2) :: dd u39 32 2 ((.int .i64 ((p0.length : Nat) : Int)) :: dd u39 35 25 (dd u124 60 2 ((.pointer (some ⟨w0.heap.size, 0, none⟩)) :: (u124 63) :: (.int .i64 ((l45.length : Nat) : Int)) :: (u124 65) :: (.pointer (some ⟨w0.heap.size, 0, none⟩)) :: (u124 67) :: (.int .i64 ((l45.length : Nat) : Int)) :: dd u124 69 67 ((.int .i64 x292) :: (.pointer (some ⟨w0.heap.size, 0, none⟩)) :: (u353 138) :: (.int .i64 ((l45.length : Nat) : Int)) :: (.bool true) :: dd u283 141 2 ((u353 143) :: (.int .i64 x292) :: (u353 145) :: (.bool false) :: (u353 147) :: (.int .i64 x292) :: (.int .u8 xz31_328o2_3) :: (u353 150) :: (.int .i64 x292) :: (.int .u8 xz31_328o5_3) :: (u353 153) :: (.int .i64 x292) :: (.int .i64 (IntKind.i64.wrap (x292 - 1))) :: (.int .u8 xz31_328o9_3) :: (.int .u8 xz31_328o10_3) :: (u353 158) :: (.int .i64 x292) :: (.int .i64 x292) :: (.int .i64 x361) :: (.bool true) :: dd u353 163 4 ((.pointer (some ⟨gz31_328B0, 0, none⟩)) :: (.slice A357 l359.length c358) :: (.pointer (some ⟨w0.heap.size, 0, none⟩)) :: (.slice A43 l45.length c44) :: (.int .i64 x361) :: (.pointer (Option.map (fun (p : Addr) => p.add (Int.toNat x361 * 1)) A43)) :: (.int .i64 xz36_373o5_1) :: (.slice (some ⟨gz36_373B0, 0, none⟩) (([xz36_373o5_1]).length) 1) :: (.slice Az36_373o8_4 lz36_373o8_1.length cz36_373o8_5) :: (.pointer (some ⟨gz31_328B0, 0, none⟩)) :: (u353 177) :: dd u283 178 35 (undef :: [])))))))))).toArray, []⟩ _
                  refine gx_thenN ?_
                  refine hK373 _ _ ?_
                  refine gx_region ?_
                  refine gx_kA (.int .i64 x361) w377 (gx_kA (.int .i64 x361) w377 ?_)
                  refine gx_nil ?_
                  refine gx_blkN ?_
                  refine gx_thenN ?_
                  refine hK371 _ _ ?_
                  refine gx_region ?_
                  refine gx_kA (.slice Az14_116o3_5 lz14_116o3_1.length cz14_116o3_6) w377 (gx_kA (.int .i64 x361) w377 ?_)
                  obtain ⟨x379, hx380, hL364⟩ := bind_in hL364
                  refine gx_vA (.pointer (Option.map (fun (p : Addr) => p.add (Int.toNat x361 * 1)) Az14_116o3_5)) w377 (run_ixaddr (E := 3) (s := 1) (k := .i64) (c := cz14_116o3_6) rfl (by as_aux_lemma => kernel_rfl) (by as_aux_lemma => kernel_rfl) (by as_aux_lemma => kernel_rfl) (fun _ => by kernel_rfl) (ix_in hx380).1 (lt_len hn125 (ix_in hx380).2.1) (nil_len hn125 (num_nil (hS378.row 6 rfl).1))) ?_
                  refine gx_vA (.int .i64 x379) w377 (run_loadix rfl (by as_aux_lemma => kernel_rfl) (fun _ => by kernel_rfl) (hS378.row 6 rfl).1 hx380) ?_
                  refine gx_kA (.int .i64 x379) w377 ?_
                  refine gx_nil ?_
                  refine gx_thenN ?_
                  exact ⟨k363, Nat.lt_succ_self k363, lz36_373o8_1, x361, x379, ft354, W355, Az36_373o8_4, cz36_373o8_5, selfA_i (by as_aux_lemma => kernel_rfl), hL364, (hS378.pick [0, 1, 2, 3, 4, 5, 6, 7, 8] rfl rfl), hT356⟩
                 ·intro K381
                  refine gd1 0 { dst := some 167, op := _, type := _, pos := _, after := _, guard := _ } (.pointer (some ⟨gz31_328B0, 0, none⟩)) rfl (hS376.pick [1, 2, 5, 6, 7, 8] rfl rfl) (fun w hSw => by kernel_rfl) ?_
                  refine gd1 2 { dst := some 169, op := _, type := _, pos := _, after := _, guard := _ } (.pointer (some ⟨w0.heap.size, 0, none⟩)) rfl (hS376.pick [1, 2, 5, 6, 7, 8] rfl rfl) (fun w hSw => by kernel_rfl) ?_
                  refine gd1 3 { dst := some 170, op := _, type := _, pos := _, after := _, guard := _ } (.slice A43 l45.length c44) rfl (hS376.pick [1, 2, 5, 6, 7, 8] rfl rfl) (fun w hSw => run_load1 rfl (by as_aux_lemma => kernel_rfl) (fun _ => by kernel_rfl) (hSw.box 1 rfl 0 rfl)) ?_
                  refine gd1 4 { dst := some 171, op := _, type := _, pos := _, after := _, guard := _ } (.int .i64 x361) rfl (hS376.pick [1, 2, 5, 6, 7, 8] rfl rfl) (fun w hSw => by kernel_rfl) ?_
                  refine gd1 5 { dst := some 172, op := _, type := _, pos := _, after := _, guard := _ } (.pointer (Option.map (fun (p : Addr) => p.add (Int.toNat x361 * 1)) A43)) rfl (hS376.pick [1, 2, 5, 6, 7, 8] rfl rfl) (fun w hSw => run_ixaddr (E := 3) (s := 1) (k := .i64) (c := c44) rfl (by as_aux_lemma => kernel_rfl) (by as_aux_lemma => kernel_rfl) (by as_aux_lemma => kernel_rfl) (fun _ => by kernel_rfl) (ix_in hxz36_373o5_2).1 (ix_in hxz36_373o5_2).2.1 (num_nil (hS376.row 1 rfl).1)) ?_
                  refine gd1 6 { dst := some 173, op := _, type := _, pos := _, after := _, guard := _ } (.int .i64 xz36_373o5_1) rfl (hS376.pick [1, 2, 5, 6, 7, 8] rfl rfl) (fun w hSw => run_loadix rfl (by as_aux_lemma => kernel_rfl) (fun _ => by kernel_rfl) (hSw.row 0 rfl).1 hxz36_373o5_2) ?_
                  refine gd_fork2 1 7 { dst := some 168, op := _, type := _, pos := _, after := _, guard := _ } { dst := some 174, op := _, type := _, pos := _, after := _, guard := _ } rfl rfl ?_ ?_
                  ·refine gfR 1 { dst := some 168, op := _, type := _, pos := _, after := _, guard := _ } (R := fun v w => v = .slice A357 l359.length c358 ∧ w375 = w) rfl ⟨_, _, run_load1 rfl (by as_aux_lemma => kernel_rfl) (fun _ => by kernel_rfl) (hS376.box 4 rfl 0 rfl), rfl, rfl⟩ ?_
                   rintro _ _ ⟨rfl, rfl⟩
                   refine ⟨(hS376.pick [1, 2, 5, 6, 7, 8] rfl rfl), ?_⟩
                   refine gdR 7 { dst := some 174, op := _, type := _, pos := _, after := _, guard := _ } rfl (st_made .i64 3 [xz36_373o5_1] hS376 (by show 1 ≤ 1000000000; decide) (by as_aux_lemma => kernel_rfl)) ?_
                   rintro _ wz36_373o7_1 ⟨rfl, hSz36_373o7_2⟩
                   have hSz36_373o7_2 : St _ _ wz36_373o7_1 [poolE ft354 W355, rowE .i64 3 A43 c44 l45, boxE w0.heap.size [.slice A43 l45.length c44, .slice A1 p1.length c1, .int .u8 p2] 51, rowE .i64 3 A357 c358 l359, boxE gz31_328B0 [.slice A357 l359.length c358, .int .u8 xz31_328o2_3, .int .u8 xz31_328o10_3, .int .u8 0] 55, rowE .i64 3 A110 c111 l109, rowE .i64 3 Az14_116o3_5 cz14_116o3_6 l126, rowG 4 1 (.slice Az14_116o7_5 lz14_116o7_1.length cz14_116o7_6) lz14_116o7_1.length vs129, rowG 55 4 (.slice A287 l291.length c288) l291.length vs289, rowE .i64 3 (some ⟨w375.heap.size, 0, none⟩) 1 ([xz36_373o5_1])] := hSz36_373o7_2
                   refine ⟨(hSz36_373o7_2.pick [1, 2, 5, 6, 7, 8] rfl rfl), ?_⟩
                   obtain ⟨haz36_373o8_2, hqz36_373o8_3⟩ := apx_in haz36_373o8_2
                   refine gdR 8 { dst := some 175, op := _, type := _, pos := _, after := _, guard := _ } rfl (st_append rfl (by as_aux_lemma => kernel_rfl) (by as_aux_lemma => kernel_rfl) hSz36_373o7_2 3 rfl (hSz36_373o7_2.row 9 rfl).1 (hSz36_373o7_2.row 9 rfl).2 haz36_373o8_2 (by as_aux_lemma => kernel_rfl) (by as_aux_lemma => kernel_rfl)) ?_
                   rintro _ wz36_373o8_6 ⟨Az36_373o8_4, cz36_373o8_5, rfl, hSz36_373o8_7⟩
                   rw [← hqz36_373o8_3] at hSz36_373o8_7 ⊢
                   have hSz36_373o8_7 : St _ _ wz36_373o8_6 [poolE ft354 W355, rowE .i64 3 A43 c44 l45, boxE w0.heap.size [.slice A43 l45.length c44, .slice A1 p1.length c1, .int .u8 p2] 51, rowE .i64 3 Az36_373o8_4 cz36_373o8_5 lz36_373o8_1, boxE gz31_328B0 [.slice A357 l359.length c358, .int .u8 xz31_328o2_3, .int .u8 xz31_328o10_3, .int .u8 0] 55, rowE .i64 3 A110 c111 l109, rowE .i64 3 Az14_116o3_5 cz14_116o3_6 l126, rowG 4 1 (.slice Az14_116o7_5 lz14_116o7_1.length cz14_116o7_6) lz14_116o7_1.length vs129, rowG 55 4 (.slice A287 l291.length c288) l291.length vs289, rowE .i64 3 (some ⟨w375.heap.size, 0, none⟩) 1 ([xz36_373o5_1])] := hSz36_373o8_7
                   refine ⟨(hSz36_373o8_7.pick [1, 2, 5, 6, 7, 8] rfl rfl), ?_⟩
                   refine gd1 9 { dst := some 176, op := _, type := _, pos := _, after := _, guard := _ } (.pointer (some ⟨gz31_328B0, 0, none⟩)) rfl (hSz36_373o8_7.pick [1, 2, 5, 6, 7, 8] rfl rfl) (fun w hSw => by kernel_rfl) ?_
                   refine gdS 10 { dst := none, op := _, type := _, pos := _, after := _, guard := _ } rfl (st_store (j := 0) (v := (.slice Az36_373o8_4 lz36_373o8_1.length cz36_373o8_5)) rfl (by as_aux_lemma => kernel_rfl) (by as_aux_lemma => kernel_rfl) rfl (fun _ => by kernel_rfl) hSz36_373o8_7 4 rfl (by show 0 < 4; decide)) ?_
                   rintro wz36_373o10_1 hSz36_373o10_2
                   have hSz36_373o10_2 : St _ _ wz36_373o10_1 [poolE ft354 W355, rowE .i64 3 A43 c44 l45, boxE w0.heap.size [.slice A43 l45.length c44, .slice A1 p1.length c1, .int .u8 p2] 51, rowE .i64 3 Az36_373o8_4 cz36_373o8_5 lz36_373o8_1, boxE gz31_328B0 [.slice Az36_373o8_4 lz36_373o8_1.length cz36_373o8_5, .int .u8 xz31_328o2_3, .int .u8 xz31_328o10_3, .int .u8 0] 55, rowE .i64 3 A110 c111 l109, rowE .i64 3 Az14_116o3_5 cz14_116o3_6 l126, rowG 4 1 (.slice Az14_116o7_5 lz14_116o7_1.length cz14_116o7_6) lz14_116o7_1.length vs129, rowG 55 4 (.slice A287 l291.length c288) l291.length vs289, rowE .i64 3 (some ⟨w375.heap.size, 0, none⟩) 1 ([xz36_373o5_1])] := hSz36_373o10_2
                   refine ⟨(hSz36_373o10_2.pick [1, 2, 5, 6, 7, 8] rfl rfl), ?_⟩
                   exact gd_meet (by as_aux_lemma => kernel_rfl) (by as_aux_lemma => kernel_rfl) (K381 (w375.heap.size, Az36_373o8_4, cz36_373o8_5) _ hSz36_373o10_2)
                  ·refine gfR 7 { dst := some 174, op := _, type := _, pos := _, after := _, guard := _ } rfl (st_made .i64 3 [xz36_373o5_1] hS376 (by show 1 ≤ 1000000000; decide) (by as_aux_lemma => kernel_rfl)) ?_
                   rintro _ wz36_373o7_1 ⟨rfl, hSz36_373o7_2⟩
                   have hSz36_373o7_2 : St _ _ wz36_373o7_1 [poolE ft354 W355, rowE .i64 3 A43 c44 l45, boxE w0.heap.size [.slice A43 l45.length c44, .slice A1 p1.length c1, .int .u8 p2] 51, rowE .i64 3 A357 c358 l359, boxE gz31_328B0 [.slice A357 l359.length c358, .int .u8 xz31_328o2_3, .int .u8 xz31_328o10_3, .int .u8 0] 55, rowE .i64 3 A110 c111 l109, rowE .i64 3 Az14_116o3_5 cz14_116o3_6 l126, rowG 4 1 (.slice Az14_116o7_5 lz14_116o7_1.length cz14_116o7_6) lz14_116o7_1.length vs129, rowG 55 4 (.slice A287 l291.length c288) l291.length vs289, rowE .i64 3 (some ⟨w375.heap.size, 0, none⟩) 1 ([xz36_373o5_1])] := hSz36_373o7_2
                   refine ⟨(hSz36_373o7_2.pick [1, 2, 5, 6, 7, 8] rfl rfl), ?_⟩
                   refine gdR 1 { dst := some 168, op := _, type := _, pos := _, after := _, guard := _ } (R := fun v w => v = .slice A357 l359.length c358 ∧ wz36_373o7_1 = w) rfl ⟨_, _, run_load1 rfl (by as_aux_lemma => kernel_rfl) (fun _ => by kernel_rfl) (hSz36_373o7_2.box 4 rfl 0 rfl), rfl, rfl⟩ ?_
                   rintro _ _ ⟨rfl, rfl⟩
                   refine ⟨(hSz36_373o7_2.pick [1, 2, 5, 6, 7, 8] rfl rfl), ?_⟩
                   obtain ⟨haz36_373o8_2, hqz36_373o8_3⟩ := apx_in haz36_373o8_2
                   refine gdR 8 { dst := some 175, op := _, type := _, pos := _, after := _, guard := _ } rfl (st_append rfl (by as_aux_lemma => kernel_rfl) (by as_aux_lemma => kernel_rfl) hSz36_373o7_2 3 rfl (hSz36_373o7_2.row 9 rfl).1 (hSz36_373o7_2.row 9 rfl).2 haz36_373o8_2 (by as_aux_lemma => kernel_rfl) (by as_aux_lemma => kernel_rfl)) ?_
                   rintro _ wz36_373o8_6 ⟨Az36_373o8_4, cz36_373o8_5, rfl, hSz36_373o8_7⟩
                   rw [← hqz36_373o8_3] at hSz36_373o8_7 ⊢
                   have hSz36_373o8_7 : St _ _ wz36_373o8_6 [poolE ft354 W355, rowE .i64 3 A43 c44 l45, boxE w0.heap.size [.slice A43 l45.length c44, .slice A1 p1.length c1, .int .u8 p2] 51, rowE .i64 3 Az36_373o8_4 cz36_373o8_5 lz36_373o8_1, boxE gz31_328B0 [.slice A357 l359.length c358, .int .u8 xz31_328o2_3, .int .u8 xz31_328o10_3, .int .u8 0] 55, rowE .i64 3 A110 c111 l109, rowE .i64 3 Az14_116o3_5 cz14_116o3_6 l126, rowG 4 1 (.slice Az14_116o7_5 lz14_116o7_1.length cz14_116o7_6) lz14_116o7_1.length vs129, rowG 55 4 (.slice A287 l291.length c288) l291.length vs289, rowE .i64 3 (some ⟨w375.heap.size, 0, none⟩) 1 ([xz36_373o5_1])] := hSz36_373o8_7
                   refine ⟨(hSz36_373o8_7.pick [1, 2, 5, 6, 7, 8] rfl rfl), ?_⟩
                   refine gd1 9 { dst := some 176, op := _, type := _, pos := _, after := _, guard := _ } (.pointer (some ⟨gz31_328B0, 0, none⟩)) rfl (hSz36_373o8_7.pick [1, 2, 5, 6, 7, 8] rfl rfl) (fun w hSw => by kernel_rfl) ?_
                   refine gdS 10 { dst := none, op := _, type := _, pos := _, after := _, guard := _ } rfl (st_store (j := 0) (v := (.slice Az36_373o8_4 lz36_373o8_1.length cz36_373o8_5)) rfl (by as_aux_lemma => kernel_rfl) (by as_aux_lemma => kernel_rfl) rfl (fun _ => by kernel_rfl) hSz36_373o8_7 4 rfl (by show 0 < 4; decide)) ?_
                   rintro wz36_373o10_1 hSz36_373o10_2
                   have hSz36_373o10_2 : St _ _ wz36_373o10_1 [poolE ft354 W355, rowE .i64 3 A43 c44 l45, boxE w0.heap.size [.slice A43 l45.length c44, .slice A1 p1.length c1, .int .u8 p2] 51, rowE .i64 3 Az36_373o8_4 cz36_373o8_5 lz36_373o8_1, boxE gz31_328B0 [.slice Az36_373o8_4 lz36_373o8_1.length cz36_373o8_5, .int .u8 xz31_328o2_3, .int .u8 xz31_328o10_3, .int .u8 0] 55, rowE .i64 3 A110 c111 l109, rowE .i64 3 Az14_116o3_5 cz14_116o3_6 l126, rowG 4 1 (.slice Az14_116o7_5 lz14_116o7_1.length cz14_116o7_6) lz14_116o7_1.length vs129, rowG 55 4 (.slice A287 l291.length c288) l291.length vs289, rowE .i64 3 (some ⟨w375.heap.size, 0, none⟩) 1 ([xz36_373o5_1])] := hSz36_373o10_2
                   refine ⟨(hSz36_373o10_2.pick [1, 2, 5, 6, 7, 8] rfl rfl), ?_⟩
                   exact gd_meet (by as_aux_lemma => kernel_rfl) (by as_aux_lemma => kernel_rfl) (K381 (w375.heap.size, Az36_373o8_4, cz36_373o8_5) _ hSz36_373o10_2)
                ·refine gx_vA (.bool false) w351 (run_boolE (decide_eq_false h369) (by as_aux_lemma => kernel_rfl)) ?_
                 refine gx_nil ?_
                 refine gx_thenN ?_
                 refine hK368 _ _ ?_
                 refine gx_no (by as_aux_lemma => kernel_rfl) ?_
                 refine gx_exit ?_
                 refine gx_thenE ?_
                 refine gx_thenE ?_
                 refine gx_blkE ?_
                 refine gx_thenN ?_
                 exact ⟨l359, x360, ft354, W355, A357, c358, selfA_i (by as_aux_lemma => kernel_rfl), (Option.some.inj hL364), hS352, hT356⟩
             ·rintro _ w336 ⟨l344, x345, ft339, W340, A342, c343, hq448, rfl, hS337, hT341⟩
              obtain ⟨u338, rfl⟩ := selfA_u hq448
              try dsimp only at hO348
              refine gx_seq (fun K383 hK384 => ?_)
              refine gx_region ?_
              refine gx_vA (.agg #[.slice A43 l45.length c44, .slice A1 p1.length c1, .int .u8 p2]) w336 (run_loadG (d := _) rfl (by as_aux_lemma => kernel_rfl) (hS337.get 2 rfl) rfl rfl (by as_aux_lemma => kernel_rfl)) ?_
              refine gx_kA (.int .i64 x345) w336 (gx_kA (.int .i64 (IntKind.i64.wrap (x345 + 1))) w336 ?_)
              have hP385 : St _ _ w336 ([] ++ [poolE ft339 W340, rowE .i64 3 A43 c44 l45, boxE w0.heap.size [.slice A43 l45.length c44, .slice A1 p1.length c1, .int .u8 p2] 51, rowE .i64 3 A342 c343 l344, boxE gz31_328B0 [.slice A342 l344.length c343, .int .u8 xz31_328o2_3, .int .u8 xz31_328o10_3, .int .u8 0] 55, rowE .i64 3 A110 c111 l109, rowE .i64 3 Az14_116o3_5 cz14_116o3_6 l126, rowG 4 1 (.slice Az14_116o7_5 lz14_116o7_1.length cz14_116o7_6) lz14_116o7_1.length vs129, rowG 55 4 (.slice A287 l291.length c288) l291.length vs289]) := hS337
              obtain ⟨x387, hc386, hO348⟩ := bind_in hO348
              try dsimp only at hO348
              refine gx_cA (rLev_R x387 w336) (rLev_ok N l45 p1 p2 (IntKind.i64.wrap (x345 + 1)) A43 c44 A1 c1 _ hc386 w336 (hP385.vwB 1 rfl) (hP385.vwA hv1)) ?_
              rintro _ w388 ⟨rfl, hT390⟩
              have hS389 : St _ _ w388 [poolE ft339 W340, rowE .i64 3 A43 c44 l45, boxE w0.heap.size [.slice A43 l45.length c44, .slice A1 p1.length c1, .int .u8 p2] 51, rowE .i64 3 A342 c343 l344, boxE gz31_328B0 [.slice A342 l344.length c343, .int .u8 xz31_328o2_3, .int .u8 xz31_328o10_3, .int .u8 0] 55, rowE .i64 3 A110 c111 l109, rowE .i64 3 Az14_116o3_5 cz14_116o3_6 l126, rowG 4 1 (.slice Az14_116o7_5 lz14_116o7_1.length cz14_116o7_6) lz14_116o7_1.length vs129, rowG 55 4 (.slice A287 l291.length c288) l291.length vs289] := hS337.take _ hT390
              refine gx_kA (.int .u8 x387) w388 ?_
              refine gx_nil ?_
              refine gx_thenN ?_
              refine hK384 _ _ ?_
              obtain ⟨c395, hE396, hO397⟩ := bind_in hO348
              refine gx_cut (fun a w => ∃ (x394 : Int), selfA (fun u393 => ⟨((.slice A0 p0.length c0) :: (u39 1) :: (.int .u8 p2) :: un 3 ((.slice none 0 0) :: (.int .i64 0) :: (.pointer (some ⟨w0.heap.size, 0, none⟩)) :: (u124 9) :: (u39 10) :: (.slice A110 l109.length c111) :: (.slice Az14_116o3_5 lz14_116o3_1.length cz14_116o3_6) :: (.slice Az14_116o7_5 lz14_116o7_1.length cz14_116o7_6) :: dd u124 14 2 ((.slice A287 l291.length c288) :: (.int .i64 x292) :: (.pointer (some ⟨gz31_328B0, 0, none⟩)) :: (.int .i64 x345) :: (u338 20) :: (.int .u8 x394) :: (u39 22) :: (.int .i64 ((p0.length : Nat) : Int)) :: (.bool false) :: (u39 25) :: (.int .i64 ((p0.length : Nat) : Int)) :: (u39 27) :: (.int .i64 ((p1.length : Nat) : Int)) :: (.bool false) :: (u39 30) :: (.int .u8 p2) :: dd u39 32 2 ((.int .i64 ((p0.length : Nat) : Int)) :: dd u39 35 25 (dd u124 60 2 ((.pointer (some ⟨w0.heap.size, 0, none⟩)) :: (u124 63) :: (.int .i64 ((l45.length : Nat) : Int)) :: (u124 65) :: (.pointer (some ⟨w0.heap.size, 0, none⟩)) :: (u124 67) :: (.int .i64 ((l45.length : Nat) : Int)) :: dd u124 69 67 ((.int .i64 x292) :: (.pointer (some ⟨w0.heap.size, 0, none⟩)) :: (u338 138) :: (.int .i64 ((l45.length : Nat) : Int)) :: (.bool true) :: dd u283 141 2 ((u338 143) :: (.int .i64 x292) :: (u338 145) :: (.bool false) :: (u338 147) :: (.int .i64 x292) :: (.int .u8 xz31_328o2_3) :: (u338 150) :: (.int .i64 x292) :: (.int .u8 xz31_328o5_3) :: (u338 153) :: (.int .i64 x292) :: (.int .i64 (IntKind.i64.wrap (x292 - 1))) :: (.int .u8 xz31_328o9_3) :: (.int .u8 xz31_328o10_3) :: (u338 158) :: (.int .i64 x292) :: dd u338 160 18 ((u393 178) :: (.int .i64 x345) :: (.int .i64 (IntKind.i64.wrap (x345 + 1))) :: (.int .u8 x387) :: dd u393 182 21 (dd u283 203 10 (undef :: []))))))))))).toArray, []⟩) a ∧ x394 = c395 ∧ St [] w0 w [poolE ft339 W340, rowE .i64 3 A43 c44 l45, boxE w0.heap.size [.slice A43 l45.length c44, .slice A1 p1.length c1, .int .u8 p2] 51, rowE .i64 3 A342 c343 l344, boxE gz31_328B0 [.slice A342 l344.length c343, .int .u8 xz31_328o2_3, .int .u8 xz31_328o10_3, .int .u8 0] 55, rowE .i64 3 A110 c111 l109, rowE .i64 3 Az14_116o3_5 cz14_116o3_6 l126, rowG 4 1 (.slice Az14_116o7_5 lz14_116o7_1.length cz14_116o7_6) lz14_116o7_1.length vs129, rowG 55 4 (.slice A287 l291.length c288) l291.length vs289]) ?_ ?_
              ·refine gx_seq (fun K398 hK399 => ?_)
               refine gx_region ?_
               refine gx_kA (.slice A0 p0.length c0) w388 (gx_kA (.pointer (some ⟨w0.heap.size, 0, none⟩)) w388 ?_)
               refine gx_vA (.slice A43 l45.length c44) w388 (run_load1 rfl (by as_aux_lemma => kernel_rfl) (fun _ => by kernel_rfl) (hS389.box 2 rfl 0 rfl)) ?_
               refine gx_kA (.int .i64 x345) w388 ?_
               obtain ⟨x400, hx401, hE396⟩ := bind_in hE396
               refine gx_vA (.pointer (Option.map (fun (p : Addr) => p.add (Int.toNat x345 * 1)) A43)) w388 (run_ixaddr (E := 3) (s := 1) (k := .i64) (c := c44) rfl (by as_aux_lemma => kernel_rfl) (by as_aux_lemma => kernel_rfl) (by as_aux_lemma => kernel_rfl) (fun _ => by kernel_rfl) (ix_in hx401).1 (ix_in hx401).2.1 (num_nil (hS389.row 1 rfl).1)) ?_
               refine gx_vA (.int .i64 x400) w388 (run_loadix rfl (by as_aux_lemma => kernel_rfl) (fun _ => by kernel_rfl) (hS389.row 1 rfl).1 hx401) ?_
               obtain ⟨x402, hx403, hE396⟩ := bind_in hE396
               refine gx_vA (.pointer (Option.map (fun (p : Addr) => p.add (Int.toNat x400 * 1)) A0)) w388 (run_ixaddr (E := 34) (s := 1) (k := .i64) (c := c0) rfl (by as_aux_lemma => kernel_rfl) (by as_aux_lemma => kernel_rfl) (by as_aux_lemma => kernel_rfl) (fun _ => by kernel_rfl) (ix_in hx403).1 (ix_in hx403).2.1 (num_nil (hS389.view hv0))) ?_
               refine gx_vA (.int .u8 x402) w388 (run_loadix rfl (by as_aux_lemma => kernel_rfl) (fun _ => by kernel_rfl) (hS389.view hv0) hx403) ?_
               have hP404 : St _ _ w388 ([] ++ [poolE ft339 W340, rowE .i64 3 A43 c44 l45, boxE w0.heap.size [.slice A43 l45.length c44, .slice A1 p1.length c1, .int .u8 p2] 51, rowE .i64 3 A342 c343 l344, boxE gz31_328B0 [.slice A342 l344.length c343, .int .u8 xz31_328o2_3, .int .u8 xz31_328o10_3, .int .u8 0] 55, rowE .i64 3 A110 c111 l109, rowE .i64 3 Az14_116o3_5 cz14_116o3_6 l126, rowG 4 1 (.slice Az14_116o7_5 lz14_116o7_1.length cz14_116o7_6) lz14_116o7_1.length vs129, rowG 55 4 (.slice A287 l291.length c288) l291.length vs289]) := hS389
               obtain ⟨b406, hc405, hE396⟩ := bind_in hE396
               try dsimp only at hE396
               refine gx_cA (rInit_R b406 w388) (rInit_ok N x402 _ hc405 w388 ) ?_
               rintro _ w407 ⟨rfl, hT409⟩
               have hS408 : St _ _ w407 [poolE ft339 W340, rowE .i64 3 A43 c44 l45, boxE w0.heap.size [.slice A43 l45.length c44, .slice A1 p1.length c1, .int .u8 p2] 51, rowE .i64 3 A342 c343 l344, boxE gz31_328B0 [.slice A342 l344.length c343, .int .u8 xz31_328o2_3, .int .u8 xz31_328o10_3, .int .u8 0] 55, rowE .i64 3 A110 c111 l109, rowE .i64 3 Az14_116o3_5 cz14_116o3_6 l126, rowG 4 1 (.slice Az14_116o7_5 lz14_116o7_1.length cz14_116o7_6) lz14_116o7_1.length vs129, rowG 55 4 (.slice A287 l291.length c288) l291.length vs289] := hS389.take _ hT409
               refine gx_kA (.bool b406) w407 ?_
               cases b406 with
               | true =>
                try dsimp only at hE396
                refine gx_kA (.slice A110 l109.length c111) w407 (gx_kA (.pointer (some ⟨w0.heap.size, 0, none⟩)) w407 ?_)
                refine gx_vA (.slice A43 l45.length c44) w407 (run_load1 rfl (by as_aux_lemma => kernel_rfl) (fun _ => by kernel_rfl) (hS408.box 2 rfl 0 rfl)) ?_
                refine gx_kA (.int .i64 x345) w407 ?_
                obtain ⟨x410, hx411, hE396⟩ := bind_in hE396
                refine gx_vA (.pointer (Option.map (fun (p : Addr) => p.add (Int.toNat x345 * 1)) A43)) w407 (run_ixaddr (E := 3) (s := 1) (k := .i64) (c := c44) rfl (by as_aux_lemma => kernel_rfl) (by as_aux_lemma => kernel_rfl) (by as_aux_lemma => kernel_rfl) (fun _ => by kernel_rfl) (ix_in hx411).1 (ix_in hx411).2.1 (num_nil (hS408.row 1 rfl).1)) ?_
                refine gx_vA (.int .i64 x410) w407 (run_loadix rfl (by as_aux_lemma => kernel_rfl) (fun _ => by kernel_rfl) (hS408.row 1 rfl).1 hx411) ?_
                obtain ⟨x412, hx413, hE396⟩ := bind_in hE396
                refine gx_vA (.pointer (Option.map (fun (p : Addr) => p.add (Int.toNat x410 * 1)) A110)) w407 (run_ixaddr (E := 3) (s := 1) (k := .i64) (c := c111) rfl (by as_aux_lemma => kernel_rfl) (by as_aux_lemma => kernel_rfl) (by as_aux_lemma => kernel_rfl) (fun _ => by kernel_rfl) (ix_in hx413).1 (ix_in hx413).2.1 (num_nil (hS408.row 5 rfl).1)) ?_
                refine gx_vA (.int .i64 x412) w407 (run_loadix rfl (by as_aux_lemma => kernel_rfl) (fun _ => by kernel_rfl) (hS408.row 5 rfl).1 hx413) ?_
                rcases if_in hE396 with ⟨h414, hE396⟩ | ⟨h414, hE396⟩
                ·refine gx_vA (.bool true) w407 (run_boolE (decide_eq_true h414) (by as_aux_lemma => kernel_rfl)) ?_
                 refine gx_kA (.bool true) w407 ?_
                 refine gx_nil ?_
                 refine gx_thenN ?_
                 refine hK399 _ _ ?_
                 refine gx_yes (by as_aux_lemma => kernel_rfl) ?_
                 refine gx_region ?_
                 refine gx_kA (.int .u8 p2) w407 (gx_kA (.int .u8 p2) w407 ?_)
                 refine gx_nil ?_
                 refine gx_thenN ?_
                 exact ⟨p2, selfA_i (by as_aux_lemma => kernel_rfl), (Option.some.inj hE396), hS408⟩
                ·refine gx_vA (.bool false) w407 (run_boolE (decide_eq_false h414) (by as_aux_lemma => kernel_rfl)) ?_
                 refine gx_kA (.bool false) w407 ?_
                 refine gx_nil ?_
                 refine gx_thenN ?_
                 refine hK399 _ _ ?_
                 refine gx_no (by as_aux_lemma => kernel_rfl) ?_
                 refine gx_pass ?_
                 refine gx_thenN ?_
                 exact ⟨x387, selfA_i (by as_aux_lemma => kernel_rfl), (Option.some.inj hE396), hS408⟩
               | false =>
                try dsimp only at hE396
                refine gx_oA (gx_oA (gx_oA (gx_oA (gx_oA (gx_oA (gx_oA (gx_oA ?_)))))))
                refine gx_oA (gx_kA (.bool false) w407 ?_)
                refine gx_nil ?_
                refine gx_thenN ?_
                refine hK399 _ _ ?_
                refine gx_no (by as_aux_lemma => kernel_rfl) ?_
                refine gx_pass ?_
                refine gx_thenN ?_
                exact ⟨x387, selfA_i (by as_aux_lemma => kernel_rfl), (Option.some.inj hE396), hS408⟩
              ·rintro _ w391 ⟨x394, hq447, rfl, hS392⟩
               obtain ⟨u393, rfl⟩ := selfA_u hq447
               try dsimp only at hO397
               refine gx_seq (fun K415 hK416 => ?_)
               refine gx_region ?_
               refine gx_vA (.agg #[.slice A43 l45.length c44, .slice A1 p1.length c1, .int .u8 p2]) w391 (run_loadG (d := _) rfl (by as_aux_lemma => kernel_rfl) (hS392.get 2 rfl) rfl rfl (by as_aux_lemma => kernel_rfl)) ?_
               refine gx_kA (.int .i64 x345) w391 ?_
               have hP417 : St _ _ w391 ([] ++ [poolE ft339 W340, rowE .i64 3 A43 c44 l45, boxE w0.heap.size [.slice A43 l45.length c44, .slice A1 p1.length c1, .int .u8 p2] 51, rowE .i64 3 A342 c343 l344, boxE gz31_328B0 [.slice A342 l344.length c343, .int .u8 xz31_328o2_3, .int .u8 xz31_328o10_3, .int .u8 0] 55, rowE .i64 3 A110 c111 l109, rowE .i64 3 Az14_116o3_5 cz14_116o3_6 l126, rowG 4 1 (.slice Az14_116o7_5 lz14_116o7_1.length cz14_116o7_6) lz14_116o7_1.length vs129, rowG 55 4 (.slice A287 l291.length c288) l291.length vs289]) := hS392
               obtain ⟨x419, hc418, hO397⟩ := bind_in hO397
               try dsimp only at hO397
               refine gx_cA (rLev_R x419 w391) (rLev_ok N l45 p1 p2 x345 A43 c44 A1 c1 _ hc418 w391 (hP417.vwB 1 rfl) (hP417.vwA hv1)) ?_
               rintro _ w420 ⟨rfl, hT422⟩
               have hS421 : St _ _ w420 [poolE ft339 W340, rowE .i64 3 A43 c44 l45, boxE w0.heap.size [.slice A43 l45.length c44, .slice A1 p1.length c1, .int .u8 p2] 51, rowE .i64 3 A342 c343 l344, boxE gz31_328B0 [.slice A342 l344.length c343, .int .u8 xz31_328o2_3, .int .u8 xz31_328o10_3, .int .u8 0] 55, rowE .i64 3 A110 c111 l109, rowE .i64 3 Az14_116o3_5 cz14_116o3_6 l126, rowG 4 1 (.slice Az14_116o7_5 lz14_116o7_1.length cz14_116o7_6) lz14_116o7_1.length vs129, rowG 55 4 (.slice A287 l291.length c288) l291.length vs289] := hS392.take _ hT422
               refine gx_kA (.int .u8 x394) w420 ?_
               have hP423 : St _ _ w420 ([] ++ [poolE ft339 W340, rowE .i64 3 A43 c44 l45, boxE w0.heap.size [.slice A43 l45.length c44, .slice A1 p1.length c1, .int .u8 p2] 51, rowE .i64 3 A342 c343 l344, boxE gz31_328B0 [.slice A342 l344.length c343, .int .u8 xz31_328o2_3, .int .u8 xz31_328o10_3, .int .u8 0] 55, rowE .i64 3 A110 c111 l109, rowE .i64 3 Az14_116o3_5 cz14_116o3_6 l126, rowG 4 1 (.slice Az14_116o7_5 lz14_116o7_1.length cz14_116o7_6) lz14_116o7_1.length vs129, rowG 55 4 (.slice A287 l291.length c288) l291.length vs289]) := hS421
               obtain ⟨x425, hc424, hO397⟩ := bind_in hO397
               try dsimp only at hO397
               refine gx_cA (rSide_R x425 w420) (rSide_ok N x419 x394 _ hc424 w420 ) ?_
               rintro _ w426 ⟨rfl, hT428⟩
               have hS427 : St _ _ w426 [poolE ft339 W340, rowE .i64 3 A43 c44 l45, boxE w0.heap.size [.slice A43 l45.length c44, .slice A1 p1.length c1, .int .u8 p2] 51, rowE .i64 3 A342 c343 l344, boxE gz31_328B0 [.slice A342 l344.length c343, .int .u8 xz31_328o2_3, .int .u8 xz31_328o10_3, .int .u8 0] 55, rowE .i64 3 A110 c111 l109, rowE .i64 3 Az14_116o3_5 cz14_116o3_6 l126, rowG 4 1 (.slice Az14_116o7_5 lz14_116o7_1.length cz14_116o7_6) lz14_116o7_1.length vs129, rowG 55 4 (.slice A287 l291.length c288) l291.length vs289] := hS421.take _ hT428
               refine gx_kA (.pointer (some ⟨gz31_328B0, 3, none⟩)) w426 ?_
               refine gx_sA (st_store (j := 3) (v := (.int .u8 x425)) rfl (by as_aux_lemma => kernel_rfl) (by as_aux_lemma => kernel_rfl) rfl (fun _ => by kernel_rfl) hS427 4 rfl (by show 3 < 4; decide)) ?_
               rintro w429 hS430
               have hS430 : St _ _ w429 [poolE ft339 W340, rowE .i64 3 A43 c44 l45, boxE w0.heap.size [.slice A43 l45.length c44, .slice A1 p1.length c1, .int .u8 p2] 51, rowE .i64 3 A342 c343 l344, boxE gz31_328B0 [.slice A342 l344.length c343, .int .u8 xz31_328o2_3, .int .u8 xz31_328o10_3, .int .u8 x425] 55, rowE .i64 3 A110 c111 l109, rowE .i64 3 Az14_116o3_5 cz14_116o3_6 l126, rowG 4 1 (.slice Az14_116o7_5 lz14_116o7_1.length cz14_116o7_6) lz14_116o7_1.length vs129, rowG 55 4 (.slice A287 l291.length c288) l291.length vs289] := hS430
               refine gx_nil ?_
               refine gx_thenN ?_
               refine hK416 _ _ ?_
               refine gx_region ?_
               refine gx_kA (.slice A287 l291.length c288) w429 ?_
               refine gx_vA (.agg #[.slice A342 l344.length c343, .int .u8 xz31_328o2_3, .int .u8 xz31_328o10_3, .int .u8 x425]) w429 (run_loadG (d := _) rfl (by as_aux_lemma => kernel_rfl) (hS430.get 4 rfl) rfl rfl (by as_aux_lemma => kernel_rfl)) ?_
               obtain ⟨ft431, W432, hS433, hT434, hf435⟩ := hS430.freezeE 3 0 rfl rfl (by decide)
               have hS433 : St _ _ w429 [poolE ft431 W432, rowE .i64 3 A43 c44 l45, boxE w0.heap.size [.slice A43 l45.length c44, .slice A1 p1.length c1, .int .u8 p2] 51, boxE gz31_328B0 [.slice A342 l344.length c343, .int .u8 xz31_328o2_3, .int .u8 xz31_328o10_3, .int .u8 x425] 55, rowE .i64 3 A110 c111 l109, rowE .i64 3 Az14_116o3_5 cz14_116o3_6 l126, rowG 4 1 (.slice Az14_116o7_5 lz14_116o7_1.length cz14_116o7_6) lz14_116o7_1.length vs129, rowG 55 4 (.slice A287 l291.length c288) l291.length vs289] := hS433
               have hT434 : Turn [] w0 W340 ft339 W432 ft431 := hT434
               have hf435 : (fSl (intE .i64) A342 c343 (List.map (Value.int .i64) l344) l344).rd W432 ft431 := hf435
               have hf436 : (fEach enccalamusref10Seq [.slice A342 l344.length c343, .int .u8 xz31_328o2_3, .int .u8 xz31_328o10_3, .int .u8 x425] [(l344, xz31_328o2_3, xz31_328o10_3, x425)]).rd W432 ft431 := (each_cons (rd_pair (rd_row rfl hf435) (rd_pair (rd_intg .u8 xz31_328o2_3) (rd_pair (rd_intg .u8 xz31_328o10_3) (rd_intg .u8 x425)))) each_nil)
               refine gx_rA (st_madeP (e := enccalamusref10Seq) 55 1 [.slice A342 l344.length c343, .int .u8 xz31_328o2_3, .int .u8 xz31_328o10_3, .int .u8 x425] [(l344, xz31_328o2_3, xz31_328o10_3, x425)] hS433 rfl hf436 (by decide) (by as_aux_lemma => kernel_rfl)) ?_
               rintro _ w437 ⟨rfl, hS438⟩
               have hS438 : St _ _ w437 [poolE ft431 W432, rowE .i64 3 A43 c44 l45, boxE w0.heap.size [.slice A43 l45.length c44, .slice A1 p1.length c1, .int .u8 p2] 51, boxE gz31_328B0 [.slice A342 l344.length c343, .int .u8 xz31_328o2_3, .int .u8 xz31_328o10_3, .int .u8 x425] 55, rowE .i64 3 A110 c111 l109, rowE .i64 3 Az14_116o3_5 cz14_116o3_6 l126, rowG 4 1 (.slice Az14_116o7_5 lz14_116o7_1.length cz14_116o7_6) lz14_116o7_1.length vs129, rowG 55 4 (.slice A287 l291.length c288) l291.length vs289, rowG 55 4 (.slice (some ⟨w429.heap.size, 0, none⟩) 1 1) 1 ([.slice A342 l344.length c343, .int .u8 xz31_328o2_3, .int .u8 xz31_328o10_3, .int .u8 x425])] := hS438
               obtain ⟨l439, ha440, hO397⟩ := bind_in hO397
               refine gx_rA (st_appendP (e := enccalamusref10Seq) rfl (by as_aux_lemma => kernel_rfl) (by as_aux_lemma => kernel_rfl) hS438 7 rfl rfl (show 1 = ([(l344, xz31_328o2_3, xz31_328o10_3, x425)] : List (List Int × Int × Int × Int)).length from rfl) (hT434.pool (hT341.pool hf290)) hf436 (rowG_lies (e := enccalamusref10Seq) (show 1 = ([(l344, xz31_328o2_3, xz31_328o10_3, x425)] : List (List Int × Int × Int × Int)).length from rfl) (hS438.get 8 rfl)) (rowG_spec (e := enccalamusref10Seq) (show 1 = ([(l344, xz31_328o2_3, xz31_328o10_3, x425)] : List (List Int × Int × Int × Int)).length from rfl) (hS438.get 8 rfl)).2.2.1 ha440 (by as_aux_lemma => kernel_rfl) (by as_aux_lemma => kernel_rfl) (by decide)) ?_
               rintro _ w445 ⟨A441, c442, vs443, rfl, hf444, hS446⟩
               have hS446 : St _ _ w445 [poolE ft431 W432, rowE .i64 3 A43 c44 l45, boxE w0.heap.size [.slice A43 l45.length c44, .slice A1 p1.length c1, .int .u8 p2] 51, boxE gz31_328B0 [.slice A342 l344.length c343, .int .u8 xz31_328o2_3, .int .u8 xz31_328o10_3, .int .u8 x425] 55, rowE .i64 3 A110 c111 l109, rowE .i64 3 Az14_116o3_5 cz14_116o3_6 l126, rowG 4 1 (.slice Az14_116o7_5 lz14_116o7_1.length cz14_116o7_6) lz14_116o7_1.length vs129, rowG 55 4 (.slice A441 l439.length c442) l439.length vs443, rowG 55 4 (.slice (some ⟨w429.heap.size, 0, none⟩) 1 1) 1 ([.slice A342 l344.length c343, .int .u8 xz31_328o2_3, .int .u8 xz31_328o10_3, .int .u8 x425])] := hS446
               refine gx_kA (.slice A441 l439.length c442) w445 ?_
               refine gx_nil ?_
               refine gx_blkN ?_
               refine gx_thenN ?_
               exact ⟨l439, ft431, W432, A441, c442, vs443, selfA_i (by as_aux_lemma => kernel_rfl), (Option.some.inj hO397), (hS446.pick [0, 1, 2, 4, 5, 6, 7] rfl rfl), (Turn.trans hT341 hT434), hf444⟩
            ·intro K449
             refine gd1 0 { dst := some 147, op := _, type := _, pos := _, after := _, guard := _ } (.agg #[.slice A43 l45.length c44, .slice A1 p1.length c1, .int .u8 p2]) rfl (hS331.pick [1, 2, 3, 4, 5, 6] rfl rfl) (fun w hSw => run_loadG (d := _) rfl (by as_aux_lemma => kernel_rfl) (hSw.get 1 rfl) rfl rfl (by as_aux_lemma => kernel_rfl)) ?_
             refine gd1 1 { dst := some 148, op := _, type := _, pos := _, after := _, guard := _ } (.int .i64 x292) rfl (hS331.pick [1, 2, 3, 4, 5, 6] rfl rfl) (fun w hSw => by kernel_rfl) ?_
             refine gd1 3 { dst := some 150, op := _, type := _, pos := _, after := _, guard := _ } (.agg #[.slice A43 l45.length c44, .slice A1 p1.length c1, .int .u8 p2]) rfl (hS331.pick [1, 2, 3, 4, 5, 6] rfl rfl) (fun w hSw => run_loadG (d := _) rfl (by as_aux_lemma => kernel_rfl) (hSw.get 1 rfl) rfl rfl (by as_aux_lemma => kernel_rfl)) ?_
             refine gd1 4 { dst := some 151, op := _, type := _, pos := _, after := _, guard := _ } (.int .i64 x292) rfl (hS331.pick [1, 2, 3, 4, 5, 6] rfl rfl) (fun w hSw => by kernel_rfl) ?_
             refine gd1 6 { dst := some 153, op := _, type := _, pos := _, after := _, guard := _ } (.agg #[.slice A43 l45.length c44, .slice A1 p1.length c1, .int .u8 p2]) rfl (hS331.pick [1, 2, 3, 4, 5, 6] rfl rfl) (fun w hSw => run_loadG (d := _) rfl (by as_aux_lemma => kernel_rfl) (hSw.get 1 rfl) rfl rfl (by as_aux_lemma => kernel_rfl)) ?_
             refine gd1 7 { dst := some 154, op := _, type := _, pos := _, after := _, guard := _ } (.int .i64 x292) rfl (hS331.pick [1, 2, 3, 4, 5, 6] rfl rfl) (fun w hSw => by kernel_rfl) ?_
             refine gd1 8 { dst := some 155, op := _, type := _, pos := _, after := _, guard := _ } (.int .i64 (IntKind.i64.wrap (x292 - 1))) rfl (hS331.pick [1, 2, 3, 4, 5, 6] rfl rfl) (fun w hSw => by kernel_rfl) ?_
             refine gd_fork2 2 12 { dst := some 149, op := _, type := _, pos := _, after := _, guard := _ } { dst := some 18, op := _, type := _, pos := _, after := _, guard := _ } rfl rfl ?_ ?_
             ·have hPz31_328o2_1 : St _ _ w330 ([] ++ [poolE ft284 W285, rowE .i64 3 A43 c44 l45, boxE w0.heap.size [.slice A43 l45.length c44, .slice A1 p1.length c1, .int .u8 p2] 51, rowE .i64 3 A110 c111 l109, rowE .i64 3 Az14_116o3_5 cz14_116o3_6 l126, rowG 4 1 (.slice Az14_116o7_5 lz14_116o7_1.length cz14_116o7_6) lz14_116o7_1.length vs129, rowG 55 4 (.slice A287 l291.length c288) l291.length vs289]) := hS331
              refine gfC 2 { dst := some 149, op := _, type := _, pos := _, after := _, guard := _ } (rLev_R xz31_328o2_3 w330) rfl (by as_aux_lemma => kernel_rfl) (rLev_ok N l45 p1 p2 x292 A43 c44 A1 c1 _ hcz31_328o2_2 w330 (hPz31_328o2_1.vwB 1 rfl) (hPz31_328o2_1.vwA hv1)) ?_
              rintro _ wz31_328o2_4 ⟨rfl, hTz31_328o2_6⟩
              have hSz31_328o2_5 : St _ _ wz31_328o2_4 [poolE ft284 W285, rowE .i64 3 A43 c44 l45, boxE w0.heap.size [.slice A43 l45.length c44, .slice A1 p1.length c1, .int .u8 p2] 51, rowE .i64 3 A110 c111 l109, rowE .i64 3 Az14_116o3_5 cz14_116o3_6 l126, rowG 4 1 (.slice Az14_116o7_5 lz14_116o7_1.length cz14_116o7_6) lz14_116o7_1.length vs129, rowG 55 4 (.slice A287 l291.length c288) l291.length vs289] := hS331.take _ hTz31_328o2_6
              refine ⟨(hSz31_328o2_5.pick [1, 2, 3, 4, 5, 6] rfl rfl), ?_⟩
              refine gd_fork2 5 12 { dst := some 152, op := _, type := _, pos := _, after := _, guard := _ } { dst := some 18, op := _, type := _, pos := _, after := _, guard := _ } rfl rfl ?_ ?_
              ·have hPz31_328o5_1 : St _ _ wz31_328o2_4 ([] ++ [poolE ft284 W285, rowE .i64 3 A43 c44 l45, boxE w0.heap.size [.slice A43 l45.length c44, .slice A1 p1.length c1, .int .u8 p2] 51, rowE .i64 3 A110 c111 l109, rowE .i64 3 Az14_116o3_5 cz14_116o3_6 l126, rowG 4 1 (.slice Az14_116o7_5 lz14_116o7_1.length cz14_116o7_6) lz14_116o7_1.length vs129, rowG 55 4 (.slice A287 l291.length c288) l291.length vs289]) := hSz31_328o2_5
               refine gfC 5 { dst := some 152, op := _, type := _, pos := _, after := _, guard := _ } (rLev_R xz31_328o5_3 wz31_328o2_4) rfl (by as_aux_lemma => kernel_rfl) (rLev_ok N l45 p1 p2 x292 A43 c44 A1 c1 _ hcz31_328o5_2 wz31_328o2_4 (hPz31_328o5_1.vwB 1 rfl) (hPz31_328o5_1.vwA hv1)) ?_
               rintro _ wz31_328o5_4 ⟨rfl, hTz31_328o5_6⟩
               have hSz31_328o5_5 : St _ _ wz31_328o5_4 [poolE ft284 W285, rowE .i64 3 A43 c44 l45, boxE w0.heap.size [.slice A43 l45.length c44, .slice A1 p1.length c1, .int .u8 p2] 51, rowE .i64 3 A110 c111 l109, rowE .i64 3 Az14_116o3_5 cz14_116o3_6 l126, rowG 4 1 (.slice Az14_116o7_5 lz14_116o7_1.length cz14_116o7_6) lz14_116o7_1.length vs129, rowG 55 4 (.slice A287 l291.length c288) l291.length vs289] := hSz31_328o2_5.take _ hTz31_328o5_6
               refine ⟨(hSz31_328o5_5.pick [1, 2, 3, 4, 5, 6] rfl rfl), ?_⟩
               refine gd_fork2 9 12 { dst := some 156, op := _, type := _, pos := _, after := _, guard := _ } { dst := some 18, op := _, type := _, pos := _, after := _, guard := _ } rfl rfl ?_ ?_
               ·have hPz31_328o9_1 : St _ _ wz31_328o5_4 ([] ++ [poolE ft284 W285, rowE .i64 3 A43 c44 l45, boxE w0.heap.size [.slice A43 l45.length c44, .slice A1 p1.length c1, .int .u8 p2] 51, rowE .i64 3 A110 c111 l109, rowE .i64 3 Az14_116o3_5 cz14_116o3_6 l126, rowG 4 1 (.slice Az14_116o7_5 lz14_116o7_1.length cz14_116o7_6) lz14_116o7_1.length vs129, rowG 55 4 (.slice A287 l291.length c288) l291.length vs289]) := hSz31_328o5_5
                refine gfC 9 { dst := some 156, op := _, type := _, pos := _, after := _, guard := _ } (rLev_R xz31_328o9_3 wz31_328o5_4) rfl (by as_aux_lemma => kernel_rfl) (rLev_ok N l45 p1 p2 (IntKind.i64.wrap (x292 - 1)) A43 c44 A1 c1 _ hcz31_328o9_2 wz31_328o5_4 (hPz31_328o9_1.vwB 1 rfl) (hPz31_328o9_1.vwA hv1)) ?_
                rintro _ wz31_328o9_4 ⟨rfl, hTz31_328o9_6⟩
                have hSz31_328o9_5 : St _ _ wz31_328o9_4 [poolE ft284 W285, rowE .i64 3 A43 c44 l45, boxE w0.heap.size [.slice A43 l45.length c44, .slice A1 p1.length c1, .int .u8 p2] 51, rowE .i64 3 A110 c111 l109, rowE .i64 3 Az14_116o3_5 cz14_116o3_6 l126, rowG 4 1 (.slice Az14_116o7_5 lz14_116o7_1.length cz14_116o7_6) lz14_116o7_1.length vs129, rowG 55 4 (.slice A287 l291.length c288) l291.length vs289] := hSz31_328o5_5.take _ hTz31_328o9_6
                refine ⟨(hSz31_328o9_5.pick [1, 2, 3, 4, 5, 6] rfl rfl), ?_⟩
                refine gd_fork2 10 12 { dst := some 157, op := _, type := _, pos := _, after := _, guard := _ } { dst := some 18, op := _, type := _, pos := _, after := _, guard := _ } rfl rfl ?_ ?_
                ·have hPz31_328o10_1 : St _ _ wz31_328o9_4 ([] ++ [poolE ft284 W285, rowE .i64 3 A43 c44 l45, boxE w0.heap.size [.slice A43 l45.length c44, .slice A1 p1.length c1, .int .u8 p2] 51, rowE .i64 3 A110 c111 l109, rowE .i64 3 Az14_116o3_5 cz14_116o3_6 l126, rowG 4 1 (.slice Az14_116o7_5 lz14_116o7_1.length cz14_116o7_6) lz14_116o7_1.length vs129, rowG 55 4 (.slice A287 l291.length c288) l291.length vs289]) := hSz31_328o9_5
                 refine gfC 10 { dst := some 157, op := _, type := _, pos := _, after := _, guard := _ } (rSide_R xz31_328o10_3 wz31_328o9_4) rfl (by as_aux_lemma => kernel_rfl) (rSide_ok N xz31_328o5_3 xz31_328o9_3 _ hcz31_328o10_2 wz31_328o9_4 ) ?_
                 rintro _ wz31_328o10_4 ⟨rfl, hTz31_328o10_6⟩
                 have hSz31_328o10_5 : St _ _ wz31_328o10_4 [poolE ft284 W285, rowE .i64 3 A43 c44 l45, boxE w0.heap.size [.slice A43 l45.length c44, .slice A1 p1.length c1, .int .u8 p2] 51, rowE .i64 3 A110 c111 l109, rowE .i64 3 Az14_116o3_5 cz14_116o3_6 l126, rowG 4 1 (.slice Az14_116o7_5 lz14_116o7_1.length cz14_116o7_6) lz14_116o7_1.length vs129, rowG 55 4 (.slice A287 l291.length c288) l291.length vs289] := hSz31_328o9_5.take _ hTz31_328o10_6
                 refine ⟨(hSz31_328o10_5.pick [1, 2, 3, 4, 5, 6] rfl rfl), ?_⟩
                 refine gd1 11 { dst := some 158, op := _, type := _, pos := _, after := _, guard := _ } (.agg #[.slice none 0 0, .int .u8 xz31_328o2_3, .int .u8 xz31_328o10_3, .int .u8 0]) rfl (hSz31_328o10_5.pick [1, 2, 3, 4, 5, 6] rfl rfl) (fun w hSw => by kernel_rfl) ?_
                 refine gdR 12 { dst := some 18, op := _, type := _, pos := _, after := _, guard := _ } rfl (st_boxed [.slice none 0 0, .int .u8 0, .int .u8 0, .int .u8 0] 55 hSz31_328o10_5 (by as_aux_lemma => kernel_rfl)) ?_
                 rintro _ wz31_328o12_1 ⟨rfl, hSz31_328o12_2⟩
                 have hSz31_328o12_2 : St _ _ wz31_328o12_1 [poolE ft284 W285, rowE .i64 3 A43 c44 l45, boxE w0.heap.size [.slice A43 l45.length c44, .slice A1 p1.length c1, .int .u8 p2] 51, rowE .i64 3 A110 c111 l109, rowE .i64 3 Az14_116o3_5 cz14_116o3_6 l126, rowG 4 1 (.slice Az14_116o7_5 lz14_116o7_1.length cz14_116o7_6) lz14_116o7_1.length vs129, rowG 55 4 (.slice A287 l291.length c288) l291.length vs289, boxE wz31_328o10_4.heap.size [.slice none 0 0, .int .u8 0, .int .u8 0, .int .u8 0] 55] := hSz31_328o12_2
                 refine ⟨(hSz31_328o12_2.pick [1, 2, 3, 4, 5, 6] rfl rfl), ?_⟩
                 refine gdS 13 { dst := none, op := _, type := _, pos := _, after := _, guard := _ } rfl (st_storeG (cs := [.slice none 0 0, .int .u8 0, .int .u8 0, .int .u8 0]) (ds := [.slice none 0 0, .int .u8 xz31_328o2_3, .int .u8 xz31_328o10_3, .int .u8 0]) rfl (by as_aux_lemma => kernel_rfl) (by as_aux_lemma => kernel_rfl) (by as_aux_lemma => kernel_rfl) rfl rfl hSz31_328o12_2 7 rfl) ?_
                 rintro wz31_328o13_1 hSz31_328o13_2
                 have hSz31_328o13_2 : St _ _ wz31_328o13_1 [poolE ft284 W285, rowE .i64 3 A43 c44 l45, boxE w0.heap.size [.slice A43 l45.length c44, .slice A1 p1.length c1, .int .u8 p2] 51, rowE .i64 3 A110 c111 l109, rowE .i64 3 Az14_116o3_5 cz14_116o3_6 l126, rowG 4 1 (.slice Az14_116o7_5 lz14_116o7_1.length cz14_116o7_6) lz14_116o7_1.length vs129, rowG 55 4 (.slice A287 l291.length c288) l291.length vs289, boxE wz31_328o10_4.heap.size [.slice none 0 0, .int .u8 xz31_328o2_3, .int .u8 xz31_328o10_3, .int .u8 0] 55] := hSz31_328o13_2
                 refine ⟨(hSz31_328o13_2.pick [1, 2, 3, 4, 5, 6] rfl rfl), ?_⟩
                 exact gd_meet (by as_aux_lemma => kernel_rfl) (by as_aux_lemma => kernel_rfl) (K449 wz31_328o10_4.heap.size _ hSz31_328o13_2)
                ·refine gfR 12 { dst := some 18, op := _, type := _, pos := _, after := _, guard := _ } rfl (st_boxed [.slice none 0 0, .int .u8 0, .int .u8 0, .int .u8 0] 55 hSz31_328o9_5 (by as_aux_lemma => kernel_rfl)) ?_
                 rintro _ wz31_328o12_1 ⟨rfl, hSz31_328o12_2⟩
                 have hSz31_328o12_2 : St _ _ wz31_328o12_1 [poolE ft284 W285, rowE .i64 3 A43 c44 l45, boxE w0.heap.size [.slice A43 l45.length c44, .slice A1 p1.length c1, .int .u8 p2] 51, rowE .i64 3 A110 c111 l109, rowE .i64 3 Az14_116o3_5 cz14_116o3_6 l126, rowG 4 1 (.slice Az14_116o7_5 lz14_116o7_1.length cz14_116o7_6) lz14_116o7_1.length vs129, rowG 55 4 (.slice A287 l291.length c288) l291.length vs289, boxE wz31_328o9_4.heap.size [.slice none 0 0, .int .u8 0, .int .u8 0, .int .u8 0] 55] := hSz31_328o12_2
                 refine ⟨(hSz31_328o12_2.pick [1, 2, 3, 4, 5, 6] rfl rfl), ?_⟩
                 have hPz31_328o10_1 : St _ _ wz31_328o12_1 ([] ++ [poolE ft284 W285, rowE .i64 3 A43 c44 l45, boxE w0.heap.size [.slice A43 l45.length c44, .slice A1 p1.length c1, .int .u8 p2] 51, rowE .i64 3 A110 c111 l109, rowE .i64 3 Az14_116o3_5 cz14_116o3_6 l126, rowG 4 1 (.slice Az14_116o7_5 lz14_116o7_1.length cz14_116o7_6) lz14_116o7_1.length vs129, rowG 55 4 (.slice A287 l291.length c288) l291.length vs289, boxE wz31_328o9_4.heap.size [.slice none 0 0, .int .u8 0, .int .u8 0, .int .u8 0] 55]) := hSz31_328o12_2
                 refine gdC 10 { dst := some 157, op := _, type := _, pos := _, after := _, guard := _ } (rSide_R xz31_328o10_3 wz31_328o12_1) rfl (by as_aux_lemma => kernel_rfl) (rSide_ok N xz31_328o5_3 xz31_328o9_3 _ hcz31_328o10_2 wz31_328o12_1 ) ?_
                 rintro _ wz31_328o10_4 ⟨rfl, hTz31_328o10_6⟩
                 have hSz31_328o10_5 : St _ _ wz31_328o10_4 [poolE ft284 W285, rowE .i64 3 A43 c44 l45, boxE w0.heap.size [.slice A43 l45.length c44, .slice A1 p1.length c1, .int .u8 p2] 51, rowE .i64 3 A110 c111 l109, rowE .i64 3 Az14_116o3_5 cz14_116o3_6 l126, rowG 4 1 (.slice Az14_116o7_5 lz14_116o7_1.length cz14_116o7_6) lz14_116o7_1.length vs129, rowG 55 4 (.slice A287 l291.length c288) l291.length vs289, boxE wz31_328o9_4.heap.size [.slice none 0 0, .int .u8 0, .int .u8 0, .int .u8 0] 55] := hSz31_328o12_2.take _ hTz31_328o10_6
                 refine ⟨(hSz31_328o10_5.pick [1, 2, 3, 4, 5, 6] rfl rfl), ?_⟩
                 refine gd1 11 { dst := some 158, op := _, type := _, pos := _, after := _, guard := _ } (.agg #[.slice none 0 0, .int .u8 xz31_328o2_3, .int .u8 xz31_328o10_3, .int .u8 0]) rfl (hSz31_328o10_5.pick [1, 2, 3, 4, 5, 6] rfl rfl) (fun w hSw => by kernel_rfl) ?_
                 refine gdS 13 { dst := none, op := _, type := _, pos := _, after := _, guard := _ } rfl (st_storeG (cs := [.slice none 0 0, .int .u8 0, .int .u8 0, .int .u8 0]) (ds := [.slice none 0 0, .int .u8 xz31_328o2_3, .int .u8 xz31_328o10_3, .int .u8 0]) rfl (by as_aux_lemma => kernel_rfl) (by as_aux_lemma => kernel_rfl) (by as_aux_lemma => kernel_rfl) rfl rfl hSz31_328o10_5 7 rfl) ?_
                 rintro wz31_328o13_1 hSz31_328o13_2
                 have hSz31_328o13_2 : St _ _ wz31_328o13_1 [poolE ft284 W285, rowE .i64 3 A43 c44 l45, boxE w0.heap.size [.slice A43 l45.length c44, .slice A1 p1.length c1, .int .u8 p2] 51, rowE .i64 3 A110 c111 l109, rowE .i64 3 Az14_116o3_5 cz14_116o3_6 l126, rowG 4 1 (.slice Az14_116o7_5 lz14_116o7_1.length cz14_116o7_6) lz14_116o7_1.length vs129, rowG 55 4 (.slice A287 l291.length c288) l291.length vs289, boxE wz31_328o9_4.heap.size [.slice none 0 0, .int .u8 xz31_328o2_3, .int .u8 xz31_328o10_3, .int .u8 0] 55] := hSz31_328o13_2
                 refine ⟨(hSz31_328o13_2.pick [1, 2, 3, 4, 5, 6] rfl rfl), ?_⟩
                 exact gd_meet (by as_aux_lemma => kernel_rfl) (by as_aux_lemma => kernel_rfl) (K449 wz31_328o9_4.heap.size _ hSz31_328o13_2)
               ·refine gfR 12 { dst := some 18, op := _, type := _, pos := _, after := _, guard := _ } rfl (st_boxed [.slice none 0 0, .int .u8 0, .int .u8 0, .int .u8 0] 55 hSz31_328o5_5 (by as_aux_lemma => kernel_rfl)) ?_
                rintro _ wz31_328o12_1 ⟨rfl, hSz31_328o12_2⟩
                have hSz31_328o12_2 : St _ _ wz31_328o12_1 [poolE ft284 W285, rowE .i64 3 A43 c44 l45, boxE w0.heap.size [.slice A43 l45.length c44, .slice A1 p1.length c1, .int .u8 p2] 51, rowE .i64 3 A110 c111 l109, rowE .i64 3 Az14_116o3_5 cz14_116o3_6 l126, rowG 4 1 (.slice Az14_116o7_5 lz14_116o7_1.length cz14_116o7_6) lz14_116o7_1.length vs129, rowG 55 4 (.slice A287 l291.length c288) l291.length vs289, boxE wz31_328o5_4.heap.size [.slice none 0 0, .int .u8 0, .int .u8 0, .int .u8 0] 55] := hSz31_328o12_2
                refine ⟨(hSz31_328o12_2.pick [1, 2, 3, 4, 5, 6] rfl rfl), ?_⟩
                have hPz31_328o9_1 : St _ _ wz31_328o12_1 ([] ++ [poolE ft284 W285, rowE .i64 3 A43 c44 l45, boxE w0.heap.size [.slice A43 l45.length c44, .slice A1 p1.length c1, .int .u8 p2] 51, rowE .i64 3 A110 c111 l109, rowE .i64 3 Az14_116o3_5 cz14_116o3_6 l126, rowG 4 1 (.slice Az14_116o7_5 lz14_116o7_1.length cz14_116o7_6) lz14_116o7_1.length vs129, rowG 55 4 (.slice A287 l291.length c288) l291.length vs289, boxE wz31_328o5_4.heap.size [.slice none 0 0, .int .u8 0, .int .u8 0, .int .u8 0] 55]) := hSz31_328o12_2
                refine gdC 9 { dst := some 156, op := _, type := _, pos := _, after := _, guard := _ } (rLev_R xz31_328o9_3 wz31_328o12_1) rfl (by as_aux_lemma => kernel_rfl) (rLev_ok N l45 p1 p2 (IntKind.i64.wrap (x292 - 1)) A43 c44 A1 c1 _ hcz31_328o9_2 wz31_328o12_1 (hPz31_328o9_1.vwB 1 rfl) (hPz31_328o9_1.vwA hv1)) ?_
                rintro _ wz31_328o9_4 ⟨rfl, hTz31_328o9_6⟩
                have hSz31_328o9_5 : St _ _ wz31_328o9_4 [poolE ft284 W285, rowE .i64 3 A43 c44 l45, boxE w0.heap.size [.slice A43 l45.length c44, .slice A1 p1.length c1, .int .u8 p2] 51, rowE .i64 3 A110 c111 l109, rowE .i64 3 Az14_116o3_5 cz14_116o3_6 l126, rowG 4 1 (.slice Az14_116o7_5 lz14_116o7_1.length cz14_116o7_6) lz14_116o7_1.length vs129, rowG 55 4 (.slice A287 l291.length c288) l291.length vs289, boxE wz31_328o5_4.heap.size [.slice none 0 0, .int .u8 0, .int .u8 0, .int .u8 0] 55] := hSz31_328o12_2.take _ hTz31_328o9_6
                refine ⟨(hSz31_328o9_5.pick [1, 2, 3, 4, 5, 6] rfl rfl), ?_⟩
                have hPz31_328o10_1 : St _ _ wz31_328o9_4 ([] ++ [poolE ft284 W285, rowE .i64 3 A43 c44 l45, boxE w0.heap.size [.slice A43 l45.length c44, .slice A1 p1.length c1, .int .u8 p2] 51, rowE .i64 3 A110 c111 l109, rowE .i64 3 Az14_116o3_5 cz14_116o3_6 l126, rowG 4 1 (.slice Az14_116o7_5 lz14_116o7_1.length cz14_116o7_6) lz14_116o7_1.length vs129, rowG 55 4 (.slice A287 l291.length c288) l291.length vs289, boxE wz31_328o5_4.heap.size [.slice none 0 0, .int .u8 0, .int .u8 0, .int .u8 0] 55]) := hSz31_328o9_5
                refine gdC 10 { dst := some 157, op := _, type := _, pos := _, after := _, guard := _ } (rSide_R xz31_328o10_3 wz31_328o9_4) rfl (by as_aux_lemma => kernel_rfl) (rSide_ok N xz31_328o5_3 xz31_328o9_3 _ hcz31_328o10_2 wz31_328o9_4 ) ?_
                rintro _ wz31_328o10_4 ⟨rfl, hTz31_328o10_6⟩
                have hSz31_328o10_5 : St _ _ wz31_328o10_4 [poolE ft284 W285, rowE .i64 3 A43 c44 l45, boxE w0.heap.size [.slice A43 l45.length c44, .slice A1 p1.length c1, .int .u8 p2] 51, rowE .i64 3 A110 c111 l109, rowE .i64 3 Az14_116o3_5 cz14_116o3_6 l126, rowG 4 1 (.slice Az14_116o7_5 lz14_116o7_1.length cz14_116o7_6) lz14_116o7_1.length vs129, rowG 55 4 (.slice A287 l291.length c288) l291.length vs289, boxE wz31_328o5_4.heap.size [.slice none 0 0, .int .u8 0, .int .u8 0, .int .u8 0] 55] := hSz31_328o9_5.take _ hTz31_328o10_6
                refine ⟨(hSz31_328o10_5.pick [1, 2, 3, 4, 5, 6] rfl rfl), ?_⟩
                refine gd1 11 { dst := some 158, op := _, type := _, pos := _, after := _, guard := _ } (.agg #[.slice none 0 0, .int .u8 xz31_328o2_3, .int .u8 xz31_328o10_3, .int .u8 0]) rfl (hSz31_328o10_5.pick [1, 2, 3, 4, 5, 6] rfl rfl) (fun w hSw => by kernel_rfl) ?_
                refine gdS 13 { dst := none, op := _, type := _, pos := _, after := _, guard := _ } rfl (st_storeG (cs := [.slice none 0 0, .int .u8 0, .int .u8 0, .int .u8 0]) (ds := [.slice none 0 0, .int .u8 xz31_328o2_3, .int .u8 xz31_328o10_3, .int .u8 0]) rfl (by as_aux_lemma => kernel_rfl) (by as_aux_lemma => kernel_rfl) (by as_aux_lemma => kernel_rfl) rfl rfl hSz31_328o10_5 7 rfl) ?_
                rintro wz31_328o13_1 hSz31_328o13_2
                have hSz31_328o13_2 : St _ _ wz31_328o13_1 [poolE ft284 W285, rowE .i64 3 A43 c44 l45, boxE w0.heap.size [.slice A43 l45.length c44, .slice A1 p1.length c1, .int .u8 p2] 51, rowE .i64 3 A110 c111 l109, rowE .i64 3 Az14_116o3_5 cz14_116o3_6 l126, rowG 4 1 (.slice Az14_116o7_5 lz14_116o7_1.length cz14_116o7_6) lz14_116o7_1.length vs129, rowG 55 4 (.slice A287 l291.length c288) l291.length vs289, boxE wz31_328o5_4.heap.size [.slice none 0 0, .int .u8 xz31_328o2_3, .int .u8 xz31_328o10_3, .int .u8 0] 55] := hSz31_328o13_2
                refine ⟨(hSz31_328o13_2.pick [1, 2, 3, 4, 5, 6] rfl rfl), ?_⟩
                exact gd_meet (by as_aux_lemma => kernel_rfl) (by as_aux_lemma => kernel_rfl) (K449 wz31_328o5_4.heap.size _ hSz31_328o13_2)
              ·refine gfR 12 { dst := some 18, op := _, type := _, pos := _, after := _, guard := _ } rfl (st_boxed [.slice none 0 0, .int .u8 0, .int .u8 0, .int .u8 0] 55 hSz31_328o2_5 (by as_aux_lemma => kernel_rfl)) ?_
               rintro _ wz31_328o12_1 ⟨rfl, hSz31_328o12_2⟩
               have hSz31_328o12_2 : St _ _ wz31_328o12_1 [poolE ft284 W285, rowE .i64 3 A43 c44 l45, boxE w0.heap.size [.slice A43 l45.length c44, .slice A1 p1.length c1, .int .u8 p2] 51, rowE .i64 3 A110 c111 l109, rowE .i64 3 Az14_116o3_5 cz14_116o3_6 l126, rowG 4 1 (.slice Az14_116o7_5 lz14_116o7_1.length cz14_116o7_6) lz14_116o7_1.length vs129, rowG 55 4 (.slice A287 l291.length c288) l291.length vs289, boxE wz31_328o2_4.heap.size [.slice none 0 0, .int .u8 0, .int .u8 0, .int .u8 0] 55] := hSz31_328o12_2
               refine ⟨(hSz31_328o12_2.pick [1, 2, 3, 4, 5, 6] rfl rfl), ?_⟩
               have hPz31_328o5_1 : St _ _ wz31_328o12_1 ([] ++ [poolE ft284 W285, rowE .i64 3 A43 c44 l45, boxE w0.heap.size [.slice A43 l45.length c44, .slice A1 p1.length c1, .int .u8 p2] 51, rowE .i64 3 A110 c111 l109, rowE .i64 3 Az14_116o3_5 cz14_116o3_6 l126, rowG 4 1 (.slice Az14_116o7_5 lz14_116o7_1.length cz14_116o7_6) lz14_116o7_1.length vs129, rowG 55 4 (.slice A287 l291.length c288) l291.length vs289, boxE wz31_328o2_4.heap.size [.slice none 0 0, .int .u8 0, .int .u8 0, .int .u8 0] 55]) := hSz31_328o12_2
               refine gdC 5 { dst := some 152, op := _, type := _, pos := _, after := _, guard := _ } (rLev_R xz31_328o5_3 wz31_328o12_1) rfl (by as_aux_lemma => kernel_rfl) (rLev_ok N l45 p1 p2 x292 A43 c44 A1 c1 _ hcz31_328o5_2 wz31_328o12_1 (hPz31_328o5_1.vwB 1 rfl) (hPz31_328o5_1.vwA hv1)) ?_
               rintro _ wz31_328o5_4 ⟨rfl, hTz31_328o5_6⟩
               have hSz31_328o5_5 : St _ _ wz31_328o5_4 [poolE ft284 W285, rowE .i64 3 A43 c44 l45, boxE w0.heap.size [.slice A43 l45.length c44, .slice A1 p1.length c1, .int .u8 p2] 51, rowE .i64 3 A110 c111 l109, rowE .i64 3 Az14_116o3_5 cz14_116o3_6 l126, rowG 4 1 (.slice Az14_116o7_5 lz14_116o7_1.length cz14_116o7_6) lz14_116o7_1.length vs129, rowG 55 4 (.slice A287 l291.length c288) l291.length vs289, boxE wz31_328o2_4.heap.size [.slice none 0 0, .int .u8 0, .int .u8 0, .int .u8 0] 55] := hSz31_328o12_2.take _ hTz31_328o5_6
               refine ⟨(hSz31_328o5_5.pick [1, 2, 3, 4, 5, 6] rfl rfl), ?_⟩
               have hPz31_328o9_1 : St _ _ wz31_328o5_4 ([] ++ [poolE ft284 W285, rowE .i64 3 A43 c44 l45, boxE w0.heap.size [.slice A43 l45.length c44, .slice A1 p1.length c1, .int .u8 p2] 51, rowE .i64 3 A110 c111 l109, rowE .i64 3 Az14_116o3_5 cz14_116o3_6 l126, rowG 4 1 (.slice Az14_116o7_5 lz14_116o7_1.length cz14_116o7_6) lz14_116o7_1.length vs129, rowG 55 4 (.slice A287 l291.length c288) l291.length vs289, boxE wz31_328o2_4.heap.size [.slice none 0 0, .int .u8 0, .int .u8 0, .int .u8 0] 55]) := hSz31_328o5_5
               refine gdC 9 { dst := some 156, op := _, type := _, pos := _, after := _, guard := _ } (rLev_R xz31_328o9_3 wz31_328o5_4) rfl (by as_aux_lemma => kernel_rfl) (rLev_ok N l45 p1 p2 (IntKind.i64.wrap (x292 - 1)) A43 c44 A1 c1 _ hcz31_328o9_2 wz31_328o5_4 (hPz31_328o9_1.vwB 1 rfl) (hPz31_328o9_1.vwA hv1)) ?_
               rintro _ wz31_328o9_4 ⟨rfl, hTz31_328o9_6⟩
               have hSz31_328o9_5 : St _ _ wz31_328o9_4 [poolE ft284 W285, rowE .i64 3 A43 c44 l45, boxE w0.heap.size [.slice A43 l45.length c44, .slice A1 p1.length c1, .int .u8 p2] 51, rowE .i64 3 A110 c111 l109, rowE .i64 3 Az14_116o3_5 cz14_116o3_6 l126, rowG 4 1 (.slice Az14_116o7_5 lz14_116o7_1.length cz14_116o7_6) lz14_116o7_1.length vs129, rowG 55 4 (.slice A287 l291.length c288) l291.length vs289, boxE wz31_328o2_4.heap.size [.slice none 0 0, .int .u8 0, .int .u8 0, .int .u8 0] 55] := hSz31_328o5_5.take _ hTz31_328o9_6
               refine ⟨(hSz31_328o9_5.pick [1, 2, 3, 4, 5, 6] rfl rfl), ?_⟩
               have hPz31_328o10_1 : St _ _ wz31_328o9_4 ([] ++ [poolE ft284 W285, rowE .i64 3 A43 c44 l45, boxE w0.heap.size [.slice A43 l45.length c44, .slice A1 p1.length c1, .int .u8 p2] 51, rowE .i64 3 A110 c111 l109, rowE .i64 3 Az14_116o3_5 cz14_116o3_6 l126, rowG 4 1 (.slice Az14_116o7_5 lz14_116o7_1.length cz14_116o7_6) lz14_116o7_1.length vs129, rowG 55 4 (.slice A287 l291.length c288) l291.length vs289, boxE wz31_328o2_4.heap.size [.slice none 0 0, .int .u8 0, .int .u8 0, .int .u8 0] 55]) := hSz31_328o9_5
               refine gdC 10 { dst := some 157, op := _, type := _, pos := _, after := _, guard := _ } (rSide_R xz31_328o10_3 wz31_328o9_4) rfl (by as_aux_lemma => kernel_rfl) (rSide_ok N xz31_328o5_3 xz31_328o9_3 _ hcz31_328o10_2 wz31_328o9_4 ) ?_
               rintro _ wz31_328o10_4 ⟨rfl, hTz31_328o10_6⟩
               have hSz31_328o10_5 : St _ _ wz31_328o10_4 [poolE ft284 W285, rowE .i64 3 A43 c44 l45, boxE w0.heap.size [.slice A43 l45.length c44, .slice A1 p1.length c1, .int .u8 p2] 51, rowE .i64 3 A110 c111 l109, rowE .i64 3 Az14_116o3_5 cz14_116o3_6 l126, rowG 4 1 (.slice Az14_116o7_5 lz14_116o7_1.length cz14_116o7_6) lz14_116o7_1.length vs129, rowG 55 4 (.slice A287 l291.length c288) l291.length vs289, boxE wz31_328o2_4.heap.size [.slice none 0 0, .int .u8 0, .int .u8 0, .int .u8 0] 55] := hSz31_328o9_5.take _ hTz31_328o10_6
               refine ⟨(hSz31_328o10_5.pick [1, 2, 3, 4, 5, 6] rfl rfl), ?_⟩
               refine gd1 11 { dst := some 158, op := _, type := _, pos := _, after := _, guard := _ } (.agg #[.slice none 0 0, .int .u8 xz31_328o2_3, .int .u8 xz31_328o10_3, .int .u8 0]) rfl (hSz31_328o10_5.pick [1, 2, 3, 4, 5, 6] rfl rfl) (fun w hSw => by kernel_rfl) ?_
               refine gdS 13 { dst := none, op := _, type := _, pos := _, after := _, guard := _ } rfl (st_storeG (cs := [.slice none 0 0, .int .u8 0, .int .u8 0, .int .u8 0]) (ds := [.slice none 0 0, .int .u8 xz31_328o2_3, .int .u8 xz31_328o10_3, .int .u8 0]) rfl (by as_aux_lemma => kernel_rfl) (by as_aux_lemma => kernel_rfl) (by as_aux_lemma => kernel_rfl) rfl rfl hSz31_328o10_5 7 rfl) ?_
               rintro wz31_328o13_1 hSz31_328o13_2
               have hSz31_328o13_2 : St _ _ wz31_328o13_1 [poolE ft284 W285, rowE .i64 3 A43 c44 l45, boxE w0.heap.size [.slice A43 l45.length c44, .slice A1 p1.length c1, .int .u8 p2] 51, rowE .i64 3 A110 c111 l109, rowE .i64 3 Az14_116o3_5 cz14_116o3_6 l126, rowG 4 1 (.slice Az14_116o7_5 lz14_116o7_1.length cz14_116o7_6) lz14_116o7_1.length vs129, rowG 55 4 (.slice A287 l291.length c288) l291.length vs289, boxE wz31_328o2_4.heap.size [.slice none 0 0, .int .u8 xz31_328o2_3, .int .u8 xz31_328o10_3, .int .u8 0] 55] := hSz31_328o13_2
               refine ⟨(hSz31_328o13_2.pick [1, 2, 3, 4, 5, 6] rfl rfl), ?_⟩
               exact gd_meet (by as_aux_lemma => kernel_rfl) (by as_aux_lemma => kernel_rfl) (K449 wz31_328o2_4.heap.size _ hSz31_328o13_2)
             ·refine gfR 12 { dst := some 18, op := _, type := _, pos := _, after := _, guard := _ } rfl (st_boxed [.slice none 0 0, .int .u8 0, .int .u8 0, .int .u8 0] 55 hS331 (by as_aux_lemma => kernel_rfl)) ?_
              rintro _ wz31_328o12_1 ⟨rfl, hSz31_328o12_2⟩
              have hSz31_328o12_2 : St _ _ wz31_328o12_1 [poolE ft284 W285, rowE .i64 3 A43 c44 l45, boxE w0.heap.size [.slice A43 l45.length c44, .slice A1 p1.length c1, .int .u8 p2] 51, rowE .i64 3 A110 c111 l109, rowE .i64 3 Az14_116o3_5 cz14_116o3_6 l126, rowG 4 1 (.slice Az14_116o7_5 lz14_116o7_1.length cz14_116o7_6) lz14_116o7_1.length vs129, rowG 55 4 (.slice A287 l291.length c288) l291.length vs289, boxE w330.heap.size [.slice none 0 0, .int .u8 0, .int .u8 0, .int .u8 0] 55] := hSz31_328o12_2
              refine ⟨(hSz31_328o12_2.pick [1, 2, 3, 4, 5, 6] rfl rfl), ?_⟩
              have hPz31_328o2_1 : St _ _ wz31_328o12_1 ([] ++ [poolE ft284 W285, rowE .i64 3 A43 c44 l45, boxE w0.heap.size [.slice A43 l45.length c44, .slice A1 p1.length c1, .int .u8 p2] 51, rowE .i64 3 A110 c111 l109, rowE .i64 3 Az14_116o3_5 cz14_116o3_6 l126, rowG 4 1 (.slice Az14_116o7_5 lz14_116o7_1.length cz14_116o7_6) lz14_116o7_1.length vs129, rowG 55 4 (.slice A287 l291.length c288) l291.length vs289, boxE w330.heap.size [.slice none 0 0, .int .u8 0, .int .u8 0, .int .u8 0] 55]) := hSz31_328o12_2
              refine gdC 2 { dst := some 149, op := _, type := _, pos := _, after := _, guard := _ } (rLev_R xz31_328o2_3 wz31_328o12_1) rfl (by as_aux_lemma => kernel_rfl) (rLev_ok N l45 p1 p2 x292 A43 c44 A1 c1 _ hcz31_328o2_2 wz31_328o12_1 (hPz31_328o2_1.vwB 1 rfl) (hPz31_328o2_1.vwA hv1)) ?_
              rintro _ wz31_328o2_4 ⟨rfl, hTz31_328o2_6⟩
              have hSz31_328o2_5 : St _ _ wz31_328o2_4 [poolE ft284 W285, rowE .i64 3 A43 c44 l45, boxE w0.heap.size [.slice A43 l45.length c44, .slice A1 p1.length c1, .int .u8 p2] 51, rowE .i64 3 A110 c111 l109, rowE .i64 3 Az14_116o3_5 cz14_116o3_6 l126, rowG 4 1 (.slice Az14_116o7_5 lz14_116o7_1.length cz14_116o7_6) lz14_116o7_1.length vs129, rowG 55 4 (.slice A287 l291.length c288) l291.length vs289, boxE w330.heap.size [.slice none 0 0, .int .u8 0, .int .u8 0, .int .u8 0] 55] := hSz31_328o12_2.take _ hTz31_328o2_6
              refine ⟨(hSz31_328o2_5.pick [1, 2, 3, 4, 5, 6] rfl rfl), ?_⟩
              have hPz31_328o5_1 : St _ _ wz31_328o2_4 ([] ++ [poolE ft284 W285, rowE .i64 3 A43 c44 l45, boxE w0.heap.size [.slice A43 l45.length c44, .slice A1 p1.length c1, .int .u8 p2] 51, rowE .i64 3 A110 c111 l109, rowE .i64 3 Az14_116o3_5 cz14_116o3_6 l126, rowG 4 1 (.slice Az14_116o7_5 lz14_116o7_1.length cz14_116o7_6) lz14_116o7_1.length vs129, rowG 55 4 (.slice A287 l291.length c288) l291.length vs289, boxE w330.heap.size [.slice none 0 0, .int .u8 0, .int .u8 0, .int .u8 0] 55]) := hSz31_328o2_5
              refine gdC 5 { dst := some 152, op := _, type := _, pos := _, after := _, guard := _ } (rLev_R xz31_328o5_3 wz31_328o2_4) rfl (by as_aux_lemma => kernel_rfl) (rLev_ok N l45 p1 p2 x292 A43 c44 A1 c1 _ hcz31_328o5_2 wz31_328o2_4 (hPz31_328o5_1.vwB 1 rfl) (hPz31_328o5_1.vwA hv1)) ?_
              rintro _ wz31_328o5_4 ⟨rfl, hTz31_328o5_6⟩
              have hSz31_328o5_5 : St _ _ wz31_328o5_4 [poolE ft284 W285, rowE .i64 3 A43 c44 l45, boxE w0.heap.size [.slice A43 l45.length c44, .slice A1 p1.length c1, .int .u8 p2] 51, rowE .i64 3 A110 c111 l109, rowE .i64 3 Az14_116o3_5 cz14_116o3_6 l126, rowG 4 1 (.slice Az14_116o7_5 lz14_116o7_1.length cz14_116o7_6) lz14_116o7_1.length vs129, rowG 55 4 (.slice A287 l291.length c288) l291.length vs289, boxE w330.heap.size [.slice none 0 0, .int .u8 0, .int .u8 0, .int .u8 0] 55] := hSz31_328o2_5.take _ hTz31_328o5_6
              refine ⟨(hSz31_328o5_5.pick [1, 2, 3, 4, 5, 6] rfl rfl), ?_⟩
              have hPz31_328o9_1 : St _ _ wz31_328o5_4 ([] ++ [poolE ft284 W285, rowE .i64 3 A43 c44 l45, boxE w0.heap.size [.slice A43 l45.length c44, .slice A1 p1.length c1, .int .u8 p2] 51, rowE .i64 3 A110 c111 l109, rowE .i64 3 Az14_116o3_5 cz14_116o3_6 l126, rowG 4 1 (.slice Az14_116o7_5 lz14_116o7_1.length cz14_116o7_6) lz14_116o7_1.length vs129, rowG 55 4 (.slice A287 l291.length c288) l291.length vs289, boxE w330.heap.size [.slice none 0 0, .int .u8 0, .int .u8 0, .int .u8 0] 55]) := hSz31_328o5_5
              refine gdC 9 { dst := some 156, op := _, type := _, pos := _, after := _, guard := _ } (rLev_R xz31_328o9_3 wz31_328o5_4) rfl (by as_aux_lemma => kernel_rfl) (rLev_ok N l45 p1 p2 (IntKind.i64.wrap (x292 - 1)) A43 c44 A1 c1 _ hcz31_328o9_2 wz31_328o5_4 (hPz31_328o9_1.vwB 1 rfl) (hPz31_328o9_1.vwA hv1)) ?_
              rintro _ wz31_328o9_4 ⟨rfl, hTz31_328o9_6⟩
              have hSz31_328o9_5 : St _ _ wz31_328o9_4 [poolE ft284 W285, rowE .i64 3 A43 c44 l45, boxE w0.heap.size [.slice A43 l45.length c44, .slice A1 p1.length c1, .int .u8 p2] 51, rowE .i64 3 A110 c111 l109, rowE .i64 3 Az14_116o3_5 cz14_116o3_6 l126, rowG 4 1 (.slice Az14_116o7_5 lz14_116o7_1.length cz14_116o7_6) lz14_116o7_1.length vs129, rowG 55 4 (.slice A287 l291.length c288) l291.length vs289, boxE w330.heap.size [.slice none 0 0, .int .u8 0, .int .u8 0, .int .u8 0] 55] := hSz31_328o5_5.take _ hTz31_328o9_6
              refine ⟨(hSz31_328o9_5.pick [1, 2, 3, 4, 5, 6] rfl rfl), ?_⟩
              have hPz31_328o10_1 : St _ _ wz31_328o9_4 ([] ++ [poolE ft284 W285, rowE .i64 3 A43 c44 l45, boxE w0.heap.size [.slice A43 l45.length c44, .slice A1 p1.length c1, .int .u8 p2] 51, rowE .i64 3 A110 c111 l109, rowE .i64 3 Az14_116o3_5 cz14_116o3_6 l126, rowG 4 1 (.slice Az14_116o7_5 lz14_116o7_1.length cz14_116o7_6) lz14_116o7_1.length vs129, rowG 55 4 (.slice A287 l291.length c288) l291.length vs289, boxE w330.heap.size [.slice none 0 0, .int .u8 0, .int .u8 0, .int .u8 0] 55]) := hSz31_328o9_5
              refine gdC 10 { dst := some 157, op := _, type := _, pos := _, after := _, guard := _ } (rSide_R xz31_328o10_3 wz31_328o9_4) rfl (by as_aux_lemma => kernel_rfl) (rSide_ok N xz31_328o5_3 xz31_328o9_3 _ hcz31_328o10_2 wz31_328o9_4 ) ?_
              rintro _ wz31_328o10_4 ⟨rfl, hTz31_328o10_6⟩
              have hSz31_328o10_5 : St _ _ wz31_328o10_4 [poolE ft284 W285, rowE .i64 3 A43 c44 l45, boxE w0.heap.size [.slice A43 l45.length c44, .slice A1 p1.length c1, .int .u8 p2] 51, rowE .i64 3 A110 c111 l109, rowE .i64 3 Az14_116o3_5 cz14_116o3_6 l126, rowG 4 1 (.slice Az14_116o7_5 lz14_116o7_1.length cz14_116o7_6) lz14_116o7_1.length vs129, rowG 55 4 (.slice A287 l291.length c288) l291.length vs289, boxE w330.heap.size [.slice none 0 0, .int .u8 0, .int .u8 0, .int .u8 0] 55] := hSz31_328o9_5.take _ hTz31_328o10_6
              refine ⟨(hSz31_328o10_5.pick [1, 2, 3, 4, 5, 6] rfl rfl), ?_⟩
              refine gd1 11 { dst := some 158, op := _, type := _, pos := _, after := _, guard := _ } (.agg #[.slice none 0 0, .int .u8 xz31_328o2_3, .int .u8 xz31_328o10_3, .int .u8 0]) rfl (hSz31_328o10_5.pick [1, 2, 3, 4, 5, 6] rfl rfl) (fun w hSw => by kernel_rfl) ?_
              refine gdS 13 { dst := none, op := _, type := _, pos := _, after := _, guard := _ } rfl (st_storeG (cs := [.slice none 0 0, .int .u8 0, .int .u8 0, .int .u8 0]) (ds := [.slice none 0 0, .int .u8 xz31_328o2_3, .int .u8 xz31_328o10_3, .int .u8 0]) rfl (by as_aux_lemma => kernel_rfl) (by as_aux_lemma => kernel_rfl) (by as_aux_lemma => kernel_rfl) rfl rfl hSz31_328o10_5 7 rfl) ?_
              rintro wz31_328o13_1 hSz31_328o13_2
              have hSz31_328o13_2 : St _ _ wz31_328o13_1 [poolE ft284 W285, rowE .i64 3 A43 c44 l45, boxE w0.heap.size [.slice A43 l45.length c44, .slice A1 p1.length c1, .int .u8 p2] 51, rowE .i64 3 A110 c111 l109, rowE .i64 3 Az14_116o3_5 cz14_116o3_6 l126, rowG 4 1 (.slice Az14_116o7_5 lz14_116o7_1.length cz14_116o7_6) lz14_116o7_1.length vs129, rowG 55 4 (.slice A287 l291.length c288) l291.length vs289, boxE w330.heap.size [.slice none 0 0, .int .u8 xz31_328o2_3, .int .u8 xz31_328o10_3, .int .u8 0] 55] := hSz31_328o13_2
              refine ⟨(hSz31_328o13_2.pick [1, 2, 3, 4, 5, 6] rfl rfl), ?_⟩
              exact gd_meet (by as_aux_lemma => kernel_rfl) (by as_aux_lemma => kernel_rfl) (K449 w330.heap.size _ hSz31_328o13_2)
          ·rintro _ w300 ⟨l310, ft303, W304, A306, c307, vs308, hq450, rfl, hS301, hT305, hf309⟩
           obtain ⟨u302, rfl⟩ := selfA_u hq450
           try dsimp only at hO313
           refine gx_region ?_
           refine gx_kA (.int .i64 x292) w300 (gx_kA (.int .i64 (IntKind.i64.wrap (x292 + 1))) w300 (gx_kA (.int .i64 (IntKind.i64.wrap (x292 + 1))) w300 ?_))
           refine gx_nil ?_
           refine gx_thenN ?_
           exact ⟨k293, Nat.lt_succ_self k293, l310, (IntKind.i64.wrap (x292 + 1)), ft303, W304, A306, c307, vs308, selfA_i (by as_aux_lemma => kernel_rfl), hO313, hS301, (Turn.trans hT286 hT305), hf309⟩
         ·refine gx_vA (.bool false) w281 (run_boolE (decide_eq_false h299) (by as_aux_lemma => kernel_rfl)) ?_
          refine gx_nil ?_
          refine gx_thenN ?_
          refine hK298 _ _ ?_
          refine gx_no (by as_aux_lemma => kernel_rfl) ?_
          refine gx_exit ?_
          refine gx_thenE ?_
          refine gx_thenE ?_
          refine gx_blkE ?_
          refine gx_thenN ?_
          exact ⟨l291, ft284, W285, A287, c288, vs289, selfA_i (by as_aux_lemma => kernel_rfl), (Option.some.inj hL294), (hS282.pick [0, 1, 2, 6] rfl rfl), hT286, hf290⟩
      ·rintro _ w263 ⟨l273, ft266, W267, A269, c270, vs271, hq455, rfl, hS264, hT268, hf272⟩
       obtain ⟨u265, rfl⟩ := selfA_u hq455
       try dsimp only at hO276
       refine gx_seq (fun K452 hK453 => ?_)
       refine gx_region ?_
       refine gx_kA (.slice A269 l273.length c270) w263 (gx_kA (.slice A269 l273.length c270) w263 (gx_kA (.int .i64 0) w263 ?_))
       refine gx_nil ?_
       refine gx_thenN ?_
       refine hK453 _ _ ?_
       refine gx_ret ?_
       have hS454 : St _ _ w263 [poolE ft266 w263, rowE .i64 3 A43 c44 l45, boxE w0.heap.size [.slice A43 l45.length c44, .slice A1 p1.length c1, .int .u8 p2] 51, rowG 55 4 (.slice A269 l273.length c270) l273.length vs271] := hS264.renew 0 rfl
       obtain rfl := Option.some.inj hO276
       exact gx_fin (.tuple #[.slice A269 l273.length c270, .int .i64 0]) (by as_aux_lemma => kernel_rfl) (by as_aux_lemma => kernel_rfl) ⟨_, rfl, A269, c270, vs271, ft266, rfl, (hS454.pick [3, 0] rfl rfl), (hS264.now 0 rfl hf272)⟩
    ·intro K457
     refine gd1 0 { dst := some 62, op := _, type := _, pos := _, after := _, guard := _ } (.pointer (some ⟨w0.heap.size, 0, none⟩)) rfl hS119 (fun w hSw => by kernel_rfl) ?_
     refine gd1 1 { dst := some 63, op := _, type := _, pos := _, after := _, guard := _ } (.slice A43 l45.length c44) rfl hS119 (fun w hSw => run_load1 rfl (by as_aux_lemma => kernel_rfl) (fun _ => by kernel_rfl) (hSw.box 2 rfl 0 rfl)) ?_
     refine gd1 2 { dst := some 64, op := _, type := _, pos := _, after := _, guard := _ } (.int .i64 ((l45.length : Nat) : Int)) rfl hS119 (fun w hSw => by kernel_rfl) ?_
     refine gd1 4 { dst := some 66, op := _, type := _, pos := _, after := _, guard := _ } (.pointer (some ⟨w0.heap.size, 0, none⟩)) rfl hS119 (fun w hSw => by kernel_rfl) ?_
     refine gd1 5 { dst := some 67, op := _, type := _, pos := _, after := _, guard := _ } (.slice A43 l45.length c44) rfl hS119 (fun w hSw => run_load1 rfl (by as_aux_lemma => kernel_rfl) (fun _ => by kernel_rfl) (hSw.box 2 rfl 0 rfl)) ?_
     refine gd1 6 { dst := some 68, op := _, type := _, pos := _, after := _, guard := _ } (.int .i64 ((l45.length : Nat) : Int)) rfl hS119 (fun w hSw => by kernel_rfl) ?_
     refine gd_fork2 3 7 { dst := some 65, op := _, type := _, pos := _, after := _, guard := _ } { dst := some 69, op := _, type := _, pos := _, after := _, guard := _ } rfl rfl ?_ ?_
     ·skip
      refine gfR 3 { dst := some 65, op := _, type := _, pos := _, after := _, guard := _ } rfl (st_make (T := 3) (k := .i64) (by_ := 8) rfl (by as_aux_lemma => kernel_rfl) (by as_aux_lemma => kernel_rfl) (by as_aux_lemma => kernel_rfl) (by as_aux_lemma => kernel_rfl) (by as_aux_lemma => kernel_rfl) hS119 hmz14_116o3_2) ?_
      rintro _ wz14_116o3_3 ⟨Az14_116o3_5, cz14_116o3_6, rfl, hSz14_116o3_4⟩
      have hSz14_116o3_4 : St _ _ wz14_116o3_3 [poolE ft40 W41, rowE .i64 3 A43 c44 l45, boxE w0.heap.size [.slice A43 l45.length c44, .slice A1 p1.length c1, .int .u8 p2] 51, rowE .i64 3 A35 c36 l47, rowE .i64 3 A110 c111 l109, rowE .i64 3 Az14_116o3_5 cz14_116o3_6 lz14_116o3_1] := hSz14_116o3_4
      refine ⟨(hSz14_116o3_4.pick [0, 1, 2, 3, 4] rfl rfl), ?_⟩
      refine gd1 8 { dst := some 12, op := _, type := _, pos := _, after := _, guard := _ } (.slice Az14_116o3_5 lz14_116o3_1.length cz14_116o3_6) rfl (hSz14_116o3_4.pick [0, 1, 2, 3, 4] rfl rfl) (fun w hSw => by kernel_rfl) ?_
      refine gdR 7 { dst := some 69, op := _, type := _, pos := _, after := _, guard := _ } rfl (st_makeP (k1 := .i64) (k2 := .i64) (e := boolE) (T := 4) (by_ := 1) (z := (.bool false)) (W := W41) (ft := ft40) rfl (by as_aux_lemma => kernel_rfl) (by as_aux_lemma => kernel_rfl) (by as_aux_lemma => kernel_rfl) (by as_aux_lemma => kernel_rfl) (by as_aux_lemma => kernel_rfl) (by decide) (rd_bool false) hSz14_116o3_4 hmz14_116o7_2) ?_
      rintro _ wz14_116o7_3 ⟨Az14_116o7_5, cz14_116o7_6, vsz14_116o7_7, rfl, hfz14_116o7_8, hSz14_116o7_4⟩
      have hSz14_116o7_4 : St _ _ wz14_116o7_3 [poolE ft40 W41, rowE .i64 3 A43 c44 l45, boxE w0.heap.size [.slice A43 l45.length c44, .slice A1 p1.length c1, .int .u8 p2] 51, rowE .i64 3 A35 c36 l47, rowE .i64 3 A110 c111 l109, rowE .i64 3 Az14_116o3_5 cz14_116o3_6 lz14_116o3_1, rowG 4 1 (.slice Az14_116o7_5 lz14_116o7_1.length cz14_116o7_6) lz14_116o7_1.length vsz14_116o7_7] := hSz14_116o7_4
      refine ⟨(hSz14_116o7_4.pick [0, 1, 2, 3, 4] rfl rfl), ?_⟩
      refine gd1 9 { dst := some 13, op := _, type := _, pos := _, after := _, guard := _ } (.slice Az14_116o7_5 lz14_116o7_1.length cz14_116o7_6) rfl (hSz14_116o7_4.pick [0, 1, 2, 3, 4] rfl rfl) (fun w hSw => by kernel_rfl) ?_
      exact gd_meet (by as_aux_lemma => kernel_rfl) (by as_aux_lemma => kernel_rfl) (K457 (Az14_116o3_5, cz14_116o3_6, Az14_116o7_5, cz14_116o7_6, vsz14_116o7_7) _ ⟨hfz14_116o7_8, hSz14_116o7_4⟩)
     ·skip
      refine gfR 7 { dst := some 69, op := _, type := _, pos := _, after := _, guard := _ } rfl (st_makeP (k1 := .i64) (k2 := .i64) (e := boolE) (T := 4) (by_ := 1) (z := (.bool false)) (W := W41) (ft := ft40) rfl (by as_aux_lemma => kernel_rfl) (by as_aux_lemma => kernel_rfl) (by as_aux_lemma => kernel_rfl) (by as_aux_lemma => kernel_rfl) (by as_aux_lemma => kernel_rfl) (by decide) (rd_bool false) hS119 hmz14_116o7_2) ?_
      rintro _ wz14_116o7_3 ⟨Az14_116o7_5, cz14_116o7_6, vsz14_116o7_7, rfl, hfz14_116o7_8, hSz14_116o7_4⟩
      have hSz14_116o7_4 : St _ _ wz14_116o7_3 [poolE ft40 W41, rowE .i64 3 A43 c44 l45, boxE w0.heap.size [.slice A43 l45.length c44, .slice A1 p1.length c1, .int .u8 p2] 51, rowE .i64 3 A35 c36 l47, rowE .i64 3 A110 c111 l109, rowG 4 1 (.slice Az14_116o7_5 lz14_116o7_1.length cz14_116o7_6) lz14_116o7_1.length vsz14_116o7_7] := hSz14_116o7_4
      refine ⟨(hSz14_116o7_4.pick [0, 1, 2, 3, 4] rfl rfl), ?_⟩
      refine gdR 3 { dst := some 65, op := _, type := _, pos := _, after := _, guard := _ } rfl (st_make (T := 3) (k := .i64) (by_ := 8) rfl (by as_aux_lemma => kernel_rfl) (by as_aux_lemma => kernel_rfl) (by as_aux_lemma => kernel_rfl) (by as_aux_lemma => kernel_rfl) (by as_aux_lemma => kernel_rfl) hSz14_116o7_4 hmz14_116o3_2) ?_
      rintro _ wz14_116o3_3 ⟨Az14_116o3_5, cz14_116o3_6, rfl, hSz14_116o3_4⟩
      have hSz14_116o3_4 : St _ _ wz14_116o3_3 [poolE ft40 W41, rowE .i64 3 A43 c44 l45, boxE w0.heap.size [.slice A43 l45.length c44, .slice A1 p1.length c1, .int .u8 p2] 51, rowE .i64 3 A35 c36 l47, rowE .i64 3 A110 c111 l109, rowG 4 1 (.slice Az14_116o7_5 lz14_116o7_1.length cz14_116o7_6) lz14_116o7_1.length vsz14_116o7_7, rowE .i64 3 Az14_116o3_5 cz14_116o3_6 lz14_116o3_1] := hSz14_116o3_4
      refine ⟨(hSz14_116o3_4.pick [0, 1, 2, 3, 4] rfl rfl), ?_⟩
      refine gd1 8 { dst := some 12, op := _, type := _, pos := _, after := _, guard := _ } (.slice Az14_116o3_5 lz14_116o3_1.length cz14_116o3_6) rfl (hSz14_116o3_4.pick [0, 1, 2, 3, 4] rfl rfl) (fun w hSw => by kernel_rfl) ?_
      refine gd1 9 { dst := some 13, op := _, type := _, pos := _, after := _, guard := _ } (.slice Az14_116o7_5 lz14_116o7_1.length cz14_116o7_6) rfl (hSz14_116o3_4.pick [0, 1, 2, 3, 4] rfl rfl) (fun w hSw => by kernel_rfl) ?_
      exact gd_meet (by as_aux_lemma => kernel_rfl) (by as_aux_lemma => kernel_rfl) (K457 (Az14_116o3_5, cz14_116o3_6, Az14_116o7_5, cz14_116o7_6, vsz14_116o7_7) _ ⟨hfz14_116o7_8, (hSz14_116o3_4.pick [0, 1, 2, 3, 4, 6, 5] rfl rfl)⟩)

end Go.Proofs.Ytjndolnjhbgflaa
