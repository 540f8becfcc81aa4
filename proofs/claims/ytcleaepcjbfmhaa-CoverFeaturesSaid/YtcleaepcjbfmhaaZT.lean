/-
  The document's features, walked.
-/
import Derived.Test.YtcleaepcjbfmhaaZS
namespace Go.Proofs.Ytcleaepcjbfmhaa
open Go Go.RowKit
set_option linter.unusedVariables false

def rAll4 (_N : Nat) (p0 : List Int) (p1 : Int) (p2 : Int) : Option (Bool) :=
 (((if p1 ≥ 0 then (if p2 ≥ 0 then some (true) else some (false)) else some (false)) : Option (Bool)).bind fun b8 => (((match b8 with | true => (if p1 ≤ ((p0.length : Nat) : Int) then some (true) else some (false)) | false => some (false)) : Option (Bool)).bind fun b18 => (match b18 with | true => some (decide (p2 ≤ (IntKind.i64.wrap (((p0.length : Nat) : Int) - p1)))) | false => some false)))

set_option linter.unusedVariables false in
def rAll4_R (r : Bool) (w0 : World) (v : Value) (w : World) : Prop := v = .bool r ∧ St [] w0 w []

set_option maxRecDepth 100000 in
set_option maxHeartbeats 4000000 in
theorem rAll4_ok (N : Nat) (p0 : List Int) (p1 : Int) (p2 : Int) (A0 : Option Addr) (c0 : Nat) (r : Bool) (hF : rAll4 N p0 p1 p2 = some r) (w0 : World) (_hv0 : Vw [] .u8 w0 A0 c0 p0) :
  Calls Try.prog 33 #[.slice A0 p0.length c0, .int .i64 p1, .int .i64 p2] w0 fun e w => ∃ v, e = .returned v ∧ rAll4_R r w0 v w := by
 have hS0 := St.start w0
 unfold rAll4 at hF
 refine calls_of Try.func33 rfl ⟨((.slice A0 p0.length c0) :: (.int .i64 p1) :: (.int .i64 p2) :: un 24 ([])).toArray, []⟩ (by kernel_rfl) ?_
 refine gx_seq (fun K1 hK2 => ?_)
 refine gx_region ?_
 refine gx_k (.bool false) w0 ?_
 refine gx_nil ?_
 refine gx_thenN ?_
 refine hK2 _ _ ?_
 refine gx_seq (fun K3 hK4 => ?_)
 refine gx_region ?_
 refine gx_k (.int .i64 p1) w0 ?_
 obtain ⟨c9, hE10, hO11⟩ := bind_in hF
 refine gx_part (l1 := [_, _, _, _, _]) (fun a w => ∃ (b8 : Bool), selfA (fun u7 => ⟨((.slice A0 p0.length c0) :: (.int .i64 p1) :: (.int .i64 p2) :: un 3 ((.bool false) :: (.int .i64 p1) :: dd u7 8 4 ((.bool b8) :: un 14 ([])))).toArray, []⟩) a ∧ b8 = c9 ∧ St [] w0 w []) rfl ?_ ?_
 ·rcases if_in hE10 with ⟨h13, hE10⟩ | ⟨h13, hE10⟩
  ·refine gx_v (.bool true) w0 (run_boolE (decide_eq_true h13) (by kernel_rfl)) ?_
   refine gx_k (.bool true) w0 (gx_k (.int .i64 p2) w0 ?_)
   rcases if_in hE10 with ⟨h14, hE10⟩ | ⟨h14, hE10⟩
   ·refine gx_v (.bool true) w0 (run_boolE (decide_eq_true h14) (by kernel_rfl)) ?_
    refine gx_k (.bool true) w0 ?_
    refine gx_nil ?_
    refine gx_thenN ?_
    exact ⟨true, selfA_i (by kernel_rfl), (Option.some.inj hE10), hS0⟩
   ·refine gx_v (.bool false) w0 (run_boolE (decide_eq_false h14) (by kernel_rfl)) ?_
    refine gx_k (.bool false) w0 ?_
    refine gx_nil ?_
    refine gx_thenN ?_
    exact ⟨false, selfA_i (by kernel_rfl), (Option.some.inj hE10), hS0⟩
  ·refine gx_v (.bool false) w0 (run_boolE (decide_eq_false h13) (by kernel_rfl)) ?_
   refine gx_k (.bool false) w0 (gx_o (gx_o (gx_k (.bool false) w0 ?_)))
   refine gx_nil ?_
   refine gx_thenN ?_
   exact ⟨false, selfA_i (by kernel_rfl), (Option.some.inj hE10), hS0⟩
 ·rintro _ w5 ⟨b8, hq12, rfl, hS6⟩
  obtain ⟨u7, rfl⟩ := selfA_u hq12
  try dsimp only at hO11
  obtain ⟨c19, hE20, hO21⟩ := bind_in hO11
  refine gx_part (l1 := [_, _, _, _, _, _]) (fun a w => ∃ (b18 : Bool), selfA (fun u17 => ⟨((.slice A0 p0.length c0) :: (.int .i64 p1) :: (.int .i64 p2) :: un 3 ((.bool false) :: (.int .i64 p1) :: dd u7 8 4 ((.bool b8) :: dd u17 13 5 ((.bool b18) :: un 8 ([]))))).toArray, []⟩) a ∧ b18 = c19 ∧ St [] w0 w []) rfl ?_ ?_
  ·refine gx_k (.bool b8) w5 ?_
   cases b8 with
   | true =>
    try dsimp only at hE20
    refine gx_k (.int .i64 p1) w5 (gx_k (.slice A0 p0.length c0) w5 (gx_k (.int .i64 ((p0.length : Nat) : Int)) w5 ?_))
    rcases if_in hE20 with ⟨h23, hE20⟩ | ⟨h23, hE20⟩
    ·refine gx_v (.bool true) w5 (run_boolE (decide_eq_true h23) (by kernel_rfl)) ?_
     refine gx_k (.bool true) w5 ?_
     refine gx_nil ?_
     refine gx_thenN ?_
     exact ⟨true, selfA_i (by kernel_rfl), (Option.some.inj hE20), hS6⟩
    ·refine gx_v (.bool false) w5 (run_boolE (decide_eq_false h23) (by kernel_rfl)) ?_
     refine gx_k (.bool false) w5 ?_
     refine gx_nil ?_
     refine gx_thenN ?_
     exact ⟨false, selfA_i (by kernel_rfl), (Option.some.inj hE20), hS6⟩
   | false =>
    try dsimp only at hE20
    refine gx_o (gx_o (gx_o (gx_o (gx_k (.bool false) w5 ?_))))
    refine gx_nil ?_
    refine gx_thenN ?_
    exact ⟨false, selfA_i (by kernel_rfl), (Option.some.inj hE20), hS6⟩
  ·rintro _ w15 ⟨b18, hq22, rfl, hS16⟩
   obtain ⟨u17, rfl⟩ := selfA_u hq22
   try dsimp only at hO21
   refine gx_k (.bool b18) w15 ?_
   cases b18 with
   | true =>
    try dsimp only at hO21
    refine gx_k (.int .i64 p2) w15 (gx_k (.slice A0 p0.length c0) w15 (gx_k (.int .i64 ((p0.length : Nat) : Int)) w15 (gx_k (.int .i64 p1) w15 (gx_k (.int .i64 (IntKind.i64.wrap (((p0.length : Nat) : Int) - p1))) w15 (gx_k (.bool (decide (p2 ≤ (IntKind.i64.wrap (((p0.length : Nat) : Int) - p1))))) w15 (gx_k (.bool (decide (p2 ≤ (IntKind.i64.wrap (((p0.length : Nat) : Int) - p1))))) w15 (gx_k (.bool (decide (p2 ≤ (IntKind.i64.wrap (((p0.length : Nat) : Int) - p1))))) w15 ?_)))))))
    refine gx_nil ?_
    refine gx_thenN ?_
    refine hK4 _ _ ?_
    refine gx_ret ?_
    obtain rfl := Option.some.inj hO21
    exact gx_fin (.bool (decide (p2 ≤ (IntKind.i64.wrap (((p0.length : Nat) : Int) - p1))))) (by kernel_rfl) (by kernel_rfl) ⟨_, rfl, rfl, hS16⟩
   | false =>
    try dsimp only at hO21
    refine gx_o (gx_o (gx_o (gx_o (gx_o (gx_o (gx_k (.bool false) w15 (gx_k (.bool false) w15 ?_)))))))
    refine gx_nil ?_
    refine gx_thenN ?_
    refine hK4 _ _ ?_
    refine gx_ret ?_
    obtain rfl := Option.some.inj hO21
    exact gx_fin (.bool false) (by kernel_rfl) (by kernel_rfl) ⟨_, rfl, rfl, hS16⟩

def rNum4_L1 (N : Nat) (p0 : List Int) (p1 : Int) (p2 : Int) : Nat → Int → Int → Option (Int)
 | 0, _, _ => none
 | k29+1, x27, x28 => (if x28 < p2 then ((ix p0 (IntKind.i64.wrap (p1 + x28))).bind fun x38 => rNum4_L1 N p0 p1 p2 k29 (IntKind.u32.wrap ((IntKind.u32.wrap (x27 * 256)) + (IntKind.u32.wrap x38))) (IntKind.i64.wrap (x28 + 1))) else some (x27))
def rNum4 (N : Nat) (p0 : List Int) (p1 : Int) (p2 : Int) : Option (Int) :=
 ((rAll4 N p0 p1 p2).bind fun b9 => (match b9 with | true => ((rNum4_L1 N p0 p1 p2 N 0 0 : Option (Int)).bind fun x18 => some x18) | false => some 0))

set_option linter.unusedVariables false in
def rNum4_R (r : Int) (w0 : World) (v : Value) (w : World) : Prop := v = .int .u32 r ∧ St [] w0 w []

set_option maxRecDepth 100000 in
set_option maxHeartbeats 4000000 in
theorem rNum4_ok (N : Nat) (p0 : List Int) (p1 : Int) (p2 : Int) (A0 : Option Addr) (c0 : Nat) (r : Int) (hF : rNum4 N p0 p1 p2 = some r) (w0 : World) (hv0 : Vw [] .u8 w0 A0 c0 p0) :
  Calls Try.prog 32 #[.slice A0 p0.length c0, .int .i64 p1, .int .i64 p2] w0 fun e w => ∃ v, e = .returned v ∧ rNum4_R r w0 v w := by
 have hS0 := St.start w0
 unfold rNum4 at hF
 refine calls_of Try.func32 rfl ⟨((.slice A0 p0.length c0) :: (.int .i64 p1) :: (.int .i64 p2) :: un 27 ([])).toArray, []⟩ (by kernel_rfl) ?_
 refine gx_seq (fun K1 hK2 => ?_)
 refine gx_region ?_
 refine gx_k (.int .u32 0) w0 ?_
 refine gx_nil ?_
 refine gx_thenN ?_
 refine hK2 _ _ ?_
 refine gx_seq (fun K3 hK4 => ?_)
 refine gx_seq (fun K5 hK6 => ?_)
 refine gx_region ?_
 refine gx_k (.slice A0 p0.length c0) w0 (gx_k (.int .i64 p1) w0 (gx_k (.int .i64 p2) w0 ?_))
 have hP7 : St _ _ w0 ([] ++ []) := hS0
 obtain ⟨b9, hc8, hF⟩ := bind_in hF
 try dsimp only at hF
 refine gx_c (rAll4_R b9 w0) (rAll4_ok N p0 p1 p2 A0 c0 _ hc8 w0 (hP7.vwA hv0)) ?_
 rintro _ w10 ⟨rfl, hT12⟩
 have hS11 : St _ _ w10 [] := hS0.take _ hT12
 cases b9 with
 | true =>
  try dsimp only at hF
  refine gx_k (.bool false) w10 ?_
  refine gx_nil ?_
  refine gx_thenN ?_
  refine hK6 _ _ ?_
  refine gx_no (by kernel_rfl) ?_
  refine gx_pass ?_
  refine gx_thenN ?_
  refine hK4 _ _ ?_
  refine gx_seq (fun K13 hK14 => ?_)
  refine gx_region ?_
  refine gx_k (.int .u32 0) w10 ?_
  refine gx_nil ?_
  refine gx_thenN ?_
  refine hK14 _ _ ?_
  obtain ⟨c19, hE20, hO21⟩ := bind_in hF
  refine gx_cut (fun a w => ∃ (x18 : Int), selfA (fun u17 => ⟨((u17 0) :: (.int .i64 p1) :: (.int .i64 p2) :: un 3 ((.int .u32 0) :: (.int .u32 x18) :: dd u17 8 2 ((.int .i64 p1) :: (.int .i64 p2) :: (.bool true) :: (.bool false) :: dd u17 14 15 (undef :: [])))).toArray, []⟩) a ∧ x18 = c19 ∧ St [] w0 w []) ?_ ?_
  ·refine gx_seq (fun K22 hK23 => ?_)
   refine gx_region ?_
   refine gx_k (.int .i64 0) w10 ?_
   refine gx_nil ?_
   refine gx_thenN ?_
   refine hK23 _ _ ?_
   refine gx_block ?_
   refine gx_loop (fun k a w => ∃ (x27 : Int) (x28 : Int), selfA (fun u26 => ⟨((.slice A0 p0.length c0) :: (.int .i64 p1) :: (.int .i64 p2) :: un 3 ((.int .u32 0) :: (.int .u32 x27) :: (.int .i64 x28) :: (u26 9) :: (.int .i64 p1) :: (.int .i64 p2) :: (.bool true) :: (.bool false) :: dd u26 14 15 (undef :: []))).toArray, []⟩) a ∧ rNum4_L1 N p0 p1 p2 k x27 x28 = some c19 ∧ St [] w0 w []) N ?_ ?_
   ·exact ⟨0, 0, selfA_i (by kernel_rfl), hE20, hS11⟩
   ·rintro k29 _ w24 ⟨x27, x28, hq40, hL30, hS25⟩
    obtain ⟨u26, rfl⟩ := selfA_u hq40
    cases k29 with
    | zero => cases hL30
    | succ k29 =>
     first | rw [rNum4_L1] at hL30 | unfold rNum4_L1 at hL30
     refine gx_seq (fun K31 hK32 => ?_)
     refine gx_seq (fun K33 hK34 => ?_)
     refine gx_region ?_
     refine gx_k (.int .i64 x28) w24 (gx_k (.int .i64 p2) w24 ?_)
     rcases if_in hL30 with ⟨h35, hL30⟩ | ⟨h35, hL30⟩
     ·refine gx_v (.bool true) w24 (run_boolE (decide_eq_true h35) (by kernel_rfl)) ?_
      refine gx_nil ?_
      refine gx_thenN ?_
      refine hK34 _ _ ?_
      refine gx_yes (by kernel_rfl) ?_
      refine gx_pass ?_
      refine gx_thenN ?_
      refine hK32 _ _ ?_
      refine gx_seq (fun K36 hK37 => ?_)
      refine gx_block ?_
      refine gx_region ?_
      refine gx_k (.int .u32 x27) w24 (gx_k (.int .u32 (IntKind.u32.wrap (x27 * 256))) w24 (gx_k (.slice A0 p0.length c0) w24 (gx_k (.int .i64 p1) w24 (gx_k (.int .i64 x28) w24 (gx_k (.int .i64 (IntKind.i64.wrap (p1 + x28))) w24 ?_)))))
      obtain ⟨x38, hx39, hL30⟩ := bind_in hL30
      refine gx_v (.pointer (Option.map (fun (p : Addr) => p.add (Int.toNat (IntKind.i64.wrap (p1 + x28)) * 1)) A0)) w24 (run_ixaddr (E := 5) (s := 1) (k := .i64) (c := c0) rfl (by kernel_rfl) (by kernel_rfl) (by kernel_rfl) (fun _ => by kernel_rfl) (ix_in hx39).1 (ix_in hx39).2.1 (num_nil (hS25.view hv0))) ?_
      refine gx_v (.int .u8 x38) w24 (run_loadix rfl (by kernel_rfl) (fun _ => by kernel_rfl) (hS25.view hv0) hx39) ?_
      refine gx_k (.int .u32 (IntKind.u32.wrap x38)) w24 (gx_k (.int .u32 (IntKind.u32.wrap ((IntKind.u32.wrap (x27 * 256)) + (IntKind.u32.wrap x38)))) w24 (gx_k (.int .u32 (IntKind.u32.wrap ((IntKind.u32.wrap (x27 * 256)) + (IntKind.u32.wrap x38)))) w24 ?_))
      refine gx_nil ?_
      refine gx_blkN ?_
      refine gx_thenN ?_
      refine hK37 _ _ ?_
      refine gx_region ?_
      refine gx_k (.int .i64 x28) w24 (gx_k (.int .i64 (IntKind.i64.wrap (x28 + 1))) w24 (gx_k (.int .i64 (IntKind.i64.wrap (x28 + 1))) w24 ?_))
      refine gx_nil ?_
      refine gx_thenN ?_
      exact ⟨k29, Nat.lt_succ_self k29, (IntKind.u32.wrap ((IntKind.u32.wrap (x27 * 256)) + (IntKind.u32.wrap x38))), (IntKind.i64.wrap (x28 + 1)), selfA_i (by kernel_rfl), hL30, hS25⟩
     ·refine gx_v (.bool false) w24 (run_boolE (decide_eq_false h35) (by kernel_rfl)) ?_
      refine gx_nil ?_
      refine gx_thenN ?_
      refine hK34 _ _ ?_
      refine gx_no (by kernel_rfl) ?_
      refine gx_exit ?_
      refine gx_thenE ?_
      refine gx_thenE ?_
      refine gx_blkE ?_
      refine gx_thenN ?_
      exact ⟨x27, selfA_i (by kernel_rfl), (Option.some.inj hL30), hS25⟩
  ·rintro _ w15 ⟨x18, hq43, rfl, hS16⟩
   obtain ⟨u17, rfl⟩ := selfA_u hq43
   try dsimp only at hO21
   refine gx_seq (fun K41 hK42 => ?_)
   refine gx_region ?_
   refine gx_k (.int .u32 x18) w15 (gx_k (.int .u32 x18) w15 ?_)
   refine gx_nil ?_
   refine gx_thenN ?_
   refine hK42 _ _ ?_
   refine gx_ret ?_
   obtain rfl := Option.some.inj hO21
   exact gx_fin (.int .u32 x18) (by kernel_rfl) (by kernel_rfl) ⟨_, rfl, rfl, hS16⟩
 | false =>
  try dsimp only at hF
  refine gx_k (.bool true) w10 ?_
  refine gx_nil ?_
  refine gx_thenN ?_
  refine hK6 _ _ ?_
  refine gx_yes (by kernel_rfl) ?_
  refine gx_seq (fun K44 hK45 => ?_)
  refine gx_region ?_
  refine gx_k (.int .u32 0) w10 ?_
  refine gx_nil ?_
  refine gx_thenN ?_
  refine hK45 _ _ ?_
  refine gx_ret ?_
  refine gx_thenR ?_
  obtain rfl := Option.some.inj hF
  exact gx_fin (.int .u32 0) (by kernel_rfl) (by kernel_rfl) ⟨_, rfl, rfl, hS11⟩

def rW (N : Nat) (p0 : List Int) (p1 : Int) : Option (Int) :=
 ((rNum4 N p0 p1 (2 : Int)).bind fun x7 => some (IntKind.i64.wrap x7))

set_option linter.unusedVariables false in
def rW_R (r : Int) (w0 : World) (v : Value) (w : World) : Prop := v = .int .i64 r ∧ St [] w0 w []

set_option maxRecDepth 100000 in
set_option maxHeartbeats 4000000 in
theorem rW_ok (N : Nat) (p0 : List Int) (p1 : Int) (A0 : Option Addr) (c0 : Nat) (r : Int) (hF : rW N p0 p1 = some r) (w0 : World) (hv0 : Vw [] .u8 w0 A0 c0 p0) :
  Calls Try.prog 19 #[.slice A0 p0.length c0, .int .i64 p1] w0 fun e w => ∃ v, e = .returned v ∧ rW_R r w0 v w := by
 have hS0 := St.start w0
 unfold rW at hF
 refine calls_of Try.func19 rfl ⟨((.slice A0 p0.length c0) :: (.int .i64 p1) :: un 7 ([])).toArray, []⟩ (by kernel_rfl) ?_
 refine gx_seq (fun K1 hK2 => ?_)
 refine gx_region ?_
 refine gx_k (.int .i64 0) w0 ?_
 refine gx_nil ?_
 refine gx_thenN ?_
 refine hK2 _ _ ?_
 refine gx_seq (fun K3 hK4 => ?_)
 refine gx_region ?_
 refine gx_k (.slice A0 p0.length c0) w0 (gx_k (.int .i64 p1) w0 ?_)
 have hP5 : St _ _ w0 ([] ++ []) := hS0
 obtain ⟨x7, hc6, hF⟩ := bind_in hF
 try dsimp only at hF
 refine gx_c (rNum4_R x7 w0) (rNum4_ok N p0 p1 (2 : Int) A0 c0 _ hc6 w0 (hP5.vwA hv0)) ?_
 rintro _ w8 ⟨rfl, hT10⟩
 have hS9 : St _ _ w8 [] := hS0.take _ hT10
 refine gx_k (.int .i64 (IntKind.i64.wrap x7)) w8 (gx_k (.int .i64 (IntKind.i64.wrap x7)) w8 ?_)
 refine gx_nil ?_
 refine gx_thenN ?_
 refine hK4 _ _ ?_
 refine gx_ret ?_
 obtain rfl := Option.some.inj hF
 exact gx_fin (.int .i64 (IntKind.i64.wrap x7)) (by kernel_rfl) (by kernel_rfl) ⟨_, rfl, rfl, hS9⟩

def rAll (N : Nat) (p0 : List Int) (p1 : Int) (p2 : Int) : Option (Bool) :=
 ((rAll4 N p0 p1 p2).bind fun b7 => some b7)

set_option linter.unusedVariables false in
def rAll_R (r : Bool) (w0 : World) (v : Value) (w : World) : Prop := v = .bool r ∧ St [] w0 w []

set_option maxRecDepth 100000 in
set_option maxHeartbeats 4000000 in
theorem rAll_ok (N : Nat) (p0 : List Int) (p1 : Int) (p2 : Int) (A0 : Option Addr) (c0 : Nat) (r : Bool) (hF : rAll N p0 p1 p2 = some r) (w0 : World) (hv0 : Vw [] .u8 w0 A0 c0 p0) :
  Calls Try.prog 20 #[.slice A0 p0.length c0, .int .i64 p1, .int .i64 p2] w0 fun e w => ∃ v, e = .returned v ∧ rAll_R r w0 v w := by
 have hS0 := St.start w0
 unfold rAll at hF
 refine calls_of Try.func20 rfl ⟨((.slice A0 p0.length c0) :: (.int .i64 p1) :: (.int .i64 p2) :: un 8 ([])).toArray, []⟩ (by kernel_rfl) ?_
 refine gx_seq (fun K1 hK2 => ?_)
 refine gx_region ?_
 refine gx_k (.bool false) w0 ?_
 refine gx_nil ?_
 refine gx_thenN ?_
 refine hK2 _ _ ?_
 refine gx_seq (fun K3 hK4 => ?_)
 refine gx_region ?_
 refine gx_k (.slice A0 p0.length c0) w0 (gx_k (.int .i64 p1) w0 (gx_k (.int .i64 p2) w0 ?_))
 have hP5 : St _ _ w0 ([] ++ []) := hS0
 obtain ⟨b7, hc6, hF⟩ := bind_in hF
 try dsimp only at hF
 refine gx_c (rAll4_R b7 w0) (rAll4_ok N p0 p1 p2 A0 c0 _ hc6 w0 (hP5.vwA hv0)) ?_
 rintro _ w8 ⟨rfl, hT10⟩
 have hS9 : St _ _ w8 [] := hS0.take _ hT10
 refine gx_k (.bool b7) w8 ?_
 refine gx_nil ?_
 refine gx_thenN ?_
 refine hK4 _ _ ?_
 refine gx_ret ?_
 obtain rfl := Option.some.inj hF
 exact gx_fin (.bool b7) (by kernel_rfl) (by kernel_rfl) ⟨_, rfl, rfl, hS9⟩

def rFeats_L3 (N : Nat) (p0 : List Int) (p1 : Int) (x125 : Int) (x133 : Int) (x205 : Int) : Nat → Bool → Int → Option (Bool)
 | 0, _, _ => none
 | k244+1, b242, x243 => (if x243 < x133 then (match b242 with | true => rFeats_L3 N p0 p1 x125 x133 x205 k244 true (IntKind.i64.wrap (x243 + 1)) | false => ((rW N p0 (IntKind.i64.wrap ((IntKind.i64.wrap ((IntKind.i64.wrap (p1 + x125)) + 4)) + (IntKind.i64.wrap ((2 : Int) * x243))))).bind fun x255 => (if x255 = x205 then rFeats_L3 N p0 p1 x125 x133 x205 k244 true (IntKind.i64.wrap (x243 + 1)) else rFeats_L3 N p0 p1 x125 x133 x205 k244 false (IntKind.i64.wrap (x243 + 1))))) else some (b242))
def rFeats_L2 (N : Nat) (p0 : List Int) (p1 : Int) (p2 : Int) (x125 : Int) (x133 : Int) : Nat → (List Int) → Int → Option (List Int)
 | 0, _, _ => none
 | k207+1, l204, x205 => (if x205 < 65536 then (if x133 > 0 then (if x205 < p2 then ((((rFeats_L3 N p0 p1 x125 x133 x205 N false 0 : Option (Bool)).bind fun b233 => (match b233 with | true => ((apx l204 ([x205])).bind fun l265 => some (l265)) | false => some (l204))) : Option (List Int)).bind fun l224 => rFeats_L2 N p0 p1 p2 x125 x133 k207 l224 (IntKind.i64.wrap (x205 + 1))) else some (l204)) else some (l204)) else some (l204))
def rFeats_L4 (N : Nat) (p0 : List Int) (p1 : Int) (p2 : Int) (x125 : Int) (x133 : Int) : Nat → Int → Option (Ctl (Unit) (List ((Int × Int × Int × Int) × List Int) × Int))
 | 0, _ => none
 | k289+1, x288 => (if x288 < x133 then ((rW N p0 (IntKind.i64.wrap ((IntKind.i64.wrap ((IntKind.i64.wrap (p1 + x125)) + 4)) + (IntKind.i64.wrap ((2 : Int) * x288))))).bind fun x302 => (if x302 ≥ p2 then some (Ctl.ret (([] : List ((Int × Int × Int × Int) × List Int)), 50)) else rFeats_L4 N p0 p1 p2 x125 x133 k289 (IntKind.i64.wrap (x288 + 1)))) else some (Ctl.go ()))
def rFeats_L1 (N : Nat) (p0 : List Int) (p1 : Int) (p2 : Int) (x7 : Int) : Nat → (List ((Int × Int × Int × Int) × List Int)) → Int → Option (Ctl (List ((Int × Int × Int × Int) × List Int)) (List ((Int × Int × Int × Int) × List Int) × Int))
 | 0, _, _ => none
 | k82+1, l80, x81 => (if x81 < x7 then ((((ix p0 (IntKind.i64.wrap ((IntKind.i64.wrap (p1 + 2)) + (IntKind.i64.wrap ((6 : Int) * x81))))).bind fun x109 => ((ix p0 (IntKind.i64.wrap ((IntKind.i64.wrap ((IntKind.i64.wrap (p1 + 2)) + (IntKind.i64.wrap ((6 : Int) * x81)))) + 1))).bind fun x111 => ((ix p0 (IntKind.i64.wrap ((IntKind.i64.wrap ((IntKind.i64.wrap (p1 + 2)) + (IntKind.i64.wrap ((6 : Int) * x81)))) + 2))).bind fun x113 => ((ix p0 (IntKind.i64.wrap ((IntKind.i64.wrap ((IntKind.i64.wrap (p1 + 2)) + (IntKind.i64.wrap ((6 : Int) * x81)))) + 3))).bind fun x115 => ((rW N p0 (IntKind.i64.wrap ((IntKind.i64.wrap ((IntKind.i64.wrap (p1 + 2)) + (IntKind.i64.wrap ((6 : Int) * x81)))) + 4))).bind fun x125 => ((rW N p0 (IntKind.i64.wrap ((IntKind.i64.wrap (p1 + x125)) + 2))).bind fun x133 => ((((rAll N p0 (IntKind.i64.wrap (p1 + x125)) (4 : Int)).bind fun b147 => (((match b147 with | true => ((rW N p0 (IntKind.i64.wrap (p1 + x125))).bind fun x161 => (if x161 ≠ 0 then some (true) else some (false))) | false => some (true)) : Option (Bool)).bind fun b154 => (match b154 with | true => some (Ctl.ret (([] : List ((Int × Int × Int × Int) × List Int)), 50)) | false => ((rAll N p0 (IntKind.i64.wrap (p1 + x125)) (IntKind.i64.wrap ((4 : Int) + (IntKind.i64.wrap ((2 : Int) * x133))))).bind fun b173 => (match b173 with | true => some (Ctl.go ()) | false => some (Ctl.ret (([] : List ((Int × Int × Int × Int) × List Int)), 50))))))) : Option (Ctl (Unit) (List ((Int × Int × Int × Int) × List Int) × Int))).bind fun | Ctl.go () => ((rFeats_L2 N p0 p1 p2 x125 x133 N ([]) 0 : Option (List Int)).bind fun l190 => ((rFeats_L4 N p0 p1 p2 x125 x133 N 0 : Option (Ctl (Unit) (List ((Int × Int × Int × Int) × List Int) × Int))).bind fun | Ctl.go () => ((apg l80 ([((x109, x111, x113, x115), l190)] : List ((Int × Int × Int × Int) × List Int))).bind fun l321 => some (Ctl.go l321)) | Ctl.ret r => some (Ctl.ret r))) | Ctl.ret r => some (Ctl.ret r)))))))) : Option (Ctl (List ((Int × Int × Int × Int) × List Int)) (List ((Int × Int × Int × Int) × List Int) × Int))).bind fun | Ctl.go l99 => rFeats_L1 N p0 p1 p2 x7 k82 l99 (IntKind.i64.wrap (x81 + 1)) | Ctl.ret r => some (Ctl.ret r)) else some (Ctl.go l80))
def rFeats (N : Nat) (p0 : List Int) (p1 : Int) (p2 : Int) : Option (List ((Int × Int × Int × Int) × List Int) × Int) :=
 ((rW N p0 p1).bind fun x7 => ((((rAll N p0 p1 (2 : Int)).bind fun b21 => (((match b21 with | true => (if x7 > 512 then some (true) else some (false)) | false => some (true)) : Option (Bool)).bind fun b28 => (match b28 with | true => some (Ctl.ret (([] : List ((Int × Int × Int × Int) × List Int)), 50)) | false => ((rAll N p0 p1 (IntKind.i64.wrap ((2 : Int) + (IntKind.i64.wrap ((6 : Int) * x7))))).bind fun b41 => (match b41 with | true => some (Ctl.go ()) | false => some (Ctl.ret (([] : List ((Int × Int × Int × Int) × List Int)), 50))))))) : Option (Ctl (Unit) (List ((Int × Int × Int × Int) × List Int) × Int))).bind fun | Ctl.go () => ((rFeats_L1 N p0 p1 p2 x7 N ([] : List ((Int × Int × Int × Int) × List Int)) 0 : Option (Ctl (List ((Int × Int × Int × Int) × List Int)) (List ((Int × Int × Int × Int) × List Int) × Int))).bind fun | Ctl.go l62 => some (l62, 0) | Ctl.ret r => some r) | Ctl.ret r => some r))

set_option linter.unusedVariables false in
def rFeats_R (r : List ((Int × Int × Int × Int) × List Int) × Int) (w0 : World) (v : Value) (w : World) : Prop := ∃ (A0' : Option Addr) (c0' : Nat) (vs0' : List Value) (ft' : List Nat), v = .tuple #[.slice A0' r.1.length c0', .int .i64 r.2] ∧ St [] w0 w [rowG 35 5 (.slice A0' r.1.length c0') r.1.length vs0', poolE ft' w] ∧ (fEach (pairE encapiTag (rowOf (intE .i64))) vs0' r.1).rd w ft'

set_option maxRecDepth 100000 in
set_option maxHeartbeats 4000000 in
theorem rFeats_ok (N : Nat) (p0 : List Int) (p1 : Int) (p2 : Int) (A0 : Option Addr) (c0 : Nat) (r : List ((Int × Int × Int × Int) × List Int) × Int) (hF : rFeats N p0 p1 p2 = some r) (w0 : World) (hv0 : Vw [] .u8 w0 A0 c0 p0) :
  Calls Try.prog 7 #[.slice A0 p0.length c0, .int .i64 p1, .int .i64 p2] w0 fun e w => ∃ v, e = .returned v ∧ rFeats_R r w0 v w := by
 have hS0 := (St.start w0).pool0
 unfold rFeats at hF
 refine calls_of Try.func7 rfl ⟨((.slice A0 p0.length c0) :: (.int .i64 p1) :: (.int .i64 p2) :: un 152 ([])).toArray, []⟩ (by kernel_rfl) ?_
 refine gx_seq (fun K1 hK2 => ?_)
 refine gx_region ?_
 refine gx_k (.slice none 0 0) w0 (gx_k (.int .i64 0) w0 ?_)
 refine gx_nil ?_
 refine gx_thenN ?_
 refine hK2 _ _ ?_
 refine gx_seq (fun K3 hK4 => ?_)
 refine gx_region ?_
 refine gx_k (.slice A0 p0.length c0) w0 (gx_k (.int .i64 p1) w0 ?_)
 have hP5 : St _ _ w0 ([] ++ [poolE ([]) w0]) := hS0
 obtain ⟨x7, hc6, hF⟩ := bind_in hF
 try dsimp only at hF
 refine gx_c (rW_R x7 w0) (rW_ok N p0 p1 A0 c0 _ hc6 w0 (hP5.vwA hv0)) ?_
 rintro _ w8 ⟨rfl, hT10⟩
 have hS9 : St _ _ w8 [poolE ([]) w0] := hS0.take _ hT10
 refine gx_k (.int .i64 x7) w8 ?_
 refine gx_nil ?_
 refine gx_thenN ?_
 refine hK4 _ _ ?_
 obtain ⟨c14, hE15, hO16⟩ := bind_in hF
 refine gx_cut (fun a w => selfA (fun u13 => ⟨((.slice A0 p0.length c0) :: (.int .i64 p1) :: (.int .i64 p2) :: un 3 (dd u13 6 2 ((.int .i64 x7) :: un 10 ((u13 19) :: (.int .i64 p1) :: (.int .i64 x7) :: dd u13 22 17 (un 116 ([])))))).toArray, []⟩) a ∧ Ctl.go () = c14 ∧ St [] w0 w [poolE ([]) w0]) ?_ ?_
 ·refine gx_seq (fun K17 hK18 => ?_)
  refine gx_region ?_
  refine gx_k (.slice A0 p0.length c0) w8 (gx_k (.int .i64 p1) w8 ?_)
  have hP19 : St _ _ w8 ([] ++ [poolE ([]) w0]) := hS9
  obtain ⟨b21, hc20, hE15⟩ := bind_in hE15
  try dsimp only at hE15
  refine gx_c (rAll_R b21 w8) (rAll_ok N p0 p1 (2 : Int) A0 c0 _ hc20 w8 (hP19.vwA hv0)) ?_
  rintro _ w22 ⟨rfl, hT24⟩
  have hS23 : St _ _ w22 [poolE ([]) w0] := hS9.take _ hT24
  obtain ⟨c29, hE30, hO31⟩ := bind_in hE15
  refine gx_part (l1 := [_, _, _, _, _]) (fun a w => ∃ (b28 : Bool), selfA (fun u27 => ⟨((.slice A0 p0.length c0) :: (.int .i64 p1) :: (.int .i64 p2) :: un 3 ((.slice none 0 0) :: (.int .i64 0) :: (.int .i64 x7) :: un 10 ((u27 19) :: (.int .i64 p1) :: (.int .i64 x7) :: (u27 22) :: (.int .i64 p1) :: (.bool b21) :: dd u27 25 4 ((.bool b28) :: un 125 ([]))))).toArray, []⟩) a ∧ b28 = c29 ∧ St [] w0 w [poolE ([]) w0]) rfl ?_ ?_
  ·cases b21 with
   | true =>
    try dsimp only at hE30
    refine gx_k (.bool false) w22 (gx_k (.bool false) w22 (gx_k (.int .i64 x7) w22 ?_))
    rcases if_in hE30 with ⟨h33, hE30⟩ | ⟨h33, hE30⟩
    ·refine gx_v (.bool true) w22 (run_boolE (decide_eq_true h33) (by kernel_rfl)) ?_
     refine gx_k (.bool true) w22 ?_
     refine gx_nil ?_
     refine gx_thenN ?_
     exact ⟨true, selfA_i (by kernel_rfl), (Option.some.inj hE30), hS23⟩
    ·refine gx_v (.bool false) w22 (run_boolE (decide_eq_false h33) (by kernel_rfl)) ?_
     refine gx_k (.bool false) w22 ?_
     refine gx_nil ?_
     refine gx_thenN ?_
     exact ⟨false, selfA_i (by kernel_rfl), (Option.some.inj hE30), hS23⟩
   | false =>
    try dsimp only at hE30
    refine gx_k (.bool true) w22 (gx_k (.bool true) w22 (gx_o (gx_o (gx_k (.bool true) w22 ?_))))
    refine gx_nil ?_
    refine gx_thenN ?_
    exact ⟨true, selfA_i (by kernel_rfl), (Option.some.inj hE30), hS23⟩
  ·rintro _ w25 ⟨b28, hq32, rfl, hS26⟩
   obtain ⟨u27, rfl⟩ := selfA_u hq32
   try dsimp only at hO31
   refine gx_k (.bool b28) w25 ?_
   cases b28 with
   | true =>
    try dsimp only at hO31
    refine gx_o (gx_o (gx_o (gx_o (gx_o (gx_o (gx_o (gx_k (.bool true) w25 ?_)))))))
    refine gx_nil ?_
    refine gx_thenN ?_
    refine hK18 _ _ ?_
    refine gx_yes (by kernel_rfl) ?_
    refine gx_seq (fun K34 hK35 => ?_)
    refine gx_region ?_
    refine gx_k (.slice none 0 0) w25 (gx_k (.int .i64 50) w25 ?_)
    refine gx_nil ?_
    refine gx_thenN ?_
    refine hK35 _ _ ?_
    refine gx_ret ?_
    refine gx_thenR ?_
    obtain rfl := Option.some.inj hO31
    try dsimp only at hO16
    have hS36 : St _ _ w25 [poolE ([]) w0, rowG 35 5 (.slice none (([] : List ((Int × Int × Int × Int) × List Int)).length) 0) (([] : List ((Int × Int × Int × Int) × List Int)).length) ([])] := hS26.nilrowN 35 5
    have hf37 : (fEach (pairE encapiTag (rowOf (intE .i64))) [] []).rd w0 ([]) := each_nil
    have hS38 : St _ _ w25 [poolE ([]) w25, rowG 35 5 (.slice none (([] : List ((Int × Int × Int × Int) × List Int)).length) 0) (([] : List ((Int × Int × Int × Int) × List Int)).length) ([])] := hS36.renew 0 rfl
    obtain rfl := Option.some.inj hO16
    exact gx_fin (.tuple #[.slice none (([] : List ((Int × Int × Int × Int) × List Int)).length) 0, .int .i64 50]) (by kernel_rfl) (by kernel_rfl) ⟨_, rfl, none, 0, ([]), ([]), rfl, (hS38.pick [1, 0] rfl rfl), (hS36.now 0 rfl hf37)⟩
   | false =>
    try dsimp only at hO31
    refine gx_k (.slice A0 p0.length c0) w25 (gx_k (.int .i64 p1) w25 (gx_k (.int .i64 x7) w25 (gx_k (.int .i64 (IntKind.i64.wrap ((6 : Int) * x7))) w25 (gx_k (.int .i64 (IntKind.i64.wrap ((2 : Int) + (IntKind.i64.wrap ((6 : Int) * x7))))) w25 ?_))))
    have hP39 : St _ _ w25 ([] ++ [poolE ([]) w0]) := hS26
    obtain ⟨b41, hc40, hO31⟩ := bind_in hO31
    try dsimp only at hO31
    refine gx_c (rAll_R b41 w25) (rAll_ok N p0 p1 (IntKind.i64.wrap ((2 : Int) + (IntKind.i64.wrap ((6 : Int) * x7)))) A0 c0 _ hc40 w25 (hP39.vwA hv0)) ?_
    rintro _ w42 ⟨rfl, hT44⟩
    have hS43 : St _ _ w42 [poolE ([]) w0] := hS26.take _ hT44
    cases b41 with
    | true =>
     try dsimp only at hO31
     refine gx_k (.bool false) w42 (gx_k (.bool false) w42 ?_)
     refine gx_nil ?_
     refine gx_thenN ?_
     refine hK18 _ _ ?_
     refine gx_no (by kernel_rfl) ?_
     refine gx_pass ?_
     refine gx_thenN ?_
     exact ⟨selfA_i (by kernel_rfl), (Option.some.inj hO31), hS43⟩
    | false =>
     try dsimp only at hO31
     refine gx_k (.bool true) w42 (gx_k (.bool true) w42 ?_)
     refine gx_nil ?_
     refine gx_thenN ?_
     refine hK18 _ _ ?_
     refine gx_yes (by kernel_rfl) ?_
     refine gx_seq (fun K45 hK46 => ?_)
     refine gx_region ?_
     refine gx_k (.slice none 0 0) w42 (gx_k (.int .i64 50) w42 ?_)
     refine gx_nil ?_
     refine gx_thenN ?_
     refine hK46 _ _ ?_
     refine gx_ret ?_
     refine gx_thenR ?_
     obtain rfl := Option.some.inj hO31
     try dsimp only at hO16
     have hS47 : St _ _ w42 [poolE ([]) w0, rowG 35 5 (.slice none (([] : List ((Int × Int × Int × Int) × List Int)).length) 0) (([] : List ((Int × Int × Int × Int) × List Int)).length) ([])] := hS43.nilrowN 35 5
     have hf48 : (fEach (pairE encapiTag (rowOf (intE .i64))) [] []).rd w0 ([]) := each_nil
     have hS49 : St _ _ w42 [poolE ([]) w42, rowG 35 5 (.slice none (([] : List ((Int × Int × Int × Int) × List Int)).length) 0) (([] : List ((Int × Int × Int × Int) × List Int)).length) ([])] := hS47.renew 0 rfl
     obtain rfl := Option.some.inj hO16
     exact gx_fin (.tuple #[.slice none (([] : List ((Int × Int × Int × Int) × List Int)).length) 0, .int .i64 50]) (by kernel_rfl) (by kernel_rfl) ⟨_, rfl, none, 0, ([]), ([]), rfl, (hS49.pick [1, 0] rfl rfl), (hS47.now 0 rfl hf48)⟩
 ·rintro _ w11 ⟨hq338, rfl, hS12⟩
  obtain ⟨u13, rfl⟩ := selfA_u hq338
  try dsimp only at hO16
  refine gx_seq (fun K50 hK51 => ?_)
  refine gx_region ?_
  refine gx_k (.slice none 0 0) w11 ?_
  refine gx_nil ?_
  refine gx_thenN ?_
  refine hK51 _ _ ?_
  obtain ⟨c63, hE64, hO65⟩ := bind_in hO16
  refine gx_cut (fun a w => ∃ (l62 : List ((Int × Int × Int × Int) × List Int)) (ft55 : List Nat) (W56 : World) (A58 : Option Addr) (c59 : Nat) (vs60 : List Value), selfA (fun u54 => ⟨((u54 0) :: (.int .i64 p1) :: (.int .i64 p2) :: un 3 (dd u54 6 2 ((.int .i64 x7) :: (.slice A58 l62.length c59) :: dd u54 10 9 ((u13 19) :: (.int .i64 p1) :: (.int .i64 x7) :: dd u13 22 17 (dd u54 39 115 (undef :: [])))))).toArray, []⟩) a ∧ Ctl.go l62 = c63 ∧ St [] w0 w [poolE ft55 W56, rowG 35 5 (.slice A58 l62.length c59) l62.length vs60] ∧ Turn [] w0 w0 ([]) W56 ft55 ∧ (fEach (pairE encapiTag (rowOf (intE .i64))) vs60 l62).rd W56 ft55) ?_ ?_
  ·refine gx_seq (fun K66 hK67 => ?_)
   refine gx_region ?_
   refine gx_k (.int .i64 0) w11 ?_
   refine gx_nil ?_
   refine gx_thenN ?_
   refine hK67 _ _ ?_
   refine gx_block ?_
   have hS68 : St _ _ w11 [poolE ([]) w0, rowG 35 5 (.slice none (([] : List ((Int × Int × Int × Int) × List Int)).length) 0) (([] : List ((Int × Int × Int × Int) × List Int)).length) ([])] := hS12.nilrowN 35 5
   have hf69 : (fEach (pairE encapiTag (rowOf (intE .i64))) [] []).rd w0 ([]) := each_nil
   refine gx_loop (fun k a w => ∃ (l80 : List ((Int × Int × Int × Int) × List Int)) (x81 : Int) (ft73 : List Nat) (W74 : World) (A76 : Option Addr) (c77 : Nat) (vs78 : List Value), selfA (fun u72 => ⟨((.slice A0 p0.length c0) :: (.int .i64 p1) :: (.int .i64 p2) :: un 3 (dd u72 6 2 ((.int .i64 x7) :: (.slice A76 l80.length c77) :: (.int .i64 x81) :: dd u72 11 8 ((u13 19) :: (.int .i64 p1) :: (.int .i64 x7) :: dd u13 22 17 (dd u72 39 115 (undef :: [])))))).toArray, []⟩) a ∧ rFeats_L1 N p0 p1 p2 x7 k l80 x81 = some c63 ∧ St [] w0 w [poolE ft73 W74, rowG 35 5 (.slice A76 l80.length c77) l80.length vs78] ∧ Turn [] w0 w0 ([]) W74 ft73 ∧ (fEach (pairE encapiTag (rowOf (intE .i64))) vs78 l80).rd W74 ft73) N ?_ ?_
   ·exact ⟨([] : List ((Int × Int × Int × Int) × List Int)), 0, ([]), w0, none, 0, ([]), selfA_i (by kernel_rfl), hE64, hS68, (Turn.refl _ _ _ _), hf69⟩
   ·rintro k82 _ w70 ⟨l80, x81, ft73, W74, A76, c77, vs78, hq333, hL83, hS71, hT75, hf79⟩
    obtain ⟨u72, rfl⟩ := selfA_u hq333
    cases k82 with
    | zero => cases hL83
    | succ k82 =>
     first | rw [rFeats_L1] at hL83 | unfold rFeats_L1 at hL83
     refine gx_seq (fun K84 hK85 => ?_)
     refine gx_seq (fun K86 hK87 => ?_)
     refine gx_region ?_
     refine gx_k (.int .i64 x81) w70 (gx_k (.int .i64 x7) w70 ?_)
     rcases if_in hL83 with ⟨h88, hL83⟩ | ⟨h88, hL83⟩
     ·refine gx_v (.bool true) w70 (run_boolE (decide_eq_true h88) (by kernel_rfl)) ?_
      refine gx_nil ?_
      refine gx_thenN ?_
      refine hK87 _ _ ?_
      refine gx_yes (by kernel_rfl) ?_
      refine gx_pass ?_
      refine gx_thenN ?_
      refine hK85 _ _ ?_
      obtain ⟨c100, hE101, hO102⟩ := bind_in hL83
      refine gx_cut (fun a w => ∃ (l99 : List ((Int × Int × Int × Int) × List Int)) (ft92 : List Nat) (W93 : World) (A95 : Option Addr) (c96 : Nat) (vs97 : List Value), selfA (fun u91 => ⟨((.slice A0 p0.length c0) :: (.int .i64 p1) :: (.int .i64 p2) :: un 3 (dd u91 6 2 ((.int .i64 x7) :: (.slice A95 l99.length c96) :: (.int .i64 x81) :: dd u91 11 8 ((u13 19) :: (.int .i64 p1) :: (.int .i64 x7) :: dd u13 22 17 ((.int .i64 x81) :: (.int .i64 x7) :: (.bool true) :: dd u72 42 2 (dd u91 44 110 (undef :: []))))))).toArray, []⟩) a ∧ Ctl.go l99 = c100 ∧ St [] w0 w [poolE ft92 W93, rowG 35 5 (.slice A95 l99.length c96) l99.length vs97] ∧ Turn [] w0 W74 ft73 W93 ft92 ∧ (fEach (pairE encapiTag (rowOf (intE .i64))) vs97 l99).rd W93 ft92) ?_ ?_
      ·refine gx_block ?_
       refine gx_seq (fun K103 hK104 => ?_)
       refine gx_region ?_
       refine gx_k (.int .i64 p1) w70 (gx_k (.int .i64 (IntKind.i64.wrap (p1 + 2))) w70 (gx_k (.int .i64 x81) w70 (gx_k (.int .i64 (IntKind.i64.wrap ((6 : Int) * x81))) w70 (gx_k (.int .i64 (IntKind.i64.wrap ((IntKind.i64.wrap (p1 + 2)) + (IntKind.i64.wrap ((6 : Int) * x81))))) w70 (gx_k (.int .i64 (IntKind.i64.wrap ((IntKind.i64.wrap (p1 + 2)) + (IntKind.i64.wrap ((6 : Int) * x81))))) w70 ?_)))))
       refine gx_nil ?_
       refine gx_thenN ?_
       refine hK104 _ _ ?_
       refine gx_seq (fun K105 hK106 => ?_)
       refine gd_start (fun w => St [] w0 w [rowG 35 5 (.slice A76 l80.length c77) l80.length vs78]) 23 #[false, false, false, false, false, false, false, false, false, false, false, false, false, false, false, false, false, false, false, false, false, false, false] (by kernel_rfl) (by kernel_rfl) ?_
       have hS108 := hS71.drew
       generalize w70.drew = w107 at hS108 ⊢
       refine gd1 0 { dst := some 49, op := _, type := _, pos := _, after := _, guard := _ } (.slice A0 p0.length c0) rfl (hS108.pick [1] rfl rfl) (fun w hSw => by kernel_rfl) ?_
       refine gd1 1 { dst := some 50, op := _, type := _, pos := _, after := _, guard := _ } (.int .i64 (IntKind.i64.wrap ((IntKind.i64.wrap (p1 + 2)) + (IntKind.i64.wrap ((6 : Int) * x81))))) rfl (hS108.pick [1] rfl rfl) (fun w hSw => by kernel_rfl) ?_
       obtain ⟨x109, hx110, hE101⟩ := bind_in hE101
       refine gd1 2 { dst := some 51, op := _, type := _, pos := _, after := _, guard := _ } (.pointer (Option.map (fun (p : Addr) => p.add (Int.toNat (IntKind.i64.wrap ((IntKind.i64.wrap (p1 + 2)) + (IntKind.i64.wrap ((6 : Int) * x81)))) * 1)) A0)) rfl (hS108.pick [1] rfl rfl) (fun w hSw => run_ixaddr (E := 5) (s := 1) (k := .i64) (c := c0) rfl (by kernel_rfl) (by kernel_rfl) (by kernel_rfl) (fun _ => by kernel_rfl) (ix_in hx110).1 (ix_in hx110).2.1 (num_nil (hS108.view hv0))) ?_
       refine gd1 3 { dst := some 52, op := _, type := _, pos := _, after := _, guard := _ } (.int .u8 x109) rfl (hS108.pick [1] rfl rfl) (fun w hSw => run_loadix rfl (by kernel_rfl) (fun _ => by kernel_rfl) (hSw.view hv0) hx110) ?_
       refine gd1 4 { dst := some 53, op := _, type := _, pos := _, after := _, guard := _ } (.slice A0 p0.length c0) rfl (hS108.pick [1] rfl rfl) (fun w hSw => by kernel_rfl) ?_
       refine gd1 5 { dst := some 54, op := _, type := _, pos := _, after := _, guard := _ } (.int .i64 (IntKind.i64.wrap ((IntKind.i64.wrap (p1 + 2)) + (IntKind.i64.wrap ((6 : Int) * x81))))) rfl (hS108.pick [1] rfl rfl) (fun w hSw => by kernel_rfl) ?_
       refine gd1 6 { dst := some 55, op := _, type := _, pos := _, after := _, guard := _ } (.int .i64 (IntKind.i64.wrap ((IntKind.i64.wrap ((IntKind.i64.wrap (p1 + 2)) + (IntKind.i64.wrap ((6 : Int) * x81)))) + 1))) rfl (hS108.pick [1] rfl rfl) (fun w hSw => by kernel_rfl) ?_
       obtain ⟨x111, hx112, hE101⟩ := bind_in hE101
       refine gd1 7 { dst := some 56, op := _, type := _, pos := _, after := _, guard := _ } (.pointer (Option.map (fun (p : Addr) => p.add (Int.toNat (IntKind.i64.wrap ((IntKind.i64.wrap ((IntKind.i64.wrap (p1 + 2)) + (IntKind.i64.wrap ((6 : Int) * x81)))) + 1)) * 1)) A0)) rfl (hS108.pick [1] rfl rfl) (fun w hSw => run_ixaddr (E := 5) (s := 1) (k := .i64) (c := c0) rfl (by kernel_rfl) (by kernel_rfl) (by kernel_rfl) (fun _ => by kernel_rfl) (ix_in hx112).1 (ix_in hx112).2.1 (num_nil (hS108.view hv0))) ?_
       refine gd1 8 { dst := some 57, op := _, type := _, pos := _, after := _, guard := _ } (.int .u8 x111) rfl (hS108.pick [1] rfl rfl) (fun w hSw => run_loadix rfl (by kernel_rfl) (fun _ => by kernel_rfl) (hSw.view hv0) hx112) ?_
       refine gd1 9 { dst := some 58, op := _, type := _, pos := _, after := _, guard := _ } (.slice A0 p0.length c0) rfl (hS108.pick [1] rfl rfl) (fun w hSw => by kernel_rfl) ?_
       refine gd1 10 { dst := some 59, op := _, type := _, pos := _, after := _, guard := _ } (.int .i64 (IntKind.i64.wrap ((IntKind.i64.wrap (p1 + 2)) + (IntKind.i64.wrap ((6 : Int) * x81))))) rfl (hS108.pick [1] rfl rfl) (fun w hSw => by kernel_rfl) ?_
       refine gd1 11 { dst := some 60, op := _, type := _, pos := _, after := _, guard := _ } (.int .i64 (IntKind.i64.wrap ((IntKind.i64.wrap ((IntKind.i64.wrap (p1 + 2)) + (IntKind.i64.wrap ((6 : Int) * x81)))) + 2))) rfl (hS108.pick [1] rfl rfl) (fun w hSw => by kernel_rfl) ?_
       obtain ⟨x113, hx114, hE101⟩ := bind_in hE101
       refine gd1 12 { dst := some 61, op := _, type := _, pos := _, after := _, guard := _ } (.pointer (Option.map (fun (p : Addr) => p.add (Int.toNat (IntKind.i64.wrap ((IntKind.i64.wrap ((IntKind.i64.wrap (p1 + 2)) + (IntKind.i64.wrap ((6 : Int) * x81)))) + 2)) * 1)) A0)) rfl (hS108.pick [1] rfl rfl) (fun w hSw => run_ixaddr (E := 5) (s := 1) (k := .i64) (c := c0) rfl (by kernel_rfl) (by kernel_rfl) (by kernel_rfl) (fun _ => by kernel_rfl) (ix_in hx114).1 (ix_in hx114).2.1 (num_nil (hS108.view hv0))) ?_
       refine gd1 13 { dst := some 62, op := _, type := _, pos := _, after := _, guard := _ } (.int .u8 x113) rfl (hS108.pick [1] rfl rfl) (fun w hSw => run_loadix rfl (by kernel_rfl) (fun _ => by kernel_rfl) (hSw.view hv0) hx114) ?_
       refine gd1 14 { dst := some 63, op := _, type := _, pos := _, after := _, guard := _ } (.slice A0 p0.length c0) rfl (hS108.pick [1] rfl rfl) (fun w hSw => by kernel_rfl) ?_
       refine gd1 15 { dst := some 64, op := _, type := _, pos := _, after := _, guard := _ } (.int .i64 (IntKind.i64.wrap ((IntKind.i64.wrap (p1 + 2)) + (IntKind.i64.wrap ((6 : Int) * x81))))) rfl (hS108.pick [1] rfl rfl) (fun w hSw => by kernel_rfl) ?_
       refine gd1 16 { dst := some 65, op := _, type := _, pos := _, after := _, guard := _ } (.int .i64 (IntKind.i64.wrap ((IntKind.i64.wrap ((IntKind.i64.wrap (p1 + 2)) + (IntKind.i64.wrap ((6 : Int) * x81)))) + 3))) rfl (hS108.pick [1] rfl rfl) (fun w hSw => by kernel_rfl) ?_
       obtain ⟨x115, hx116, hE101⟩ := bind_in hE101
       refine gd1 17 { dst := some 66, op := _, type := _, pos := _, after := _, guard := _ } (.pointer (Option.map (fun (p : Addr) => p.add (Int.toNat (IntKind.i64.wrap ((IntKind.i64.wrap ((IntKind.i64.wrap (p1 + 2)) + (IntKind.i64.wrap ((6 : Int) * x81)))) + 3)) * 1)) A0)) rfl (hS108.pick [1] rfl rfl) (fun w hSw => run_ixaddr (E := 5) (s := 1) (k := .i64) (c := c0) rfl (by kernel_rfl) (by kernel_rfl) (by kernel_rfl) (fun _ => by kernel_rfl) (ix_in hx116).1 (ix_in hx116).2.1 (num_nil (hS108.view hv0))) ?_
       refine gd1 18 { dst := some 67, op := _, type := _, pos := _, after := _, guard := _ } (.int .u8 x115) rfl (hS108.pick [1] rfl rfl) (fun w hSw => run_loadix rfl (by kernel_rfl) (fun _ => by kernel_rfl) (hSw.view hv0) hx116) ?_
       refine gd1 19 { dst := some 68, op := _, type := _, pos := _, after := _, guard := _ } (.agg #[.int .u8 x109, .int .u8 x111, .int .u8 x113, .int .u8 x115]) rfl (hS108.pick [1] rfl rfl) (fun w hSw => by kernel_rfl) ?_
       refine gd1 20 { dst := some 69, op := _, type := _, pos := _, after := _, guard := _ } (.agg #[.int .u8 x109, .int .u8 x111, .int .u8 x113, .int .u8 x115, .slice none 0 0]) rfl (hS108.pick [1] rfl rfl) (fun w hSw => by kernel_rfl) ?_
       refine gdR 21 { dst := some 12, op := _, type := _, pos := _, after := _, guard := _ } rfl (st_boxed [.int .u8 0, .int .u8 0, .int .u8 0, .int .u8 0, .slice none 0 0] 35 hS108 (by kernel_rfl)) ?_
       rintro _ w117 ⟨rfl, hS118⟩
       have hS118 : St _ _ w117 [poolE ft73 W74, rowG 35 5 (.slice A76 l80.length c77) l80.length vs78, boxE w107.heap.size [.int .u8 0, .int .u8 0, .int .u8 0, .int .u8 0, .slice none 0 0] 35] := hS118
       refine ⟨(hS118.pick [1] rfl rfl), ?_⟩
       refine gdS 22 { dst := none, op := _, type := _, pos := _, after := _, guard := _ } rfl (st_storeG (cs := [.int .u8 0, .int .u8 0, .int .u8 0, .int .u8 0, .slice none 0 0]) (ds := [.int .u8 x109, .int .u8 x111, .int .u8 x113, .int .u8 x115, .slice none 0 0]) rfl (by kernel_rfl) (by kernel_rfl) (by kernel_rfl) rfl rfl hS118 2 rfl) ?_
       rintro w119 hS120
       have hS120 : St _ _ w119 [poolE ft73 W74, rowG 35 5 (.slice A76 l80.length c77) l80.length vs78, boxE w107.heap.size [.int .u8 x109, .int .u8 x111, .int .u8 x113, .int .u8 x115, .slice none 0 0] 35] := hS120
       refine ⟨(hS120.pick [1] rfl rfl), ?_⟩
       refine gd_done (by kernel_rfl) ?_
       refine gx_thenN ?_
       refine hK106 _ _ ?_
       refine gx_seq (fun K121 hK122 => ?_)
       refine gx_region ?_
       refine gx_k (.int .i64 p1) w119 (gx_k (.slice A0 p0.length c0) w119 (gx_k (.int .i64 (IntKind.i64.wrap ((IntKind.i64.wrap (p1 + 2)) + (IntKind.i64.wrap ((6 : Int) * x81))))) w119 (gx_k (.int .i64 (IntKind.i64.wrap ((IntKind.i64.wrap ((IntKind.i64.wrap (p1 + 2)) + (IntKind.i64.wrap ((6 : Int) * x81)))) + 4))) w119 ?_)))
       have hP123 : St _ _ w119 ([] ++ [poolE ft73 W74, rowG 35 5 (.slice A76 l80.length c77) l80.length vs78, boxE w107.heap.size [.int .u8 x109, .int .u8 x111, .int .u8 x113, .int .u8 x115, .slice none 0 0] 35]) := hS120
       obtain ⟨x125, hc124, hE101⟩ := bind_in hE101
       try dsimp only at hE101
       refine gx_c (rW_R x125 w119) (rW_ok N p0 (IntKind.i64.wrap ((IntKind.i64.wrap ((IntKind.i64.wrap (p1 + 2)) + (IntKind.i64.wrap ((6 : Int) * x81)))) + 4)) A0 c0 _ hc124 w119 (hP123.vwA hv0)) ?_
       rintro _ w126 ⟨rfl, hT128⟩
       have hS127 : St _ _ w126 [poolE ft73 W74, rowG 35 5 (.slice A76 l80.length c77) l80.length vs78, boxE w107.heap.size [.int .u8 x109, .int .u8 x111, .int .u8 x113, .int .u8 x115, .slice none 0 0] 35] := hS120.take _ hT128
       refine gx_k (.int .i64 (IntKind.i64.wrap (p1 + x125))) w126 (gx_k (.int .i64 (IntKind.i64.wrap (p1 + x125))) w126 ?_)
       refine gx_nil ?_
       refine gx_thenN ?_
       refine hK122 _ _ ?_
       refine gx_seq (fun K129 hK130 => ?_)
       refine gx_region ?_
       refine gx_k (.slice A0 p0.length c0) w126 (gx_k (.int .i64 (IntKind.i64.wrap (p1 + x125))) w126 (gx_k (.int .i64 (IntKind.i64.wrap ((IntKind.i64.wrap (p1 + x125)) + 2))) w126 ?_))
       have hP131 : St _ _ w126 ([] ++ [poolE ft73 W74, rowG 35 5 (.slice A76 l80.length c77) l80.length vs78, boxE w107.heap.size [.int .u8 x109, .int .u8 x111, .int .u8 x113, .int .u8 x115, .slice none 0 0] 35]) := hS127
       obtain ⟨x133, hc132, hE101⟩ := bind_in hE101
       try dsimp only at hE101
       refine gx_c (rW_R x133 w126) (rW_ok N p0 (IntKind.i64.wrap ((IntKind.i64.wrap (p1 + x125)) + 2)) A0 c0 _ hc132 w126 (hP131.vwA hv0)) ?_
       rintro _ w134 ⟨rfl, hT136⟩
       have hS135 : St _ _ w134 [poolE ft73 W74, rowG 35 5 (.slice A76 l80.length c77) l80.length vs78, boxE w107.heap.size [.int .u8 x109, .int .u8 x111, .int .u8 x113, .int .u8 x115, .slice none 0 0] 35] := hS127.take _ hT136
       refine gx_k (.int .i64 x133) w134 ?_
       refine gx_nil ?_
       refine gx_thenN ?_
       refine hK130 _ _ ?_
       obtain ⟨c140, hE141, hO142⟩ := bind_in hE101
       refine gx_cut (fun a w => selfA (fun u139 => ⟨((.slice A0 p0.length c0) :: (.int .i64 p1) :: (.int .i64 p2) :: un 3 (dd u139 6 2 ((.int .i64 x7) :: (.slice A76 l80.length c77) :: (.int .i64 x81) :: (.int .i64 (IntKind.i64.wrap ((IntKind.i64.wrap (p1 + 2)) + (IntKind.i64.wrap ((6 : Int) * x81))))) :: (.pointer (some ⟨w107.heap.size, 0, none⟩)) :: (.int .i64 (IntKind.i64.wrap (p1 + x125))) :: (.int .i64 x133) :: dd u72 15 4 ((u13 19) :: (.int .i64 p1) :: (.int .i64 x7) :: dd u13 22 17 ((.int .i64 x81) :: (.int .i64 x7) :: (.bool true) :: dd u72 42 2 ((.int .i64 p1) :: (.int .i64 (IntKind.i64.wrap (p1 + 2))) :: (.int .i64 x81) :: (.int .i64 (IntKind.i64.wrap ((6 : Int) * x81))) :: (.int .i64 (IntKind.i64.wrap ((IntKind.i64.wrap (p1 + 2)) + (IntKind.i64.wrap ((6 : Int) * x81))))) :: (u139 49) :: (.int .i64 (IntKind.i64.wrap ((IntKind.i64.wrap (p1 + 2)) + (IntKind.i64.wrap ((6 : Int) * x81))))) :: (.pointer (Option.map (fun (p : Addr) => p.add (Int.toNat (IntKind.i64.wrap ((IntKind.i64.wrap (p1 + 2)) + (IntKind.i64.wrap ((6 : Int) * x81)))) * 1)) A0)) :: (.int .u8 x109) :: (u139 53) :: (.int .i64 (IntKind.i64.wrap ((IntKind.i64.wrap (p1 + 2)) + (IntKind.i64.wrap ((6 : Int) * x81))))) :: (.int .i64 (IntKind.i64.wrap ((IntKind.i64.wrap ((IntKind.i64.wrap (p1 + 2)) + (IntKind.i64.wrap ((6 : Int) * x81)))) + 1))) :: (.pointer (Option.map (fun (p : Addr) => p.add (Int.toNat (IntKind.i64.wrap ((IntKind.i64.wrap ((IntKind.i64.wrap (p1 + 2)) + (IntKind.i64.wrap ((6 : Int) * x81)))) + 1)) * 1)) A0)) :: (.int .u8 x111) :: (u139 58) :: (.int .i64 (IntKind.i64.wrap ((IntKind.i64.wrap (p1 + 2)) + (IntKind.i64.wrap ((6 : Int) * x81))))) :: (.int .i64 (IntKind.i64.wrap ((IntKind.i64.wrap ((IntKind.i64.wrap (p1 + 2)) + (IntKind.i64.wrap ((6 : Int) * x81)))) + 2))) :: (.pointer (Option.map (fun (p : Addr) => p.add (Int.toNat (IntKind.i64.wrap ((IntKind.i64.wrap ((IntKind.i64.wrap (p1 + 2)) + (IntKind.i64.wrap ((6 : Int) * x81)))) + 2)) * 1)) A0)) :: (.int .u8 x113) :: (u139 63) :: (.int .i64 (IntKind.i64.wrap ((IntKind.i64.wrap (p1 + 2)) + (IntKind.i64.wrap ((6 : Int) * x81))))) :: (.int .i64 (IntKind.i64.wrap ((IntKind.i64.wrap ((IntKind.i64.wrap (p1 + 2)) + (IntKind.i64.wrap ((6 : Int) * x81)))) + 3))) :: (.pointer (Option.map (fun (p : Addr) => p.add (Int.toNat (IntKind.i64.wrap ((IntKind.i64.wrap ((IntKind.i64.wrap (p1 + 2)) + (IntKind.i64.wrap ((6 : Int) * x81)))) + 3)) * 1)) A0)) :: (.int .u8 x115) :: dd u139 68 2 ((.int .i64 p1) :: (u139 71) :: (.int .i64 (IntKind.i64.wrap ((IntKind.i64.wrap (p1 + 2)) + (IntKind.i64.wrap ((6 : Int) * x81))))) :: (.int .i64 (IntKind.i64.wrap ((IntKind.i64.wrap ((IntKind.i64.wrap (p1 + 2)) + (IntKind.i64.wrap ((6 : Int) * x81)))) + 4))) :: (.int .i64 x125) :: (.int .i64 (IntKind.i64.wrap (p1 + x125))) :: (u139 76) :: (.int .i64 (IntKind.i64.wrap (p1 + x125))) :: (.int .i64 (IntKind.i64.wrap ((IntKind.i64.wrap (p1 + x125)) + 2))) :: (.int .i64 x133) :: dd u139 80 19 (dd u72 99 55 (undef :: []))))))))).toArray, []⟩) a ∧ Ctl.go () = c140 ∧ St [] w0 w [poolE ft73 W74, boxE w107.heap.size [.int .u8 x109, .int .u8 x111, .int .u8 x113, .int .u8 x115, .slice none 0 0] 35, rowG 35 5 (.slice A76 l80.length c77) l80.length vs78]) ?_ ?_
       ·refine gx_seq (fun K143 hK144 => ?_)
        refine gx_region ?_
        refine gx_k (.slice A0 p0.length c0) w134 (gx_k (.int .i64 (IntKind.i64.wrap (p1 + x125))) w134 ?_)
        have hP145 : St _ _ w134 ([] ++ [poolE ft73 W74, rowG 35 5 (.slice A76 l80.length c77) l80.length vs78, boxE w107.heap.size [.int .u8 x109, .int .u8 x111, .int .u8 x113, .int .u8 x115, .slice none 0 0] 35]) := hS135
        obtain ⟨b147, hc146, hE141⟩ := bind_in hE141
        try dsimp only at hE141
        refine gx_c (rAll_R b147 w134) (rAll_ok N p0 (IntKind.i64.wrap (p1 + x125)) (4 : Int) A0 c0 _ hc146 w134 (hP145.vwA hv0)) ?_
        rintro _ w148 ⟨rfl, hT150⟩
        have hS149 : St _ _ w148 [poolE ft73 W74, rowG 35 5 (.slice A76 l80.length c77) l80.length vs78, boxE w107.heap.size [.int .u8 x109, .int .u8 x111, .int .u8 x113, .int .u8 x115, .slice none 0 0] 35] := hS135.take _ hT150
        obtain ⟨c155, hE156, hO157⟩ := bind_in hE141
        refine gx_part (l1 := [_, _, _, _, _, _, _]) (fun a w => ∃ (b154 : Bool), selfA (fun u153 => ⟨((.slice A0 p0.length c0) :: (.int .i64 p1) :: (.int .i64 p2) :: un 3 (dd u72 6 2 ((.int .i64 x7) :: (.slice A76 l80.length c77) :: (.int .i64 x81) :: (.int .i64 (IntKind.i64.wrap ((IntKind.i64.wrap (p1 + 2)) + (IntKind.i64.wrap ((6 : Int) * x81))))) :: (.pointer (some ⟨w107.heap.size, 0, none⟩)) :: (.int .i64 (IntKind.i64.wrap (p1 + x125))) :: (.int .i64 x133) :: dd u72 15 4 ((u13 19) :: (.int .i64 p1) :: (.int .i64 x7) :: dd u13 22 17 ((.int .i64 x81) :: (.int .i64 x7) :: (.bool true) :: dd u72 42 2 ((.int .i64 p1) :: (.int .i64 (IntKind.i64.wrap (p1 + 2))) :: (.int .i64 x81) :: (.int .i64 (IntKind.i64.wrap ((6 : Int) * x81))) :: (.int .i64 (IntKind.i64.wrap ((IntKind.i64.wrap (p1 + 2)) + (IntKind.i64.wrap ((6 : Int) * x81))))) :: (u153 49) :: (.int .i64 (IntKind.i64.wrap ((IntKind.i64.wrap (p1 + 2)) + (IntKind.i64.wrap ((6 : Int) * x81))))) :: (.pointer (Option.map (fun (p : Addr) => p.add (Int.toNat (IntKind.i64.wrap ((IntKind.i64.wrap (p1 + 2)) + (IntKind.i64.wrap ((6 : Int) * x81)))) * 1)) A0)) :: (.int .u8 x109) :: (u153 53) :: (.int .i64 (IntKind.i64.wrap ((IntKind.i64.wrap (p1 + 2)) + (IntKind.i64.wrap ((6 : Int) * x81))))) :: (.int .i64 (IntKind.i64.wrap ((IntKind.i64.wrap ((IntKind.i64.wrap (p1 + 2)) + (IntKind.i64.wrap ((6 : Int) * x81)))) + 1))) :: (.pointer (Option.map (fun (p : Addr) => p.add (Int.toNat (IntKind.i64.wrap ((IntKind.i64.wrap ((IntKind.i64.wrap (p1 + 2)) + (IntKind.i64.wrap ((6 : Int) * x81)))) + 1)) * 1)) A0)) :: (.int .u8 x111) :: (u153 58) :: (.int .i64 (IntKind.i64.wrap ((IntKind.i64.wrap (p1 + 2)) + (IntKind.i64.wrap ((6 : Int) * x81))))) :: (.int .i64 (IntKind.i64.wrap ((IntKind.i64.wrap ((IntKind.i64.wrap (p1 + 2)) + (IntKind.i64.wrap ((6 : Int) * x81)))) + 2))) :: (.pointer (Option.map (fun (p : Addr) => p.add (Int.toNat (IntKind.i64.wrap ((IntKind.i64.wrap ((IntKind.i64.wrap (p1 + 2)) + (IntKind.i64.wrap ((6 : Int) * x81)))) + 2)) * 1)) A0)) :: (.int .u8 x113) :: (u153 63) :: (.int .i64 (IntKind.i64.wrap ((IntKind.i64.wrap (p1 + 2)) + (IntKind.i64.wrap ((6 : Int) * x81))))) :: (.int .i64 (IntKind.i64.wrap ((IntKind.i64.wrap ((IntKind.i64.wrap (p1 + 2)) + (IntKind.i64.wrap ((6 : Int) * x81)))) + 3))) :: (.pointer (Option.map (fun (p : Addr) => p.add (Int.toNat (IntKind.i64.wrap ((IntKind.i64.wrap ((IntKind.i64.wrap (p1 + 2)) + (IntKind.i64.wrap ((6 : Int) * x81)))) + 3)) * 1)) A0)) :: (.int .u8 x115) :: dd u153 68 2 ((.int .i64 p1) :: (u153 71) :: (.int .i64 (IntKind.i64.wrap ((IntKind.i64.wrap (p1 + 2)) + (IntKind.i64.wrap ((6 : Int) * x81))))) :: (.int .i64 (IntKind.i64.wrap ((IntKind.i64.wrap ((IntKind.i64.wrap (p1 + 2)) + (IntKind.i64.wrap ((6 : Int) * x81)))) + 4))) :: (.int .i64 x125) :: (.int .i64 (IntKind.i64.wrap (p1 + x125))) :: (u153 76) :: (.int .i64 (IntKind.i64.wrap (p1 + x125))) :: (.int .i64 (IntKind.i64.wrap ((IntKind.i64.wrap (p1 + x125)) + 2))) :: (.int .i64 x133) :: (u153 80) :: (.int .i64 (IntKind.i64.wrap (p1 + x125))) :: (.bool b147) :: dd u153 83 6 ((.bool b154) :: dd u72 90 64 (undef :: []))))))))).toArray, []⟩) a ∧ b154 = c155 ∧ St [] w0 w [poolE ft73 W74, boxE w107.heap.size [.int .u8 x109, .int .u8 x111, .int .u8 x113, .int .u8 x115, .slice none 0 0] 35, rowG 35 5 (.slice A76 l80.length c77) l80.length vs78]) rfl ?_ ?_
        ·cases b147 with
         | true =>
          try dsimp only at hE156
          refine gx_k (.bool false) w148 (gx_k (.bool false) w148 (gx_k (.slice A0 p0.length c0) w148 (gx_k (.int .i64 (IntKind.i64.wrap (p1 + x125))) w148 ?_)))
          have hP159 : St _ _ w148 ([] ++ [poolE ft73 W74, rowG 35 5 (.slice A76 l80.length c77) l80.length vs78, boxE w107.heap.size [.int .u8 x109, .int .u8 x111, .int .u8 x113, .int .u8 x115, .slice none 0 0] 35]) := hS149
          obtain ⟨x161, hc160, hE156⟩ := bind_in hE156
          try dsimp only at hE156
          refine gx_c (rW_R x161 w148) (rW_ok N p0 (IntKind.i64.wrap (p1 + x125)) A0 c0 _ hc160 w148 (hP159.vwA hv0)) ?_
          rintro _ w162 ⟨rfl, hT164⟩
          have hS163 : St _ _ w162 [poolE ft73 W74, rowG 35 5 (.slice A76 l80.length c77) l80.length vs78, boxE w107.heap.size [.int .u8 x109, .int .u8 x111, .int .u8 x113, .int .u8 x115, .slice none 0 0] 35] := hS149.take _ hT164
          rcases if_in hE156 with ⟨h165, hE156⟩ | ⟨h165, hE156⟩
          ·refine gx_v (.bool true) w162 (run_boolE (ne_yes h165) (by kernel_rfl)) ?_
           refine gx_k (.bool true) w162 ?_
           refine gx_nil ?_
           refine gx_thenN ?_
           exact ⟨true, selfA_i (by kernel_rfl), (Option.some.inj hE156), (hS163.pick [0, 2, 1] rfl rfl)⟩
          ·refine gx_v (.bool false) w162 (run_boolE (ne_no h165) (by kernel_rfl)) ?_
           refine gx_k (.bool false) w162 ?_
           refine gx_nil ?_
           refine gx_thenN ?_
           exact ⟨false, selfA_i (by kernel_rfl), (Option.some.inj hE156), (hS163.pick [0, 2, 1] rfl rfl)⟩
         | false =>
          try dsimp only at hE156
          refine gx_k (.bool true) w148 (gx_k (.bool true) w148 (gx_o (gx_o (gx_o (gx_o (gx_k (.bool true) w148 ?_))))))
          refine gx_nil ?_
          refine gx_thenN ?_
          exact ⟨true, selfA_i (by kernel_rfl), (Option.some.inj hE156), (hS149.pick [0, 2, 1] rfl rfl)⟩
        ·rintro _ w151 ⟨b154, hq158, rfl, hS152⟩
         obtain ⟨u153, rfl⟩ := selfA_u hq158
         try dsimp only at hO157
         refine gx_k (.bool b154) w151 ?_
         cases b154 with
         | true =>
          try dsimp only at hO157
          refine gx_o (gx_o (gx_o (gx_o (gx_o (gx_o (gx_o (gx_k (.bool true) w151 ?_)))))))
          refine gx_nil ?_
          refine gx_thenN ?_
          refine hK144 _ _ ?_
          refine gx_yes (by kernel_rfl) ?_
          refine gx_seq (fun K166 hK167 => ?_)
          refine gx_region ?_
          refine gx_k (.slice none 0 0) w151 (gx_k (.int .i64 50) w151 ?_)
          refine gx_nil ?_
          refine gx_thenN ?_
          refine hK167 _ _ ?_
          refine gx_ret ?_
          refine gx_thenR ?_
          obtain rfl := Option.some.inj hO157
          try dsimp only at hO142
          refine gx_blkR ?_
          refine gx_thenR ?_
          obtain rfl := Option.some.inj hO142
          try dsimp only at hO102
          refine gx_thenR ?_
          refine gx_blkR ?_
          refine gx_thenR ?_
          obtain rfl := Option.some.inj hO102
          try dsimp only at hO65
          have hS168 : St _ _ w151 [poolE ft73 W74, boxE w107.heap.size [.int .u8 x109, .int .u8 x111, .int .u8 x113, .int .u8 x115, .slice none 0 0] 35, rowG 35 5 (.slice A76 l80.length c77) l80.length vs78, rowG 35 5 (.slice none (([] : List ((Int × Int × Int × Int) × List Int)).length) 0) (([] : List ((Int × Int × Int × Int) × List Int)).length) ([])] := hS152.nilrowN 35 5
          have hf169 : (fEach (pairE encapiTag (rowOf (intE .i64))) [] []).rd W74 ft73 := each_nil
          have hS170 : St _ _ w151 [poolE ft73 w151, boxE w107.heap.size [.int .u8 x109, .int .u8 x111, .int .u8 x113, .int .u8 x115, .slice none 0 0] 35, rowG 35 5 (.slice A76 l80.length c77) l80.length vs78, rowG 35 5 (.slice none (([] : List ((Int × Int × Int × Int) × List Int)).length) 0) (([] : List ((Int × Int × Int × Int) × List Int)).length) ([])] := hS168.renew 0 rfl
          obtain rfl := Option.some.inj hO65
          exact gx_fin (.tuple #[.slice none (([] : List ((Int × Int × Int × Int) × List Int)).length) 0, .int .i64 50]) (by kernel_rfl) (by kernel_rfl) ⟨_, rfl, none, 0, ([]), ft73, rfl, (hS170.pick [3, 0] rfl rfl), (hS168.now 0 rfl hf169)⟩
         | false =>
          try dsimp only at hO157
          refine gx_k (.slice A0 p0.length c0) w151 (gx_k (.int .i64 (IntKind.i64.wrap (p1 + x125))) w151 (gx_k (.int .i64 x133) w151 (gx_k (.int .i64 (IntKind.i64.wrap ((2 : Int) * x133))) w151 (gx_k (.int .i64 (IntKind.i64.wrap ((4 : Int) + (IntKind.i64.wrap ((2 : Int) * x133))))) w151 ?_))))
          have hP171 : St _ _ w151 ([] ++ [poolE ft73 W74, boxE w107.heap.size [.int .u8 x109, .int .u8 x111, .int .u8 x113, .int .u8 x115, .slice none 0 0] 35, rowG 35 5 (.slice A76 l80.length c77) l80.length vs78]) := hS152
          obtain ⟨b173, hc172, hO157⟩ := bind_in hO157
          try dsimp only at hO157
          refine gx_c (rAll_R b173 w151) (rAll_ok N p0 (IntKind.i64.wrap (p1 + x125)) (IntKind.i64.wrap ((4 : Int) + (IntKind.i64.wrap ((2 : Int) * x133)))) A0 c0 _ hc172 w151 (hP171.vwA hv0)) ?_
          rintro _ w174 ⟨rfl, hT176⟩
          have hS175 : St _ _ w174 [poolE ft73 W74, boxE w107.heap.size [.int .u8 x109, .int .u8 x111, .int .u8 x113, .int .u8 x115, .slice none 0 0] 35, rowG 35 5 (.slice A76 l80.length c77) l80.length vs78] := hS152.take _ hT176
          cases b173 with
          | true =>
           try dsimp only at hO157
           refine gx_k (.bool false) w174 (gx_k (.bool false) w174 ?_)
           refine gx_nil ?_
           refine gx_thenN ?_
           refine hK144 _ _ ?_
           refine gx_no (by kernel_rfl) ?_
           refine gx_pass ?_
           refine gx_thenN ?_
           exact ⟨selfA_i (by kernel_rfl), (Option.some.inj hO157), hS175⟩
          | false =>
           try dsimp only at hO157
           refine gx_k (.bool true) w174 (gx_k (.bool true) w174 ?_)
           refine gx_nil ?_
           refine gx_thenN ?_
           refine hK144 _ _ ?_
           refine gx_yes (by kernel_rfl) ?_
           refine gx_seq (fun K177 hK178 => ?_)
           refine gx_region ?_
           refine gx_k (.slice none 0 0) w174 (gx_k (.int .i64 50) w174 ?_)
           refine gx_nil ?_
           refine gx_thenN ?_
           refine hK178 _ _ ?_
           refine gx_ret ?_
           refine gx_thenR ?_
           obtain rfl := Option.some.inj hO157
           try dsimp only at hO142
           refine gx_blkR ?_
           refine gx_thenR ?_
           obtain rfl := Option.some.inj hO142
           try dsimp only at hO102
           refine gx_thenR ?_
           refine gx_blkR ?_
           refine gx_thenR ?_
           obtain rfl := Option.some.inj hO102
           try dsimp only at hO65
           have hS179 : St _ _ w174 [poolE ft73 W74, boxE w107.heap.size [.int .u8 x109, .int .u8 x111, .int .u8 x113, .int .u8 x115, .slice none 0 0] 35, rowG 35 5 (.slice A76 l80.length c77) l80.length vs78, rowG 35 5 (.slice none (([] : List ((Int × Int × Int × Int) × List Int)).length) 0) (([] : List ((Int × Int × Int × Int) × List Int)).length) ([])] := hS175.nilrowN 35 5
           have hf180 : (fEach (pairE encapiTag (rowOf (intE .i64))) [] []).rd W74 ft73 := each_nil
           have hS181 : St _ _ w174 [poolE ft73 w174, boxE w107.heap.size [.int .u8 x109, .int .u8 x111, .int .u8 x113, .int .u8 x115, .slice none 0 0] 35, rowG 35 5 (.slice A76 l80.length c77) l80.length vs78, rowG 35 5 (.slice none (([] : List ((Int × Int × Int × Int) × List Int)).length) 0) (([] : List ((Int × Int × Int × Int) × List Int)).length) ([])] := hS179.renew 0 rfl
           obtain rfl := Option.some.inj hO65
           exact gx_fin (.tuple #[.slice none (([] : List ((Int × Int × Int × Int) × List Int)).length) 0, .int .i64 50]) (by kernel_rfl) (by kernel_rfl) ⟨_, rfl, none, 0, ([]), ft73, rfl, (hS181.pick [3, 0] rfl rfl), (hS179.now 0 rfl hf180)⟩
       ·rintro _ w137 ⟨hq331, rfl, hS138⟩
        obtain ⟨u139, rfl⟩ := selfA_u hq331
        try dsimp only at hO142
        obtain ⟨c191, hE192, hO193⟩ := bind_in hO142
        refine gx_cut (fun a w => ∃ (l190 : List Int) (ft185 : List Nat) (W186 : World) (A188 : Option Addr) (c189 : Nat), selfA (fun u184 => ⟨((.slice A0 p0.length c0) :: (.int .i64 p1) :: (.int .i64 p2) :: un 3 (dd u139 6 2 ((.int .i64 x7) :: (.slice A76 l80.length c77) :: (.int .i64 x81) :: (.int .i64 (IntKind.i64.wrap ((IntKind.i64.wrap (p1 + 2)) + (IntKind.i64.wrap ((6 : Int) * x81))))) :: (.pointer (some ⟨w107.heap.size, 0, none⟩)) :: (.int .i64 (IntKind.i64.wrap (p1 + x125))) :: (.int .i64 x133) :: dd u184 15 3 ((u72 18) :: (u13 19) :: (.int .i64 p1) :: (.int .i64 x7) :: dd u13 22 17 ((.int .i64 x81) :: (.int .i64 x7) :: (.bool true) :: dd u72 42 2 ((.int .i64 p1) :: (.int .i64 (IntKind.i64.wrap (p1 + 2))) :: (.int .i64 x81) :: (.int .i64 (IntKind.i64.wrap ((6 : Int) * x81))) :: (.int .i64 (IntKind.i64.wrap ((IntKind.i64.wrap (p1 + 2)) + (IntKind.i64.wrap ((6 : Int) * x81))))) :: (u139 49) :: (.int .i64 (IntKind.i64.wrap ((IntKind.i64.wrap (p1 + 2)) + (IntKind.i64.wrap ((6 : Int) * x81))))) :: (.pointer (Option.map (fun (p : Addr) => p.add (Int.toNat (IntKind.i64.wrap ((IntKind.i64.wrap (p1 + 2)) + (IntKind.i64.wrap ((6 : Int) * x81)))) * 1)) A0)) :: (.int .u8 x109) :: (u139 53) :: (.int .i64 (IntKind.i64.wrap ((IntKind.i64.wrap (p1 + 2)) + (IntKind.i64.wrap ((6 : Int) * x81))))) :: (.int .i64 (IntKind.i64.wrap ((IntKind.i64.wrap ((IntKind.i64.wrap (p1 + 2)) + (IntKind.i64.wrap ((6 : Int) * x81)))) + 1))) :: (.pointer (Option.map (fun (p : Addr) => p.add (Int.toNat (IntKind.i64.wrap ((IntKind.i64.wrap ((IntKind.i64.wrap (p1 + 2)) + (IntKind.i64.wrap ((6 : Int) * x81)))) + 1)) * 1)) A0)) :: (.int .u8 x111) :: (u139 58) :: (.int .i64 (IntKind.i64.wrap ((IntKind.i64.wrap (p1 + 2)) + (IntKind.i64.wrap ((6 : Int) * x81))))) :: (.int .i64 (IntKind.i64.wrap ((IntKind.i64.wrap ((IntKind.i64.wrap (p1 + 2)) + (IntKind.i64.wrap ((6 : Int) * x81)))) + 2))) :: (.pointer (Option.map (fun (p : Addr) => p.add (Int.toNat (IntKind.i64.wrap ((IntKind.i64.wrap ((IntKind.i64.wrap (p1 + 2)) + (IntKind.i64.wrap ((6 : Int) * x81)))) + 2)) * 1)) A0)) :: (.int .u8 x113) :: (u139 63) :: (.int .i64 (IntKind.i64.wrap ((IntKind.i64.wrap (p1 + 2)) + (IntKind.i64.wrap ((6 : Int) * x81))))) :: (.int .i64 (IntKind.i64.wrap ((IntKind.i64.wrap ((IntKind.i64.wrap (p1 + 2)) + (IntKind.i64.wrap ((6 : Int) * x81)))) + 3))) :: (.pointer (Option.map (fun (p : Addr) => p.add (Int.toNat (IntKind.i64.wrap ((IntKind.i64.wrap ((IntKind.i64.wrap (p1 + 2)) + (IntKind.i64.wrap ((6 : Int) * x81)))) + 3)) * 1)) A0)) :: (.int .u8 x115) :: dd u139 68 2 ((.int .i64 p1) :: (u139 71) :: (.int .i64 (IntKind.i64.wrap ((IntKind.i64.wrap (p1 + 2)) + (IntKind.i64.wrap ((6 : Int) * x81))))) :: (.int .i64 (IntKind.i64.wrap ((IntKind.i64.wrap ((IntKind.i64.wrap (p1 + 2)) + (IntKind.i64.wrap ((6 : Int) * x81)))) + 4))) :: (.int .i64 x125) :: (.int .i64 (IntKind.i64.wrap (p1 + x125))) :: (u139 76) :: (.int .i64 (IntKind.i64.wrap (p1 + x125))) :: (.int .i64 (IntKind.i64.wrap ((IntKind.i64.wrap (p1 + x125)) + 2))) :: (.int .i64 x133) :: dd u139 80 19 (dd u184 99 37 (dd u72 136 18 (undef :: [])))))))))).toArray, []⟩) a ∧ l190 = c191 ∧ St [] w0 w [poolE ft185 W186, rowE .i64 3 A188 c189 l190, boxE w107.heap.size [.int .u8 x109, .int .u8 x111, .int .u8 x113, .int .u8 x115, .slice A188 l190.length c189] 35, rowG 35 5 (.slice A76 l80.length c77) l80.length vs78] ∧ Turn [] w0 W74 ft73 W186 ft185) ?_ ?_
        ·refine gx_seq (fun K194 hK195 => ?_)
         refine gx_region ?_
         refine gx_k (.int .i64 0) w137 ?_
         refine gx_nil ?_
         refine gx_thenN ?_
         refine hK195 _ _ ?_
         refine gx_block ?_
         have hS206 : St _ _ w137 [poolE ft73 W74, boxE w107.heap.size [.int .u8 x109, .int .u8 x111, .int .u8 x113, .int .u8 x115, .slice none 0 0] 35, rowG 35 5 (.slice A76 l80.length c77) l80.length vs78, rowE .i64 3 none 0 ([])] := hS138.nilrow .i64 3
         refine gx_loop (fun k a w => ∃ (l204 : List Int) (x205 : Int) (ft199 : List Nat) (W200 : World) (A202 : Option Addr) (c203 : Nat), selfA (fun u198 => ⟨((.slice A0 p0.length c0) :: (.int .i64 p1) :: (.int .i64 p2) :: un 3 (dd u139 6 2 ((.int .i64 x7) :: (.slice A76 l80.length c77) :: (.int .i64 x81) :: (.int .i64 (IntKind.i64.wrap ((IntKind.i64.wrap (p1 + 2)) + (IntKind.i64.wrap ((6 : Int) * x81))))) :: (.pointer (some ⟨w107.heap.size, 0, none⟩)) :: (.int .i64 (IntKind.i64.wrap (p1 + x125))) :: (.int .i64 x133) :: (.int .i64 x205) :: dd u198 16 2 ((u72 18) :: (u13 19) :: (.int .i64 p1) :: (.int .i64 x7) :: dd u13 22 17 ((.int .i64 x81) :: (.int .i64 x7) :: (.bool true) :: dd u72 42 2 ((.int .i64 p1) :: (.int .i64 (IntKind.i64.wrap (p1 + 2))) :: (.int .i64 x81) :: (.int .i64 (IntKind.i64.wrap ((6 : Int) * x81))) :: (.int .i64 (IntKind.i64.wrap ((IntKind.i64.wrap (p1 + 2)) + (IntKind.i64.wrap ((6 : Int) * x81))))) :: (u139 49) :: (.int .i64 (IntKind.i64.wrap ((IntKind.i64.wrap (p1 + 2)) + (IntKind.i64.wrap ((6 : Int) * x81))))) :: (.pointer (Option.map (fun (p : Addr) => p.add (Int.toNat (IntKind.i64.wrap ((IntKind.i64.wrap (p1 + 2)) + (IntKind.i64.wrap ((6 : Int) * x81)))) * 1)) A0)) :: (.int .u8 x109) :: (u139 53) :: (.int .i64 (IntKind.i64.wrap ((IntKind.i64.wrap (p1 + 2)) + (IntKind.i64.wrap ((6 : Int) * x81))))) :: (.int .i64 (IntKind.i64.wrap ((IntKind.i64.wrap ((IntKind.i64.wrap (p1 + 2)) + (IntKind.i64.wrap ((6 : Int) * x81)))) + 1))) :: (.pointer (Option.map (fun (p : Addr) => p.add (Int.toNat (IntKind.i64.wrap ((IntKind.i64.wrap ((IntKind.i64.wrap (p1 + 2)) + (IntKind.i64.wrap ((6 : Int) * x81)))) + 1)) * 1)) A0)) :: (.int .u8 x111) :: (u139 58) :: (.int .i64 (IntKind.i64.wrap ((IntKind.i64.wrap (p1 + 2)) + (IntKind.i64.wrap ((6 : Int) * x81))))) :: (.int .i64 (IntKind.i64.wrap ((IntKind.i64.wrap ((IntKind.i64.wrap (p1 + 2)) + (IntKind.i64.wrap ((6 : Int) * x81)))) + 2))) :: (.pointer (Option.map (fun (p : Addr) => p.add (Int.toNat (IntKind.i64.wrap ((IntKind.i64.wrap ((IntKind.i64.wrap (p1 + 2)) + (IntKind.i64.wrap ((6 : Int) * x81)))) + 2)) * 1)) A0)) :: (.int .u8 x113) :: (u139 63) :: (.int .i64 (IntKind.i64.wrap ((IntKind.i64.wrap (p1 + 2)) + (IntKind.i64.wrap ((6 : Int) * x81))))) :: (.int .i64 (IntKind.i64.wrap ((IntKind.i64.wrap ((IntKind.i64.wrap (p1 + 2)) + (IntKind.i64.wrap ((6 : Int) * x81)))) + 3))) :: (.pointer (Option.map (fun (p : Addr) => p.add (Int.toNat (IntKind.i64.wrap ((IntKind.i64.wrap ((IntKind.i64.wrap (p1 + 2)) + (IntKind.i64.wrap ((6 : Int) * x81)))) + 3)) * 1)) A0)) :: (.int .u8 x115) :: dd u139 68 2 ((.int .i64 p1) :: (u139 71) :: (.int .i64 (IntKind.i64.wrap ((IntKind.i64.wrap (p1 + 2)) + (IntKind.i64.wrap ((6 : Int) * x81))))) :: (.int .i64 (IntKind.i64.wrap ((IntKind.i64.wrap ((IntKind.i64.wrap (p1 + 2)) + (IntKind.i64.wrap ((6 : Int) * x81)))) + 4))) :: (.int .i64 x125) :: (.int .i64 (IntKind.i64.wrap (p1 + x125))) :: (u139 76) :: (.int .i64 (IntKind.i64.wrap (p1 + x125))) :: (.int .i64 (IntKind.i64.wrap ((IntKind.i64.wrap (p1 + x125)) + 2))) :: (.int .i64 x133) :: dd u139 80 19 (dd u198 99 37 (dd u72 136 18 (undef :: [])))))))))).toArray, []⟩) a ∧ rFeats_L2 N p0 p1 p2 x125 x133 k l204 x205 = some c191 ∧ St [] w0 w [poolE ft199 W200, rowE .i64 3 A202 c203 l204, boxE w107.heap.size [.int .u8 x109, .int .u8 x111, .int .u8 x113, .int .u8 x115, .slice A202 l204.length c203] 35, rowG 35 5 (.slice A76 l80.length c77) l80.length vs78] ∧ Turn [] w0 W74 ft73 W200 ft199) N ?_ ?_
         ·exact ⟨([]), 0, ft73, W74, none, 0, selfA_i (by kernel_rfl), hE192, (hS206.pick [0, 3, 1, 2] rfl rfl), (Turn.refl _ _ _ _)⟩
         ·rintro k207 _ w196 ⟨l204, x205, ft199, W200, A202, c203, hq276, hL208, hS197, hT201⟩
          obtain ⟨u198, rfl⟩ := selfA_u hq276
          cases k207 with
          | zero => cases hL208
          | succ k207 =>
           first | rw [rFeats_L2] at hL208 | unfold rFeats_L2 at hL208
           refine gx_seq (fun K209 hK210 => ?_)
           refine gx_seq (fun K211 hK212 => ?_)
           refine gx_region ?_
           refine gx_k (.int .i64 x205) w196 ?_
           rcases if_in hL208 with ⟨h213, hL208⟩ | ⟨h213, hL208⟩
           ·refine gx_v (.bool true) w196 (run_boolE (decide_eq_true h213) (by kernel_rfl)) ?_
            refine gx_k (.bool true) w196 (gx_k (.int .i64 x133) w196 ?_)
            rcases if_in hL208 with ⟨h214, hL208⟩ | ⟨h214, hL208⟩
            ·refine gx_v (.bool true) w196 (run_boolE (decide_eq_true h214) (by kernel_rfl)) ?_
             refine gx_k (.bool true) w196 (gx_k (.bool true) w196 (gx_k (.int .i64 x205) w196 (gx_k (.int .i64 p2) w196 ?_)))
             rcases if_in hL208 with ⟨h215, hL208⟩ | ⟨h215, hL208⟩
             ·refine gx_v (.bool true) w196 (run_boolE (decide_eq_true h215) (by kernel_rfl)) ?_
              refine gx_k (.bool true) w196 ?_
              refine gx_nil ?_
              refine gx_thenN ?_
              refine hK212 _ _ ?_
              refine gx_yes (by kernel_rfl) ?_
              refine gx_pass ?_
              refine gx_thenN ?_
              refine hK210 _ _ ?_
              obtain ⟨c225, hE226, hO227⟩ := bind_in hL208
              refine gx_cut (fun a w => ∃ (l224 : List Int) (ft219 : List Nat) (W220 : World) (A222 : Option Addr) (c223 : Nat), selfA (fun u218 => ⟨((.slice A0 p0.length c0) :: (.int .i64 p1) :: (.int .i64 p2) :: un 3 (dd u139 6 2 ((.int .i64 x7) :: (.slice A76 l80.length c77) :: (.int .i64 x81) :: (.int .i64 (IntKind.i64.wrap ((IntKind.i64.wrap (p1 + 2)) + (IntKind.i64.wrap ((6 : Int) * x81))))) :: (.pointer (some ⟨w107.heap.size, 0, none⟩)) :: (.int .i64 (IntKind.i64.wrap (p1 + x125))) :: (.int .i64 x133) :: (.int .i64 x205) :: dd u218 16 2 ((u72 18) :: (u13 19) :: (.int .i64 p1) :: (.int .i64 x7) :: dd u13 22 17 ((.int .i64 x81) :: (.int .i64 x7) :: (.bool true) :: dd u72 42 2 ((.int .i64 p1) :: (.int .i64 (IntKind.i64.wrap (p1 + 2))) :: (.int .i64 x81) :: (.int .i64 (IntKind.i64.wrap ((6 : Int) * x81))) :: (.int .i64 (IntKind.i64.wrap ((IntKind.i64.wrap (p1 + 2)) + (IntKind.i64.wrap ((6 : Int) * x81))))) :: (u139 49) :: (.int .i64 (IntKind.i64.wrap ((IntKind.i64.wrap (p1 + 2)) + (IntKind.i64.wrap ((6 : Int) * x81))))) :: (.pointer (Option.map (fun (p : Addr) => p.add (Int.toNat (IntKind.i64.wrap ((IntKind.i64.wrap (p1 + 2)) + (IntKind.i64.wrap ((6 : Int) * x81)))) * 1)) A0)) :: (.int .u8 x109) :: (u139 53) :: (.int .i64 (IntKind.i64.wrap ((IntKind.i64.wrap (p1 + 2)) + (IntKind.i64.wrap ((6 : Int) * x81))))) :: (.int .i64 (IntKind.i64.wrap ((IntKind.i64.wrap ((IntKind.i64.wrap (p1 + 2)) + (IntKind.i64.wrap ((6 : Int) * x81)))) + 1))) :: (.pointer (Option.map (fun (p : Addr) => p.add (Int.toNat (IntKind.i64.wrap ((IntKind.i64.wrap ((IntKind.i64.wrap (p1 + 2)) + (IntKind.i64.wrap ((6 : Int) * x81)))) + 1)) * 1)) A0)) :: (.int .u8 x111) :: (u139 58) :: (.int .i64 (IntKind.i64.wrap ((IntKind.i64.wrap (p1 + 2)) + (IntKind.i64.wrap ((6 : Int) * x81))))) :: (.int .i64 (IntKind.i64.wrap ((IntKind.i64.wrap ((IntKind.i64.wrap (p1 + 2)) + (IntKind.i64.wrap ((6 : Int) * x81)))) + 2))) :: (.pointer (Option.map (fun (p : Addr) => p.add (Int.toNat (IntKind.i64.wrap ((IntKind.i64.wrap ((IntKind.i64.wrap (p1 + 2)) + (IntKind.i64.wrap ((6 : Int) * x81)))) + 2)) * 1)) A0)) :: (.int .u8 x113) :: (u139 63) :: (.int .i64 (IntKind.i64.wrap ((IntKind.i64.wrap (p1 + 2)) + (IntKind.i64.wrap ((6 : Int) * x81))))) :: (.int .i64 (IntKind.i64.wrap ((IntKind.i64.wrap ((IntKind.i64.wrap (p1 + 2)) + (IntKind.i64.wrap ((6 : Int) * x81)))) + 3))) :: (.pointer (Option.map (fun (p : Addr) => p.add (Int.toNat (IntKind.i64.wrap ((IntKind.i64.wrap ((IntKind.i64.wrap (p1 + 2)) + (IntKind.i64.wrap ((6 : Int) * x81)))) + 3)) * 1)) A0)) :: (.int .u8 x115) :: dd u139 68 2 ((.int .i64 p1) :: (u139 71) :: (.int .i64 (IntKind.i64.wrap ((IntKind.i64.wrap (p1 + 2)) + (IntKind.i64.wrap ((6 : Int) * x81))))) :: (.int .i64 (IntKind.i64.wrap ((IntKind.i64.wrap ((IntKind.i64.wrap (p1 + 2)) + (IntKind.i64.wrap ((6 : Int) * x81)))) + 4))) :: (.int .i64 x125) :: (.int .i64 (IntKind.i64.wrap (p1 + x125))) :: (u139 76) :: (.int .i64 (IntKind.i64.wrap (p1 + x125))) :: (.int .i64 (IntKind.i64.wrap ((IntKind.i64.wrap (p1 + x125)) + 2))) :: (.int .i64 x133) :: dd u139 80 19 ((.int .i64 x205) :: (.bool true) :: (.bool true) :: (.int .i64 x133) :: (.bool true) :: (.bool true) :: (.bool true) :: (.int .i64 x205) :: (.int .i64 p2) :: (.bool true) :: (.bool true) :: dd u198 110 2 (dd u218 112 24 (dd u72 136 18 (undef :: []))))))))))).toArray, []⟩) a ∧ l224 = c225 ∧ St [] w0 w [poolE ft219 W220, rowE .i64 3 A222 c223 l224, boxE w107.heap.size [.int .u8 x109, .int .u8 x111, .int .u8 x113, .int .u8 x115, .slice A222 l224.length c223] 35, rowG 35 5 (.slice A76 l80.length c77) l80.length vs78] ∧ Turn [] w0 W200 ft199 W220 ft219) ?_ ?_
              ·refine gx_block ?_
               refine gx_seq (fun K228 hK229 => ?_)
               refine gx_region ?_
               refine gx_k (.bool false) w196 ?_
               refine gx_nil ?_
               refine gx_thenN ?_
               refine hK229 _ _ ?_
               obtain ⟨c234, hE235, hO236⟩ := bind_in hE226
               refine gx_cut (fun a w => ∃ (b233 : Bool), selfA (fun u232 => ⟨((.slice A0 p0.length c0) :: (.int .i64 p1) :: (.int .i64 p2) :: un 3 (dd u139 6 2 ((.int .i64 x7) :: (.slice A76 l80.length c77) :: (.int .i64 x81) :: (.int .i64 (IntKind.i64.wrap ((IntKind.i64.wrap (p1 + 2)) + (IntKind.i64.wrap ((6 : Int) * x81))))) :: (.pointer (some ⟨w107.heap.size, 0, none⟩)) :: (.int .i64 (IntKind.i64.wrap (p1 + x125))) :: (.int .i64 x133) :: (.int .i64 x205) :: (.bool b233) :: (u232 17) :: (u72 18) :: (u13 19) :: (.int .i64 p1) :: (.int .i64 x7) :: dd u13 22 17 ((.int .i64 x81) :: (.int .i64 x7) :: (.bool true) :: dd u72 42 2 ((.int .i64 p1) :: (.int .i64 (IntKind.i64.wrap (p1 + 2))) :: (.int .i64 x81) :: (.int .i64 (IntKind.i64.wrap ((6 : Int) * x81))) :: (.int .i64 (IntKind.i64.wrap ((IntKind.i64.wrap (p1 + 2)) + (IntKind.i64.wrap ((6 : Int) * x81))))) :: (u139 49) :: (.int .i64 (IntKind.i64.wrap ((IntKind.i64.wrap (p1 + 2)) + (IntKind.i64.wrap ((6 : Int) * x81))))) :: (.pointer (Option.map (fun (p : Addr) => p.add (Int.toNat (IntKind.i64.wrap ((IntKind.i64.wrap (p1 + 2)) + (IntKind.i64.wrap ((6 : Int) * x81)))) * 1)) A0)) :: (.int .u8 x109) :: (u139 53) :: (.int .i64 (IntKind.i64.wrap ((IntKind.i64.wrap (p1 + 2)) + (IntKind.i64.wrap ((6 : Int) * x81))))) :: (.int .i64 (IntKind.i64.wrap ((IntKind.i64.wrap ((IntKind.i64.wrap (p1 + 2)) + (IntKind.i64.wrap ((6 : Int) * x81)))) + 1))) :: (.pointer (Option.map (fun (p : Addr) => p.add (Int.toNat (IntKind.i64.wrap ((IntKind.i64.wrap ((IntKind.i64.wrap (p1 + 2)) + (IntKind.i64.wrap ((6 : Int) * x81)))) + 1)) * 1)) A0)) :: (.int .u8 x111) :: (u139 58) :: (.int .i64 (IntKind.i64.wrap ((IntKind.i64.wrap (p1 + 2)) + (IntKind.i64.wrap ((6 : Int) * x81))))) :: (.int .i64 (IntKind.i64.wrap ((IntKind.i64.wrap ((IntKind.i64.wrap (p1 + 2)) + (IntKind.i64.wrap ((6 : Int) * x81)))) + 2))) :: (.pointer (Option.map (fun (p : Addr) => p.add (Int.toNat (IntKind.i64.wrap ((IntKind.i64.wrap ((IntKind.i64.wrap (p1 + 2)) + (IntKind.i64.wrap ((6 : Int) * x81)))) + 2)) * 1)) A0)) :: (.int .u8 x113) :: (u139 63) :: (.int .i64 (IntKind.i64.wrap ((IntKind.i64.wrap (p1 + 2)) + (IntKind.i64.wrap ((6 : Int) * x81))))) :: (.int .i64 (IntKind.i64.wrap ((IntKind.i64.wrap ((IntKind.i64.wrap (p1 + 2)) + (IntKind.i64.wrap ((6 : Int) * x81)))) + 3))) :: (.pointer (Option.map (fun (p : Addr) => p.add (Int.toNat (IntKind.i64.wrap ((IntKind.i64.wrap ((IntKind.i64.wrap (p1 + 2)) + (IntKind.i64.wrap ((6 : Int) * x81)))) + 3)) * 1)) A0)) :: (.int .u8 x115) :: dd u139 68 2 ((.int .i64 p1) :: (u139 71) :: (.int .i64 (IntKind.i64.wrap ((IntKind.i64.wrap (p1 + 2)) + (IntKind.i64.wrap ((6 : Int) * x81))))) :: (.int .i64 (IntKind.i64.wrap ((IntKind.i64.wrap ((IntKind.i64.wrap (p1 + 2)) + (IntKind.i64.wrap ((6 : Int) * x81)))) + 4))) :: (.int .i64 x125) :: (.int .i64 (IntKind.i64.wrap (p1 + x125))) :: (u139 76) :: (.int .i64 (IntKind.i64.wrap (p1 + x125))) :: (.int .i64 (IntKind.i64.wrap ((IntKind.i64.wrap (p1 + x125)) + 2))) :: (.int .i64 x133) :: dd u139 80 19 ((.int .i64 x205) :: (.bool true) :: (.bool true) :: (.int .i64 x133) :: (.bool true) :: (.bool true) :: (.bool true) :: (.int .i64 x205) :: (.int .i64 p2) :: (.bool true) :: (.bool true) :: dd u198 110 2 (dd u232 112 17 (dd u198 129 7 (dd u72 136 18 (undef :: []))))))))))).toArray, []⟩) a ∧ b233 = c234 ∧ St [] w0 w [poolE ft199 W200, rowE .i64 3 A202 c203 l204, boxE w107.heap.size [.int .u8 x109, .int .u8 x111, .int .u8 x113, .int .u8 x115, .slice A202 l204.length c203] 35, rowG 35 5 (.slice A76 l80.length c77) l80.length vs78]) ?_ ?_
               ·refine gx_seq (fun K237 hK238 => ?_)
                refine gx_region ?_
                refine gx_k (.int .i64 0) w196 ?_
                refine gx_nil ?_
                refine gx_thenN ?_
                refine hK238 _ _ ?_
                refine gx_block ?_
                refine gx_loop (fun k a w => ∃ (b242 : Bool) (x243 : Int), selfA (fun u241 => ⟨((.slice A0 p0.length c0) :: (.int .i64 p1) :: (.int .i64 p2) :: un 3 (dd u139 6 2 ((.int .i64 x7) :: (.slice A76 l80.length c77) :: (.int .i64 x81) :: (.int .i64 (IntKind.i64.wrap ((IntKind.i64.wrap (p1 + 2)) + (IntKind.i64.wrap ((6 : Int) * x81))))) :: (.pointer (some ⟨w107.heap.size, 0, none⟩)) :: (.int .i64 (IntKind.i64.wrap (p1 + x125))) :: (.int .i64 x133) :: (.int .i64 x205) :: (.bool b242) :: (.int .i64 x243) :: (u72 18) :: (u13 19) :: (.int .i64 p1) :: (.int .i64 x7) :: dd u13 22 17 ((.int .i64 x81) :: (.int .i64 x7) :: (.bool true) :: dd u72 42 2 ((.int .i64 p1) :: (.int .i64 (IntKind.i64.wrap (p1 + 2))) :: (.int .i64 x81) :: (.int .i64 (IntKind.i64.wrap ((6 : Int) * x81))) :: (.int .i64 (IntKind.i64.wrap ((IntKind.i64.wrap (p1 + 2)) + (IntKind.i64.wrap ((6 : Int) * x81))))) :: (u139 49) :: (.int .i64 (IntKind.i64.wrap ((IntKind.i64.wrap (p1 + 2)) + (IntKind.i64.wrap ((6 : Int) * x81))))) :: (.pointer (Option.map (fun (p : Addr) => p.add (Int.toNat (IntKind.i64.wrap ((IntKind.i64.wrap (p1 + 2)) + (IntKind.i64.wrap ((6 : Int) * x81)))) * 1)) A0)) :: (.int .u8 x109) :: (u139 53) :: (.int .i64 (IntKind.i64.wrap ((IntKind.i64.wrap (p1 + 2)) + (IntKind.i64.wrap ((6 : Int) * x81))))) :: (.int .i64 (IntKind.i64.wrap ((IntKind.i64.wrap ((IntKind.i64.wrap (p1 + 2)) + (IntKind.i64.wrap ((6 : Int) * x81)))) + 1))) :: (.pointer (Option.map (fun (p : Addr) => p.add (Int.toNat (IntKind.i64.wrap ((IntKind.i64.wrap ((IntKind.i64.wrap (p1 + 2)) + (IntKind.i64.wrap ((6 : Int) * x81)))) + 1)) * 1)) A0)) :: (.int .u8 x111) :: (u139 58) :: (.int .i64 (IntKind.i64.wrap ((IntKind.i64.wrap (p1 + 2)) + (IntKind.i64.wrap ((6 : Int) * x81))))) :: (.int .i64 (IntKind.i64.wrap ((IntKind.i64.wrap ((IntKind.i64.wrap (p1 + 2)) + (IntKind.i64.wrap ((6 : Int) * x81)))) + 2))) :: (.pointer (Option.map (fun (p : Addr) => p.add (Int.toNat (IntKind.i64.wrap ((IntKind.i64.wrap ((IntKind.i64.wrap (p1 + 2)) + (IntKind.i64.wrap ((6 : Int) * x81)))) + 2)) * 1)) A0)) :: (.int .u8 x113) :: (u139 63) :: (.int .i64 (IntKind.i64.wrap ((IntKind.i64.wrap (p1 + 2)) + (IntKind.i64.wrap ((6 : Int) * x81))))) :: (.int .i64 (IntKind.i64.wrap ((IntKind.i64.wrap ((IntKind.i64.wrap (p1 + 2)) + (IntKind.i64.wrap ((6 : Int) * x81)))) + 3))) :: (.pointer (Option.map (fun (p : Addr) => p.add (Int.toNat (IntKind.i64.wrap ((IntKind.i64.wrap ((IntKind.i64.wrap (p1 + 2)) + (IntKind.i64.wrap ((6 : Int) * x81)))) + 3)) * 1)) A0)) :: (.int .u8 x115) :: dd u139 68 2 ((.int .i64 p1) :: (u139 71) :: (.int .i64 (IntKind.i64.wrap ((IntKind.i64.wrap (p1 + 2)) + (IntKind.i64.wrap ((6 : Int) * x81))))) :: (.int .i64 (IntKind.i64.wrap ((IntKind.i64.wrap ((IntKind.i64.wrap (p1 + 2)) + (IntKind.i64.wrap ((6 : Int) * x81)))) + 4))) :: (.int .i64 x125) :: (.int .i64 (IntKind.i64.wrap (p1 + x125))) :: (u139 76) :: (.int .i64 (IntKind.i64.wrap (p1 + x125))) :: (.int .i64 (IntKind.i64.wrap ((IntKind.i64.wrap (p1 + x125)) + 2))) :: (.int .i64 x133) :: dd u139 80 19 ((.int .i64 x205) :: (.bool true) :: (.bool true) :: (.int .i64 x133) :: (.bool true) :: (.bool true) :: (.bool true) :: (.int .i64 x205) :: (.int .i64 p2) :: (.bool true) :: (.bool true) :: dd u198 110 2 (dd u241 112 17 (dd u198 129 7 (dd u72 136 18 (undef :: []))))))))))).toArray, []⟩) a ∧ rFeats_L3 N p0 p1 x125 x133 x205 k b242 x243 = some c234 ∧ St [] w0 w [poolE ft199 W200, rowE .i64 3 A202 c203 l204, boxE w107.heap.size [.int .u8 x109, .int .u8 x111, .int .u8 x113, .int .u8 x115, .slice A202 l204.length c203] 35, rowG 35 5 (.slice A76 l80.length c77) l80.length vs78]) N ?_ ?_
                ·exact ⟨false, 0, selfA_i (by kernel_rfl), hE235, hS197⟩
                ·rintro k244 _ w239 ⟨b242, x243, hq260, hL245, hS240⟩
                 obtain ⟨u241, rfl⟩ := selfA_u hq260
                 cases k244 with
                 | zero => cases hL245
                 | succ k244 =>
                  first | rw [rFeats_L3] at hL245 | unfold rFeats_L3 at hL245
                  refine gx_seq (fun K246 hK247 => ?_)
                  refine gx_seq (fun K248 hK249 => ?_)
                  refine gx_region ?_
                  refine gx_k (.int .i64 x243) w239 (gx_k (.int .i64 x133) w239 ?_)
                  rcases if_in hL245 with ⟨h250, hL245⟩ | ⟨h250, hL245⟩
                  ·refine gx_v (.bool true) w239 (run_boolE (decide_eq_true h250) (by kernel_rfl)) ?_
                   refine gx_nil ?_
                   refine gx_thenN ?_
                   refine hK249 _ _ ?_
                   refine gx_yes (by kernel_rfl) ?_
                   refine gx_pass ?_
                   refine gx_thenN ?_
                   refine hK247 _ _ ?_
                   refine gx_seq (fun K251 hK252 => ?_)
                   refine gx_block ?_
                   refine gx_region ?_
                   refine gx_k (.bool b242) w239 (gx_k (.bool b242) w239 ?_)
                   cases b242 with
                   | true =>
                    try dsimp only at hL245
                    refine gx_o (gx_o (gx_o (gx_o (gx_o (gx_o (gx_o (gx_o ?_)))))))
                    refine gx_o (gx_k (.bool true) w239 (gx_k (.bool true) w239 ?_))
                    refine gx_nil ?_
                    refine gx_blkN ?_
                    refine gx_thenN ?_
                    refine hK252 _ _ ?_
                    refine gx_region ?_
                    refine gx_k (.int .i64 x243) w239 (gx_k (.int .i64 (IntKind.i64.wrap (x243 + 1))) w239 (gx_k (.int .i64 (IntKind.i64.wrap (x243 + 1))) w239 ?_))
                    refine gx_nil ?_
                    refine gx_thenN ?_
                    exact ⟨k244, Nat.lt_succ_self k244, true, (IntKind.i64.wrap (x243 + 1)), selfA_i (by kernel_rfl), hL245, hS240⟩
                   | false =>
                    try dsimp only at hL245
                    refine gx_k (.slice A0 p0.length c0) w239 (gx_k (.int .i64 (IntKind.i64.wrap (p1 + x125))) w239 (gx_k (.int .i64 (IntKind.i64.wrap ((IntKind.i64.wrap (p1 + x125)) + 4))) w239 (gx_k (.int .i64 x243) w239 (gx_k (.int .i64 (IntKind.i64.wrap ((2 : Int) * x243))) w239 (gx_k (.int .i64 (IntKind.i64.wrap ((IntKind.i64.wrap ((IntKind.i64.wrap (p1 + x125)) + 4)) + (IntKind.i64.wrap ((2 : Int) * x243))))) w239 ?_)))))
                    have hP253 : St _ _ w239 ([] ++ [poolE ft199 W200, rowE .i64 3 A202 c203 l204, boxE w107.heap.size [.int .u8 x109, .int .u8 x111, .int .u8 x113, .int .u8 x115, .slice A202 l204.length c203] 35, rowG 35 5 (.slice A76 l80.length c77) l80.length vs78]) := hS240
                    obtain ⟨x255, hc254, hL245⟩ := bind_in hL245
                    try dsimp only at hL245
                    refine gx_c (rW_R x255 w239) (rW_ok N p0 (IntKind.i64.wrap ((IntKind.i64.wrap ((IntKind.i64.wrap (p1 + x125)) + 4)) + (IntKind.i64.wrap ((2 : Int) * x243)))) A0 c0 _ hc254 w239 (hP253.vwA hv0)) ?_
                    rintro _ w256 ⟨rfl, hT258⟩
                    have hS257 : St _ _ w256 [poolE ft199 W200, rowE .i64 3 A202 c203 l204, boxE w107.heap.size [.int .u8 x109, .int .u8 x111, .int .u8 x113, .int .u8 x115, .slice A202 l204.length c203] 35, rowG 35 5 (.slice A76 l80.length c77) l80.length vs78] := hS240.take _ hT258
                    refine gx_k (.int .i64 x205) w256 ?_
                    rcases if_in hL245 with ⟨h259, hL245⟩ | ⟨h259, hL245⟩
                    ·refine gx_v (.bool true) w256 (run_boolE (decide_eq_true h259) (by kernel_rfl)) ?_
                     refine gx_k (.bool true) w256 (gx_k (.bool true) w256 ?_)
                     refine gx_nil ?_
                     refine gx_blkN ?_
                     refine gx_thenN ?_
                     refine hK252 _ _ ?_
                     refine gx_region ?_
                     refine gx_k (.int .i64 x243) w256 (gx_k (.int .i64 (IntKind.i64.wrap (x243 + 1))) w256 (gx_k (.int .i64 (IntKind.i64.wrap (x243 + 1))) w256 ?_))
                     refine gx_nil ?_
                     refine gx_thenN ?_
                     exact ⟨k244, Nat.lt_succ_self k244, true, (IntKind.i64.wrap (x243 + 1)), selfA_i (by kernel_rfl), hL245, hS257⟩
                    ·refine gx_v (.bool false) w256 (run_boolE (decide_eq_false h259) (by kernel_rfl)) ?_
                     refine gx_k (.bool false) w256 (gx_k (.bool false) w256 ?_)
                     refine gx_nil ?_
                     refine gx_blkN ?_
                     refine gx_thenN ?_
                     refine hK252 _ _ ?_
                     refine gx_region ?_
                     refine gx_k (.int .i64 x243) w256 (gx_k (.int .i64 (IntKind.i64.wrap (x243 + 1))) w256 (gx_k (.int .i64 (IntKind.i64.wrap (x243 + 1))) w256 ?_))
                     refine gx_nil ?_
                     refine gx_thenN ?_
                     exact ⟨k244, Nat.lt_succ_self k244, false, (IntKind.i64.wrap (x243 + 1)), selfA_i (by kernel_rfl), hL245, hS257⟩
                  ·refine gx_v (.bool false) w239 (run_boolE (decide_eq_false h250) (by kernel_rfl)) ?_
                   refine gx_nil ?_
                   refine gx_thenN ?_
                   refine hK249 _ _ ?_
                   refine gx_no (by kernel_rfl) ?_
                   refine gx_exit ?_
                   refine gx_thenE ?_
                   refine gx_thenE ?_
                   refine gx_blkE ?_
                   refine gx_thenN ?_
                   exact ⟨b242, selfA_i (by kernel_rfl), (Option.some.inj hL245), hS240⟩
               ·rintro _ w230 ⟨b233, hq274, rfl, hS231⟩
                obtain ⟨u232, rfl⟩ := selfA_u hq274
                try dsimp only at hO236
                refine gx_seq (fun K261 hK262 => ?_)
                refine gx_region ?_
                refine gx_k (.bool b233) w230 ?_
                refine gx_nil ?_
                refine gx_thenN ?_
                refine hK262 _ _ ?_
                cases b233 with
                | true =>
                 try dsimp only at hO236
                 refine gx_yes (by kernel_rfl) ?_
                 refine gx_region ?_
                 refine gx_k (.pointer (some ⟨w107.heap.size, 4, none⟩)) w230 ?_
                 refine gx_v (.slice A202 l204.length c203) w230 (run_load1 rfl (by kernel_rfl) (fun _ => by kernel_rfl) (hS231.box 2 rfl 4 rfl)) ?_
                 refine gx_k (.int .i64 x205) w230 ?_
                 refine gx_r (st_made .i64 3 [x205] hS231 (by show 1 ≤ 1000000000; decide) (by kernel_rfl)) ?_
                 rintro _ w263 ⟨rfl, hS264⟩
                 have hS264 : St _ _ w263 [poolE ft199 W200, rowE .i64 3 A202 c203 l204, boxE w107.heap.size [.int .u8 x109, .int .u8 x111, .int .u8 x113, .int .u8 x115, .slice A202 l204.length c203] 35, rowG 35 5 (.slice A76 l80.length c77) l80.length vs78, rowE .i64 3 (some ⟨w230.heap.size, 0, none⟩) 1 ([x205])] := hS264
                 obtain ⟨l265, ha266, hO236⟩ := bind_in hO236
                 obtain ⟨ha266, hq267⟩ := apx_in ha266
                 refine gx_r (st_append rfl (by kernel_rfl) (by kernel_rfl) hS264 1 rfl (hS264.row 4 rfl).1 (hS264.row 4 rfl).2 ha266 (by kernel_rfl) (by kernel_rfl)) ?_
                 rintro _ w270 ⟨A268, c269, rfl, hS271⟩
                 rw [← hq267] at hS271 ⊢
                 have hS271 : St _ _ w270 [poolE ft199 W200, rowE .i64 3 A268 c269 l265, boxE w107.heap.size [.int .u8 x109, .int .u8 x111, .int .u8 x113, .int .u8 x115, .slice A202 l204.length c203] 35, rowG 35 5 (.slice A76 l80.length c77) l80.length vs78, rowE .i64 3 (some ⟨w230.heap.size, 0, none⟩) 1 ([x205])] := hS271
                 refine gx_k (.pointer (some ⟨w107.heap.size, 4, none⟩)) w270 ?_
                 refine gx_s (st_store (j := 4) (v := (.slice A268 l265.length c269)) rfl (by kernel_rfl) (by kernel_rfl) rfl (fun _ => by kernel_rfl) hS271 2 rfl (by show 4 < 5; decide)) ?_
                 rintro w272 hS273
                 have hS273 : St _ _ w272 [poolE ft199 W200, rowE .i64 3 A268 c269 l265, boxE w107.heap.size [.int .u8 x109, .int .u8 x111, .int .u8 x113, .int .u8 x115, .slice A268 l265.length c269] 35, rowG 35 5 (.slice A76 l80.length c77) l80.length vs78, rowE .i64 3 (some ⟨w230.heap.size, 0, none⟩) 1 ([x205])] := hS273
                 refine gx_nil ?_
                 refine gx_blkN ?_
                 refine gx_thenN ?_
                 exact ⟨l265, ft199, W200, A268, c269, selfA_i (by kernel_rfl), (Option.some.inj hO236), (hS273.pick [0, 1, 2, 3] rfl rfl), (Turn.refl _ _ _ _)⟩
                | false =>
                 try dsimp only at hO236
                 refine gx_no (by kernel_rfl) ?_
                 refine gx_pass ?_
                 refine gx_blkN ?_
                 refine gx_thenN ?_
                 exact ⟨l204, ft199, W200, A202, c203, selfA_i (by kernel_rfl), (Option.some.inj hO236), hS231, (Turn.refl _ _ _ _)⟩
              ·rintro _ w216 ⟨l224, ft219, W220, A222, c223, hq275, rfl, hS217, hT221⟩
               obtain ⟨u218, rfl⟩ := selfA_u hq275
               try dsimp only at hO227
               refine gx_region ?_
               refine gx_k (.int .i64 x205) w216 (gx_k (.int .i64 (IntKind.i64.wrap (x205 + 1))) w216 (gx_k (.int .i64 (IntKind.i64.wrap (x205 + 1))) w216 ?_))
               refine gx_nil ?_
               refine gx_thenN ?_
               exact ⟨k207, Nat.lt_succ_self k207, l224, (IntKind.i64.wrap (x205 + 1)), ft219, W220, A222, c223, selfA_i (by kernel_rfl), hO227, hS217, (Turn.trans hT201 hT221)⟩
             ·refine gx_v (.bool false) w196 (run_boolE (decide_eq_false h215) (by kernel_rfl)) ?_
              refine gx_k (.bool false) w196 ?_
              refine gx_nil ?_
              refine gx_thenN ?_
              refine hK212 _ _ ?_
              refine gx_no (by kernel_rfl) ?_
              refine gx_exit ?_
              refine gx_thenE ?_
              refine gx_thenE ?_
              refine gx_blkE ?_
              refine gx_thenN ?_
              exact ⟨l204, ft199, W200, A202, c203, selfA_i (by kernel_rfl), (Option.some.inj hL208), hS197, hT201⟩
            ·refine gx_v (.bool false) w196 (run_boolE (decide_eq_false h214) (by kernel_rfl)) ?_
             refine gx_k (.bool false) w196 (gx_k (.bool false) w196 (gx_o (gx_o (gx_o (gx_k (.bool false) w196 ?_)))))
             refine gx_nil ?_
             refine gx_thenN ?_
             refine hK212 _ _ ?_
             refine gx_no (by kernel_rfl) ?_
             refine gx_exit ?_
             refine gx_thenE ?_
             refine gx_thenE ?_
             refine gx_blkE ?_
             refine gx_thenN ?_
             exact ⟨l204, ft199, W200, A202, c203, selfA_i (by kernel_rfl), (Option.some.inj hL208), hS197, hT201⟩
           ·refine gx_v (.bool false) w196 (run_boolE (decide_eq_false h213) (by kernel_rfl)) ?_
            refine gx_k (.bool false) w196 (gx_o (gx_o (gx_k (.bool false) w196 (gx_k (.bool false) w196 (gx_o (gx_o (gx_o ?_)))))))
            refine gx_k (.bool false) w196 ?_
            refine gx_nil ?_
            refine gx_thenN ?_
            refine hK212 _ _ ?_
            refine gx_no (by kernel_rfl) ?_
            refine gx_exit ?_
            refine gx_thenE ?_
            refine gx_thenE ?_
            refine gx_blkE ?_
            refine gx_thenN ?_
            exact ⟨l204, ft199, W200, A202, c203, selfA_i (by kernel_rfl), (Option.some.inj hL208), hS197, hT201⟩
        ·rintro _ w182 ⟨l190, ft185, W186, A188, c189, hq330, rfl, hS183, hT187⟩
         obtain ⟨u184, rfl⟩ := selfA_u hq330
         try dsimp only at hO193
         obtain ⟨c280, hE281, hO282⟩ := bind_in hO193
         refine gx_cut (fun a w => selfA (fun u279 => ⟨((.slice A0 p0.length c0) :: (.int .i64 p1) :: (.int .i64 p2) :: un 3 (dd u279 6 2 ((.int .i64 x7) :: (.slice A76 l80.length c77) :: (.int .i64 x81) :: (.int .i64 (IntKind.i64.wrap ((IntKind.i64.wrap (p1 + 2)) + (IntKind.i64.wrap ((6 : Int) * x81))))) :: (.pointer (some ⟨w107.heap.size, 0, none⟩)) :: (.int .i64 (IntKind.i64.wrap (p1 + x125))) :: (.int .i64 x133) :: dd u184 15 3 ((u279 18) :: (u13 19) :: (.int .i64 p1) :: (.int .i64 x7) :: dd u13 22 17 ((.int .i64 x81) :: (.int .i64 x7) :: (.bool true) :: dd u72 42 2 ((.int .i64 p1) :: (.int .i64 (IntKind.i64.wrap (p1 + 2))) :: (.int .i64 x81) :: (.int .i64 (IntKind.i64.wrap ((6 : Int) * x81))) :: (.int .i64 (IntKind.i64.wrap ((IntKind.i64.wrap (p1 + 2)) + (IntKind.i64.wrap ((6 : Int) * x81))))) :: (u139 49) :: (.int .i64 (IntKind.i64.wrap ((IntKind.i64.wrap (p1 + 2)) + (IntKind.i64.wrap ((6 : Int) * x81))))) :: (.pointer (Option.map (fun (p : Addr) => p.add (Int.toNat (IntKind.i64.wrap ((IntKind.i64.wrap (p1 + 2)) + (IntKind.i64.wrap ((6 : Int) * x81)))) * 1)) A0)) :: (.int .u8 x109) :: (u139 53) :: (.int .i64 (IntKind.i64.wrap ((IntKind.i64.wrap (p1 + 2)) + (IntKind.i64.wrap ((6 : Int) * x81))))) :: (.int .i64 (IntKind.i64.wrap ((IntKind.i64.wrap ((IntKind.i64.wrap (p1 + 2)) + (IntKind.i64.wrap ((6 : Int) * x81)))) + 1))) :: (.pointer (Option.map (fun (p : Addr) => p.add (Int.toNat (IntKind.i64.wrap ((IntKind.i64.wrap ((IntKind.i64.wrap (p1 + 2)) + (IntKind.i64.wrap ((6 : Int) * x81)))) + 1)) * 1)) A0)) :: (.int .u8 x111) :: (u139 58) :: (.int .i64 (IntKind.i64.wrap ((IntKind.i64.wrap (p1 + 2)) + (IntKind.i64.wrap ((6 : Int) * x81))))) :: (.int .i64 (IntKind.i64.wrap ((IntKind.i64.wrap ((IntKind.i64.wrap (p1 + 2)) + (IntKind.i64.wrap ((6 : Int) * x81)))) + 2))) :: (.pointer (Option.map (fun (p : Addr) => p.add (Int.toNat (IntKind.i64.wrap ((IntKind.i64.wrap ((IntKind.i64.wrap (p1 + 2)) + (IntKind.i64.wrap ((6 : Int) * x81)))) + 2)) * 1)) A0)) :: (.int .u8 x113) :: (u139 63) :: (.int .i64 (IntKind.i64.wrap ((IntKind.i64.wrap (p1 + 2)) + (IntKind.i64.wrap ((6 : Int) * x81))))) :: (.int .i64 (IntKind.i64.wrap ((IntKind.i64.wrap ((IntKind.i64.wrap (p1 + 2)) + (IntKind.i64.wrap ((6 : Int) * x81)))) + 3))) :: (.pointer (Option.map (fun (p : Addr) => p.add (Int.toNat (IntKind.i64.wrap ((IntKind.i64.wrap ((IntKind.i64.wrap (p1 + 2)) + (IntKind.i64.wrap ((6 : Int) * x81)))) + 3)) * 1)) A0)) :: (.int .u8 x115) :: dd u139 68 2 ((.int .i64 p1) :: (u139 71) :: (.int .i64 (IntKind.i64.wrap ((IntKind.i64.wrap (p1 + 2)) + (IntKind.i64.wrap ((6 : Int) * x81))))) :: (.int .i64 (IntKind.i64.wrap ((IntKind.i64.wrap ((IntKind.i64.wrap (p1 + 2)) + (IntKind.i64.wrap ((6 : Int) * x81)))) + 4))) :: (.int .i64 x125) :: (.int .i64 (IntKind.i64.wrap (p1 + x125))) :: (u139 76) :: (.int .i64 (IntKind.i64.wrap (p1 + x125))) :: (.int .i64 (IntKind.i64.wrap ((IntKind.i64.wrap (p1 + x125)) + 2))) :: (.int .i64 x133) :: dd u139 80 19 (dd u184 99 37 (dd u279 136 14 (dd u72 150 4 (undef :: []))))))))))).toArray, []⟩) a ∧ Ctl.go () = c280 ∧ St [] w0 w [poolE ft185 W186, rowE .i64 3 A188 c189 l190, boxE w107.heap.size [.int .u8 x109, .int .u8 x111, .int .u8 x113, .int .u8 x115, .slice A188 l190.length c189] 35, rowG 35 5 (.slice A76 l80.length c77) l80.length vs78]) ?_ ?_
         ·refine gx_seq (fun K283 hK284 => ?_)
          refine gx_region ?_
          refine gx_k (.int .i64 0) w182 ?_
          refine gx_nil ?_
          refine gx_thenN ?_
          refine hK284 _ _ ?_
          refine gx_block ?_
          refine gx_loop (fun k a w => ∃ (x288 : Int), selfA (fun u287 => ⟨((.slice A0 p0.length c0) :: (.int .i64 p1) :: (.int .i64 p2) :: un 3 (dd u287 6 2 ((.int .i64 x7) :: (.slice A76 l80.length c77) :: (.int .i64 x81) :: (.int .i64 (IntKind.i64.wrap ((IntKind.i64.wrap (p1 + 2)) + (IntKind.i64.wrap ((6 : Int) * x81))))) :: (.pointer (some ⟨w107.heap.size, 0, none⟩)) :: (.int .i64 (IntKind.i64.wrap (p1 + x125))) :: (.int .i64 x133) :: dd u184 15 3 ((.int .i64 x288) :: (u13 19) :: (.int .i64 p1) :: (.int .i64 x7) :: dd u13 22 17 ((.int .i64 x81) :: (.int .i64 x7) :: (.bool true) :: dd u72 42 2 ((.int .i64 p1) :: (.int .i64 (IntKind.i64.wrap (p1 + 2))) :: (.int .i64 x81) :: (.int .i64 (IntKind.i64.wrap ((6 : Int) * x81))) :: (.int .i64 (IntKind.i64.wrap ((IntKind.i64.wrap (p1 + 2)) + (IntKind.i64.wrap ((6 : Int) * x81))))) :: (u139 49) :: (.int .i64 (IntKind.i64.wrap ((IntKind.i64.wrap (p1 + 2)) + (IntKind.i64.wrap ((6 : Int) * x81))))) :: (.pointer (Option.map (fun (p : Addr) => p.add (Int.toNat (IntKind.i64.wrap ((IntKind.i64.wrap (p1 + 2)) + (IntKind.i64.wrap ((6 : Int) * x81)))) * 1)) A0)) :: (.int .u8 x109) :: (u139 53) :: (.int .i64 (IntKind.i64.wrap ((IntKind.i64.wrap (p1 + 2)) + (IntKind.i64.wrap ((6 : Int) * x81))))) :: (.int .i64 (IntKind.i64.wrap ((IntKind.i64.wrap ((IntKind.i64.wrap (p1 + 2)) + (IntKind.i64.wrap ((6 : Int) * x81)))) + 1))) :: (.pointer (Option.map (fun (p : Addr) => p.add (Int.toNat (IntKind.i64.wrap ((IntKind.i64.wrap ((IntKind.i64.wrap (p1 + 2)) + (IntKind.i64.wrap ((6 : Int) * x81)))) + 1)) * 1)) A0)) :: (.int .u8 x111) :: (u139 58) :: (.int .i64 (IntKind.i64.wrap ((IntKind.i64.wrap (p1 + 2)) + (IntKind.i64.wrap ((6 : Int) * x81))))) :: (.int .i64 (IntKind.i64.wrap ((IntKind.i64.wrap ((IntKind.i64.wrap (p1 + 2)) + (IntKind.i64.wrap ((6 : Int) * x81)))) + 2))) :: (.pointer (Option.map (fun (p : Addr) => p.add (Int.toNat (IntKind.i64.wrap ((IntKind.i64.wrap ((IntKind.i64.wrap (p1 + 2)) + (IntKind.i64.wrap ((6 : Int) * x81)))) + 2)) * 1)) A0)) :: (.int .u8 x113) :: (u139 63) :: (.int .i64 (IntKind.i64.wrap ((IntKind.i64.wrap (p1 + 2)) + (IntKind.i64.wrap ((6 : Int) * x81))))) :: (.int .i64 (IntKind.i64.wrap ((IntKind.i64.wrap ((IntKind.i64.wrap (p1 + 2)) + (IntKind.i64.wrap ((6 : Int) * x81)))) + 3))) :: (.pointer (Option.map (fun (p : Addr) => p.add (Int.toNat (IntKind.i64.wrap ((IntKind.i64.wrap ((IntKind.i64.wrap (p1 + 2)) + (IntKind.i64.wrap ((6 : Int) * x81)))) + 3)) * 1)) A0)) :: (.int .u8 x115) :: dd u139 68 2 ((.int .i64 p1) :: (u139 71) :: (.int .i64 (IntKind.i64.wrap ((IntKind.i64.wrap (p1 + 2)) + (IntKind.i64.wrap ((6 : Int) * x81))))) :: (.int .i64 (IntKind.i64.wrap ((IntKind.i64.wrap ((IntKind.i64.wrap (p1 + 2)) + (IntKind.i64.wrap ((6 : Int) * x81)))) + 4))) :: (.int .i64 x125) :: (.int .i64 (IntKind.i64.wrap (p1 + x125))) :: (u139 76) :: (.int .i64 (IntKind.i64.wrap (p1 + x125))) :: (.int .i64 (IntKind.i64.wrap ((IntKind.i64.wrap (p1 + x125)) + 2))) :: (.int .i64 x133) :: dd u139 80 19 (dd u184 99 37 (dd u287 136 14 (dd u72 150 4 (undef :: []))))))))))).toArray, []⟩) a ∧ rFeats_L4 N p0 p1 p2 x125 x133 k x288 = some c280 ∧ St [] w0 w [poolE ft185 W186, rowE .i64 3 A188 c189 l190, boxE w107.heap.size [.int .u8 x109, .int .u8 x111, .int .u8 x113, .int .u8 x115, .slice A188 l190.length c189] 35, rowG 35 5 (.slice A76 l80.length c77) l80.length vs78]) N ?_ ?_
          ·exact ⟨0, selfA_i (by kernel_rfl), hE281, hS183⟩
          ·rintro k289 _ w285 ⟨x288, hq312, hL290, hS286⟩
           obtain ⟨u287, rfl⟩ := selfA_u hq312
           cases k289 with
           | zero => cases hL290
           | succ k289 =>
            first | rw [rFeats_L4] at hL290 | unfold rFeats_L4 at hL290
            refine gx_seq (fun K291 hK292 => ?_)
            refine gx_seq (fun K293 hK294 => ?_)
            refine gx_region ?_
            refine gx_k (.int .i64 x288) w285 (gx_k (.int .i64 x133) w285 ?_)
            rcases if_in hL290 with ⟨h295, hL290⟩ | ⟨h295, hL290⟩
            ·refine gx_v (.bool true) w285 (run_boolE (decide_eq_true h295) (by kernel_rfl)) ?_
             refine gx_nil ?_
             refine gx_thenN ?_
             refine hK294 _ _ ?_
             refine gx_yes (by kernel_rfl) ?_
             refine gx_pass ?_
             refine gx_thenN ?_
             refine hK292 _ _ ?_
             refine gx_seq (fun K296 hK297 => ?_)
             refine gx_block ?_
             refine gx_seq (fun K298 hK299 => ?_)
             refine gx_region ?_
             refine gx_k (.slice A0 p0.length c0) w285 (gx_k (.int .i64 (IntKind.i64.wrap (p1 + x125))) w285 (gx_k (.int .i64 (IntKind.i64.wrap ((IntKind.i64.wrap (p1 + x125)) + 4))) w285 (gx_k (.int .i64 x288) w285 (gx_k (.int .i64 (IntKind.i64.wrap ((2 : Int) * x288))) w285 (gx_k (.int .i64 (IntKind.i64.wrap ((IntKind.i64.wrap ((IntKind.i64.wrap (p1 + x125)) + 4)) + (IntKind.i64.wrap ((2 : Int) * x288))))) w285 ?_)))))
             have hP300 : St _ _ w285 ([] ++ [poolE ft185 W186, rowE .i64 3 A188 c189 l190, boxE w107.heap.size [.int .u8 x109, .int .u8 x111, .int .u8 x113, .int .u8 x115, .slice A188 l190.length c189] 35, rowG 35 5 (.slice A76 l80.length c77) l80.length vs78]) := hS286
             obtain ⟨x302, hc301, hL290⟩ := bind_in hL290
             try dsimp only at hL290
             refine gx_c (rW_R x302 w285) (rW_ok N p0 (IntKind.i64.wrap ((IntKind.i64.wrap ((IntKind.i64.wrap (p1 + x125)) + 4)) + (IntKind.i64.wrap ((2 : Int) * x288)))) A0 c0 _ hc301 w285 (hP300.vwA hv0)) ?_
             rintro _ w303 ⟨rfl, hT305⟩
             have hS304 : St _ _ w303 [poolE ft185 W186, rowE .i64 3 A188 c189 l190, boxE w107.heap.size [.int .u8 x109, .int .u8 x111, .int .u8 x113, .int .u8 x115, .slice A188 l190.length c189] 35, rowG 35 5 (.slice A76 l80.length c77) l80.length vs78] := hS286.take _ hT305
             refine gx_k (.int .i64 p2) w303 ?_
             rcases if_in hL290 with ⟨h306, hL290⟩ | ⟨h306, hL290⟩
             ·refine gx_v (.bool true) w303 (run_boolE (decide_eq_true h306) (by kernel_rfl)) ?_
              refine gx_nil ?_
              refine gx_thenN ?_
              refine hK299 _ _ ?_
              refine gx_yes (by kernel_rfl) ?_
              refine gx_seq (fun K307 hK308 => ?_)
              refine gx_region ?_
              refine gx_k (.slice none 0 0) w303 (gx_k (.int .i64 50) w303 ?_)
              refine gx_nil ?_
              refine gx_thenN ?_
              refine hK308 _ _ ?_
              refine gx_ret ?_
              refine gx_blkR ?_
              refine gx_thenR ?_
              refine gx_thenR ?_
              refine gx_blkR ?_
              refine gx_thenR ?_
              obtain rfl := Option.some.inj hL290
              try dsimp only at hO282
              refine gx_blkR ?_
              refine gx_thenR ?_
              obtain rfl := Option.some.inj hO282
              try dsimp only at hO102
              refine gx_thenR ?_
              refine gx_blkR ?_
              refine gx_thenR ?_
              obtain rfl := Option.some.inj hO102
              try dsimp only at hO65
              have hS309 : St _ _ w303 [poolE ft185 W186, rowE .i64 3 A188 c189 l190, boxE w107.heap.size [.int .u8 x109, .int .u8 x111, .int .u8 x113, .int .u8 x115, .slice A188 l190.length c189] 35, rowG 35 5 (.slice A76 l80.length c77) l80.length vs78, rowG 35 5 (.slice none (([] : List ((Int × Int × Int × Int) × List Int)).length) 0) (([] : List ((Int × Int × Int × Int) × List Int)).length) ([])] := hS304.nilrowN 35 5
              have hf310 : (fEach (pairE encapiTag (rowOf (intE .i64))) [] []).rd W186 ft185 := each_nil
              have hS311 : St _ _ w303 [poolE ft185 w303, rowE .i64 3 A188 c189 l190, boxE w107.heap.size [.int .u8 x109, .int .u8 x111, .int .u8 x113, .int .u8 x115, .slice A188 l190.length c189] 35, rowG 35 5 (.slice A76 l80.length c77) l80.length vs78, rowG 35 5 (.slice none (([] : List ((Int × Int × Int × Int) × List Int)).length) 0) (([] : List ((Int × Int × Int × Int) × List Int)).length) ([])] := hS309.renew 0 rfl
              obtain rfl := Option.some.inj hO65
              exact gx_fin (.tuple #[.slice none (([] : List ((Int × Int × Int × Int) × List Int)).length) 0, .int .i64 50]) (by kernel_rfl) (by kernel_rfl) ⟨_, rfl, none, 0, ([]), ft185, rfl, (hS311.pick [4, 0] rfl rfl), (hS309.now 0 rfl hf310)⟩
             ·refine gx_v (.bool false) w303 (run_boolE (decide_eq_false h306) (by kernel_rfl)) ?_
              refine gx_nil ?_
              refine gx_thenN ?_
              refine hK299 _ _ ?_
              refine gx_no (by kernel_rfl) ?_
              refine gx_pass ?_
              refine gx_blkN ?_
              refine gx_thenN ?_
              refine hK297 _ _ ?_
              refine gx_region ?_
              refine gx_k (.int .i64 x288) w303 (gx_k (.int .i64 (IntKind.i64.wrap (x288 + 1))) w303 (gx_k (.int .i64 (IntKind.i64.wrap (x288 + 1))) w303 ?_))
              refine gx_nil ?_
              refine gx_thenN ?_
              exact ⟨k289, Nat.lt_succ_self k289, (IntKind.i64.wrap (x288 + 1)), selfA_i (by kernel_rfl), hL290, hS304⟩
            ·refine gx_v (.bool false) w285 (run_boolE (decide_eq_false h295) (by kernel_rfl)) ?_
             refine gx_nil ?_
             refine gx_thenN ?_
             refine hK294 _ _ ?_
             refine gx_no (by kernel_rfl) ?_
             refine gx_exit ?_
             refine gx_thenE ?_
             refine gx_thenE ?_
             refine gx_blkE ?_
             refine gx_thenN ?_
             exact ⟨selfA_i (by kernel_rfl), (Option.some.inj hL290), hS286⟩
         ·rintro _ w277 ⟨hq329, rfl, hS278⟩
          obtain ⟨u279, rfl⟩ := selfA_u hq329
          try dsimp only at hO282
          refine gx_region ?_
          refine gx_k (.slice A76 l80.length c77) w277 ?_
          refine gx_v (.agg #[.int .u8 x109, .int .u8 x111, .int .u8 x113, .int .u8 x115, .slice A188 l190.length c189]) w277 (run_loadG (d := _) rfl (by kernel_rfl) (hS278.get 2 rfl) rfl rfl (by kernel_rfl)) ?_
          obtain ⟨ft313, W314, hS315, hT316, hf317⟩ := hS278.freezeE 1 0 rfl rfl (by decide)
          have hS315 : St _ _ w277 [poolE ft313 W314, boxE w107.heap.size [.int .u8 x109, .int .u8 x111, .int .u8 x113, .int .u8 x115, .slice A188 l190.length c189] 35, rowG 35 5 (.slice A76 l80.length c77) l80.length vs78] := hS315
          have hT316 : Turn [] w0 W186 ft185 W314 ft313 := hT316
          have hf317 : (fSl (intE .i64) A188 c189 (List.map (Value.int .i64) l190) l190).rd W314 ft313 := hf317
          have hf318 : (fEach (pairE encapiTag (rowOf (intE .i64))) [.int .u8 x109, .int .u8 x111, .int .u8 x113, .int .u8 x115, .slice A188 l190.length c189] [((x109, x111, x113, x115), l190)]).rd W314 ft313 := (each_cons (rd_pair (rd_pair (rd_intg .u8 x109) (rd_pair (rd_intg .u8 x111) (rd_pair (rd_intg .u8 x113) (rd_intg .u8 x115)))) (rd_row rfl hf317)) each_nil)
          refine gx_r (st_madeP (e := (pairE encapiTag (rowOf (intE .i64)))) 35 1 [.int .u8 x109, .int .u8 x111, .int .u8 x113, .int .u8 x115, .slice A188 l190.length c189] [((x109, x111, x113, x115), l190)] hS315 rfl hf318 (by decide) (by kernel_rfl)) ?_
          rintro _ w319 ⟨rfl, hS320⟩
          have hS320 : St _ _ w319 [poolE ft313 W314, boxE w107.heap.size [.int .u8 x109, .int .u8 x111, .int .u8 x113, .int .u8 x115, .slice A188 l190.length c189] 35, rowG 35 5 (.slice A76 l80.length c77) l80.length vs78, rowG 35 5 (.slice (some ⟨w277.heap.size, 0, none⟩) 1 1) 1 ([.int .u8 x109, .int .u8 x111, .int .u8 x113, .int .u8 x115, .slice A188 l190.length c189])] := hS320
          obtain ⟨l321, ha322, hO282⟩ := bind_in hO282
          refine gx_r (st_appendP (e := (pairE encapiTag (rowOf (intE .i64)))) rfl (by kernel_rfl) (by kernel_rfl) hS320 2 rfl rfl (show 1 = ([((x109, x111, x113, x115), l190)] : List ((Int × Int × Int × Int) × List Int)).length from rfl) (hT316.pool (hT187.pool hf79)) hf318 (rowG_lies (e := (pairE encapiTag (rowOf (intE .i64)))) (show 1 = ([((x109, x111, x113, x115), l190)] : List ((Int × Int × Int × Int) × List Int)).length from rfl) (hS320.get 3 rfl)) (rowG_spec (e := (pairE encapiTag (rowOf (intE .i64)))) (show 1 = ([((x109, x111, x113, x115), l190)] : List ((Int × Int × Int × Int) × List Int)).length from rfl) (hS320.get 3 rfl)).2.2.1 ha322 (by kernel_rfl) (by kernel_rfl) (by decide)) ?_
          rintro _ w327 ⟨A323, c324, vs325, rfl, hf326, hS328⟩
          have hS328 : St _ _ w327 [poolE ft313 W314, boxE w107.heap.size [.int .u8 x109, .int .u8 x111, .int .u8 x113, .int .u8 x115, .slice A188 l190.length c189] 35, rowG 35 5 (.slice A323 l321.length c324) l321.length vs325, rowG 35 5 (.slice (some ⟨w277.heap.size, 0, none⟩) 1 1) 1 ([.int .u8 x109, .int .u8 x111, .int .u8 x113, .int .u8 x115, .slice A188 l190.length c189])] := hS328
          refine gx_k (.slice A323 l321.length c324) w327 ?_
          refine gx_nil ?_
          refine gx_blkN ?_
          refine gx_thenN ?_
          exact ⟨l321, ft313, W314, A323, c324, vs325, selfA_i (by kernel_rfl), (Option.some.inj hO282), (hS328.pick [0, 2] rfl rfl), (Turn.trans hT187 hT316), hf326⟩
      ·rintro _ w89 ⟨l99, ft92, W93, A95, c96, vs97, hq332, rfl, hS90, hT94, hf98⟩
       obtain ⟨u91, rfl⟩ := selfA_u hq332
       try dsimp only at hO102
       refine gx_region ?_
       refine gx_k (.int .i64 x81) w89 (gx_k (.int .i64 (IntKind.i64.wrap (x81 + 1))) w89 (gx_k (.int .i64 (IntKind.i64.wrap (x81 + 1))) w89 ?_))
       refine gx_nil ?_
       refine gx_thenN ?_
       exact ⟨k82, Nat.lt_succ_self k82, l99, (IntKind.i64.wrap (x81 + 1)), ft92, W93, A95, c96, vs97, selfA_i (by kernel_rfl), hO102, hS90, (Turn.trans hT75 hT94), hf98⟩
     ·refine gx_v (.bool false) w70 (run_boolE (decide_eq_false h88) (by kernel_rfl)) ?_
      refine gx_nil ?_
      refine gx_thenN ?_
      refine hK87 _ _ ?_
      refine gx_no (by kernel_rfl) ?_
      refine gx_exit ?_
      refine gx_thenE ?_
      refine gx_thenE ?_
      refine gx_blkE ?_
      refine gx_thenN ?_
      exact ⟨l80, ft73, W74, A76, c77, vs78, selfA_i (by kernel_rfl), (Option.some.inj hL83), hS71, hT75, hf79⟩
  ·rintro _ w52 ⟨l62, ft55, W56, A58, c59, vs60, hq337, rfl, hS53, hT57, hf61⟩
   obtain ⟨u54, rfl⟩ := selfA_u hq337
   try dsimp only at hO65
   refine gx_seq (fun K334 hK335 => ?_)
   refine gx_region ?_
   refine gx_k (.slice A58 l62.length c59) w52 (gx_k (.slice A58 l62.length c59) w52 (gx_k (.int .i64 0) w52 ?_))
   refine gx_nil ?_
   refine gx_thenN ?_
   refine hK335 _ _ ?_
   refine gx_ret ?_
   have hS336 : St _ _ w52 [poolE ft55 w52, rowG 35 5 (.slice A58 l62.length c59) l62.length vs60] := hS53.renew 0 rfl
   obtain rfl := Option.some.inj hO65
   exact gx_fin (.tuple #[.slice A58 l62.length c59, .int .i64 0]) (by kernel_rfl) (by kernel_rfl) ⟨_, rfl, A58, c59, vs60, ft55, rfl, (hS336.pick [1, 0] rfl rfl), (hS53.now 0 rfl hf61)⟩

end Go.Proofs.Ytcleaepcjbfmhaa
