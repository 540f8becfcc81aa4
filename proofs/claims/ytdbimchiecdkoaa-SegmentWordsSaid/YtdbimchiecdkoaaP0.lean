/-
  The program, walked.
-/
import Derived.Test.YtdbimchiecdkoaaBk
namespace Go.Proofs.Ytdbimchiecdkoaa
open Go Go.RowKit
set_option linter.unusedVariables false
def pSetOf_L1 (N : Nat) (p0 : List Int) : Nat → Int → Int → Option (Int)
 | 0, _, _ => none
 | k19+1, x17, x18 => (if x18 < ((p0.length : Nat) : Int) then ((ix p0 x18).bind fun x30 => (if x30 < 0 then none else pSetOf_L1 N p0 k19 (ior .u64 x17 (ishl .u64 1 x30)) (IntKind.i64.wrap (x18 + 1)))) else some (x17))
def pSetOf (N : Nat) (p0 : List Int) : Option (Int) :=
 ((pSetOf_L1 N p0 N 0 0 : Option (Int)).bind fun x8 => some x8)
set_option linter.unusedVariables false in
def pSetOf_R (r : Int) (w0 : World) (v : Value) (w : World) : Prop := v = .int .u64 r ∧ St [] w0 w []
set_option maxRecDepth 100000 in
set_option maxHeartbeats 4000000 in
theorem pSetOf_ok (N : Nat) (p0 : List Int) (A0 : Option Addr) (c0 : Nat) (r : Int) (hF : pSetOf N p0 = some r) (w0 : World) (hv0 : Vw [] .u8 w0 A0 c0 p0) :
  Calls Try.prog 103 #[.slice A0 p0.length c0] w0 fun e w => ∃ v, e = .returned v ∧ pSetOf_R r w0 v w := by
 have hS0 := St.start w0
 unfold pSetOf at hF
 refine calls_of Try.func103 rfl ⟨((.slice A0 p0.length c0) :: un 17 ([])).toArray, []⟩ (by kernel_rfl) ?_
 refine gx_seq (fun K1 hK2 => ?_)
 refine gx_region ?_
 refine gx_k (.int .u64 0) w0 ?_
 refine gx_nil ?_
 refine gx_thenN ?_
 refine hK2 _ _ ?_
 refine gx_seq (fun K3 hK4 => ?_)
 refine gx_region ?_
 refine gx_k (.int .u64 0) w0 ?_
 refine gx_nil ?_
 refine gx_thenN ?_
 refine hK4 _ _ ?_
 obtain ⟨c9, hE10, hO11⟩ := bind_in hF
 refine gx_cut (fun a w => ∃ (x8 : Int), selfA (fun u7 => ⟨((u7 0) :: undef :: (.int .u64 0) :: (.int .u64 x8) :: undef :: dd u7 5 12 (undef :: [])).toArray, []⟩) a ∧ x8 = c9 ∧ St [] w0 w []) ?_ ?_
 ·refine gx_seq (fun K12 hK13 => ?_)
  refine gx_region ?_
  refine gx_k (.slice A0 p0.length c0) w0 (gx_k (.int .i64 ((p0.length : Nat) : Int)) w0 (gx_k (.int .i64 0) w0 ?_))
  refine gx_nil ?_
  refine gx_thenN ?_
  refine hK13 _ _ ?_
  refine gx_block ?_
  refine gx_loop (fun k a w => ∃ (x17 : Int) (x18 : Int), selfA (fun u16 => ⟨((u16 0) :: undef :: (.int .u64 0) :: (.int .u64 x17) :: undef :: (u16 5) :: (.slice A0 p0.length c0) :: (.int .i64 ((p0.length : Nat) : Int)) :: (.int .i64 x18) :: dd u16 9 8 (undef :: [])).toArray, []⟩) a ∧ pSetOf_L1 N p0 k x17 x18 = some c9 ∧ St [] w0 w []) N ?_ ?_
  ·exact ⟨0, 0, selfA_i (by kernel_rfl), hE10, hS0⟩
  ·rintro k19 _ w14 ⟨x17, x18, hq35, hL20, hS15⟩
   obtain ⟨u16, rfl⟩ := selfA_u hq35
   cases k19 with
   | zero => cases hL20
   | succ k19 =>
    first | rw [pSetOf_L1] at hL20 | unfold pSetOf_L1 at hL20
    refine gx_seq (fun K21 hK22 => ?_)
    refine gx_region ?_
    rcases if_in hL20 with ⟨h23, hL20⟩ | ⟨h23, hL20⟩
    ·refine gx_v (.bool true) w14 (run_boolE (decide_eq_true h23) (by kernel_rfl)) ?_
     refine gx_nil ?_
     refine gx_thenN ?_
     refine hK22 _ _ ?_
     refine gx_seq (fun K24 hK25 => ?_)
     refine gx_yes (by kernel_rfl) ?_
     refine gx_pass ?_
     refine gx_thenN ?_
     refine hK25 _ _ ?_
     refine gx_seq (fun K26 hK27 => ?_)
     refine gx_block ?_
     refine gx_seq (fun K28 hK29 => ?_)
     refine gx_region ?_
     obtain ⟨x30, hx31, hL20⟩ := bind_in hL20
     refine gx_v (.pointer (Option.map (fun (p : Addr) => p.add (Int.toNat x18 * 1)) A0)) w14 (run_ixaddr (E := 5) (s := 1) (k := .i64) (c := c0) rfl (by kernel_rfl) (by kernel_rfl) (by kernel_rfl) (fun _ => by kernel_rfl) (ix_in hx31).1 (ix_in hx31).2.1 (num_nil (hS15.view hv0))) ?_
     refine gx_v (.int .u8 x30) w14 (run_loadix rfl (by kernel_rfl) (fun _ => by kernel_rfl) (hS15.view hv0) hx31) ?_
     refine gx_k (.int .u8 x30) w14 ?_
     refine gx_nil ?_
     refine gx_thenN ?_
     refine hK29 _ _ ?_
     refine gx_region ?_
     refine gx_k (.int .u64 x17) w14 (gx_k (.int .u8 x30) w14 ?_)
     rcases if_in hL20 with ⟨h32, hL20⟩ | ⟨h32, hL20⟩
     ·cases hL20
     ·refine gx_v (.int .u64 (ishl .u64 1 x30)) w14 (run_shl (k2 := .u8) rfl (by kernel_rfl) (by kernel_rfl) h32) ?_
      refine gx_k (.int .u64 (ior .u64 x17 (ishl .u64 1 x30))) w14 (gx_k (.int .u64 (ior .u64 x17 (ishl .u64 1 x30))) w14 ?_)
      refine gx_nil ?_
      refine gx_blkN ?_
      refine gx_thenN ?_
      refine hK27 _ _ ?_
      refine gx_region ?_
      refine gx_k (.int .i64 (IntKind.i64.wrap (x18 + 1))) w14 (gx_k (.int .i64 (IntKind.i64.wrap (x18 + 1))) w14 ?_)
      refine gx_nil ?_
      refine gx_thenN ?_
      exact ⟨k19, Nat.lt_succ_self k19, (ior .u64 x17 (ishl .u64 1 x30)), (IntKind.i64.wrap (x18 + 1)), selfA_i (by kernel_rfl), hL20, hS15⟩
    ·refine gx_v (.bool false) w14 (run_boolE (decide_eq_false h23) (by kernel_rfl)) ?_
     refine gx_nil ?_
     refine gx_thenN ?_
     refine hK22 _ _ ?_
     refine gx_seq (fun K33 hK34 => ?_)
     refine gx_no (by kernel_rfl) ?_
     refine gx_exit ?_
     refine gx_thenE ?_
     refine gx_thenE ?_
     refine gx_blkE ?_
     refine gx_thenN ?_
     exact ⟨x17, selfA_i (by kernel_rfl), (Option.some.inj hL20), hS15⟩
 ·rintro _ w5 ⟨x8, hq38, rfl, hS6⟩
  obtain ⟨u7, rfl⟩ := selfA_u hq38
  try dsimp only at hO11
  refine gx_seq (fun K36 hK37 => ?_)
  refine gx_region ?_
  refine gx_k (.int .u64 x8) w5 (gx_k (.int .u64 x8) w5 ?_)
  refine gx_nil ?_
  refine gx_thenN ?_
  refine hK37 _ _ ?_
  refine gx_ret ?_
  obtain rfl := Option.some.inj hO11
  exact gx_fin (.int .u64 x8) (by kernel_rfl) (by kernel_rfl) ⟨_, rfl, rfl, hS6⟩
def pHasC (_N : Nat) (p0 : Int) (p1 : Int) : Option (Bool) :=
 (if p1 < 0 then none else some ((iand .u64 (ishr .u64 p0 p1) 1) != 0))
set_option linter.unusedVariables false in
def pHasC_R (r : Bool) (w0 : World) (v : Value) (w : World) : Prop := v = .bool r ∧ St [] w0 w []
set_option maxRecDepth 100000 in
set_option maxHeartbeats 4000000 in
theorem pHasC_ok (N : Nat) (p0 : Int) (p1 : Int)  (r : Bool) (hF : pHasC N p0 p1 = some r) (w0 : World)  :
  Calls Try.prog 104 #[.int .u64 p0, .int .u8 p1] w0 fun e w => ∃ v, e = .returned v ∧ pHasC_R r w0 v w := by
 have hS0 := St.start w0
 unfold pHasC at hF
 refine calls_of Try.func104 rfl ⟨((.int .u64 p0) :: (.int .u8 p1) :: un 8 ([])).toArray, []⟩ (by kernel_rfl) ?_
 refine gx_seq (fun K1 hK2 => ?_)
 refine gx_region ?_
 refine gx_k (.bool false) w0 ?_
 refine gx_nil ?_
 refine gx_thenN ?_
 refine hK2 _ _ ?_
 refine gx_seq (fun K3 hK4 => ?_)
 refine gx_region ?_
 refine gx_k (.int .u64 p0) w0 (gx_k (.int .u8 p1) w0 ?_)
 rcases if_in hF with ⟨h5, hF⟩ | ⟨h5, hF⟩
 ·cases hF
 ·refine gx_v (.int .u64 (ishr .u64 p0 p1)) w0 (run_shr (k2 := .u8) rfl (by kernel_rfl) (by kernel_rfl) h5) ?_
  refine gx_k (.int .u64 (iand .u64 (ishr .u64 p0 p1) 1)) w0 (gx_k (.bool ((iand .u64 (ishr .u64 p0 p1) 1) != 0)) w0 (gx_k (.bool ((iand .u64 (ishr .u64 p0 p1) 1) != 0)) w0 ?_))
  refine gx_nil ?_
  refine gx_thenN ?_
  refine hK4 _ _ ?_
  refine gx_ret ?_
  obtain rfl := Option.some.inj hF
  exact gx_fin (.bool ((iand .u64 (ishr .u64 p0 p1) 1) != 0)) (by kernel_rfl) (by kernel_rfl) ⟨_, rfl, rfl, hS0⟩
def pThere (_N : Nat) (_p0_0 : List Int) (p0_1 : List Int) (_p0_2 : Int) (_p0_3 : Int) (_p0_4 : Int) (_p0_5 : Int) (_p0_6 : Int) (_p0_7 : Int) (_p0_8 : Int) (_p0_9 : Bool) (_p0_10 : Bool) (_p0_11 : Bool) (p1 : Int) : Option (Bool) :=
 (if p1 ≥ 0 then some (decide (p1 < ((p0_1.length : Nat) : Int))) else some false)
set_option linter.unusedVariables false in
def pThere_R (p0_0 : List Int) (p0_1 : List Int) (p0_2 : Int) (p0_3 : Int) (p0_4 : Int) (p0_5 : Int) (p0_6 : Int) (p0_7 : Int) (p0_8 : Int) (p0_9 : Bool) (p0_10 : Bool) (p0_11 : Bool) (p1 : Int) (g0 : Nat) (A0_0 : Option Addr) (c0_0 : Nat) (A0_1 : Option Addr) (c0_1 : Nat) (r : Bool) (w0 : World) (v : Value) (w : World) : Prop := v = .bool r ∧ St (foots [plE g0 A0_0 c0_0 A0_1 c0_1 p0_0 p0_1 p0_2 p0_3 p0_4 p0_5 p0_6 p0_7 p0_8 p0_9 p0_10 p0_11]) w0 w [plE g0 A0_0 c0_0 A0_1 c0_1 p0_0 p0_1 p0_2 p0_3 p0_4 p0_5 p0_6 p0_7 p0_8 p0_9 p0_10 p0_11]
set_option maxRecDepth 100000 in
set_option maxHeartbeats 4000000 in
theorem pThere_ok (N : Nat) (p0_0 : List Int) (p0_1 : List Int) (p0_2 : Int) (p0_3 : Int) (p0_4 : Int) (p0_5 : Int) (p0_6 : Int) (p0_7 : Int) (p0_8 : Int) (p0_9 : Bool) (p0_10 : Bool) (p0_11 : Bool) (p1 : Int) (g0 : Nat) (A0_0 : Option Addr) (c0_0 : Nat) (A0_1 : Option Addr) (c0_1 : Nat) (r : Bool) (hF : pThere N p0_0 p0_1 p0_2 p0_3 p0_4 p0_5 p0_6 p0_7 p0_8 p0_9 p0_10 p0_11 p1 = some r) (w0 : World) (_hv0_0 : Vw (foots [plE g0 A0_0 c0_0 A0_1 c0_1 p0_0 p0_1 p0_2 p0_3 p0_4 p0_5 p0_6 p0_7 p0_8 p0_9 p0_10 p0_11]) .i32 w0 A0_0 c0_0 p0_0) (_hv0_1 : Vw (foots [plE g0 A0_0 c0_0 A0_1 c0_1 p0_0 p0_1 p0_2 p0_3 p0_4 p0_5 p0_6 p0_7 p0_8 p0_9 p0_10 p0_11]) .u8 w0 A0_1 c0_1 p0_1) (hl : St (foots [plE g0 A0_0 c0_0 A0_1 c0_1 p0_0 p0_1 p0_2 p0_3 p0_4 p0_5 p0_6 p0_7 p0_8 p0_9 p0_10 p0_11]) w0 w0 [plE g0 A0_0 c0_0 A0_1 c0_1 p0_0 p0_1 p0_2 p0_3 p0_4 p0_5 p0_6 p0_7 p0_8 p0_9 p0_10 p0_11]) :
  Calls Try.prog 105 #[.pointer (some ⟨g0, 0, none⟩), .int .i64 p1] w0 fun e w => ∃ v, e = .returned v ∧ pThere_R p0_0 p0_1 p0_2 p0_3 p0_4 p0_5 p0_6 p0_7 p0_8 p0_9 p0_10 p0_11 p1 g0 A0_0 c0_0 A0_1 c0_1 r w0 v w := by
 have hS0 := hl
 unfold pThere at hF
 refine calls_of Try.func105 rfl ⟨((.pointer (some ⟨g0, 0, none⟩)) :: (.int .i64 p1) :: un 14 ([])).toArray, []⟩ (by kernel_rfl) ?_
 refine gx_seq (fun K1 hK2 => ?_)
 refine gx_region ?_
 refine gx_k (.bool false) w0 ?_
 refine gx_nil ?_
 refine gx_thenN ?_
 refine hK2 _ _ ?_
 refine gx_seq (fun K3 hK4 => ?_)
 refine gx_region ?_
 refine gx_k (.int .i64 p1) w0 ?_
 rcases if_in hF with ⟨h5, hF⟩ | ⟨h5, hF⟩
 ·refine gx_v (.bool true) w0 (run_boolE (decide_eq_true h5) (by kernel_rfl)) ?_
  refine gx_k (.bool true) w0 (gx_k (.int .i64 p1) w0 (gx_k (.pointer (some ⟨g0, 0, none⟩)) w0 (gx_k (.pointer (some ⟨g0, 0, none⟩)) w0 (gx_k (.pointer (some ⟨g0, 1, none⟩)) w0 ?_))))
  refine gx_v (.slice A0_1 p0_1.length c0_1) w0 (run_load1 rfl (by kernel_rfl) (fun _ => by kernel_rfl) (hS0.box 0 rfl 1 rfl)) ?_
  refine gx_k (.int .i64 ((p0_1.length : Nat) : Int)) w0 (gx_k (.bool (decide (p1 < ((p0_1.length : Nat) : Int)))) w0 (gx_k (.bool (decide (p1 < ((p0_1.length : Nat) : Int)))) w0 (gx_k (.bool (decide (p1 < ((p0_1.length : Nat) : Int)))) w0 ?_)))
  refine gx_nil ?_
  refine gx_thenN ?_
  refine hK4 _ _ ?_
  refine gx_ret ?_
  obtain rfl := Option.some.inj hF
  exact gx_fin (.bool (decide (p1 < ((p0_1.length : Nat) : Int)))) (by kernel_rfl) (by kernel_rfl) ⟨_, rfl, rfl, hS0⟩
 ·refine gx_v (.bool false) w0 (run_boolE (decide_eq_false h5) (by kernel_rfl)) ?_
  refine gx_k (.bool false) w0 (gx_o (gx_o (gx_o (gx_o (gx_o (gx_o (gx_o ?_)))))))
  refine gx_k (.bool false) w0 (gx_k (.bool false) w0 ?_)
  refine gx_nil ?_
  refine gx_thenN ?_
  refine hK4 _ _ ?_
  refine gx_ret ?_
  obtain rfl := Option.some.inj hF
  exact gx_fin (.bool false) (by kernel_rfl) (by kernel_rfl) ⟨_, rfl, rfl, hS0⟩
def pNext_L1 (N : Nat) (p0_1 : List Int) : Nat → Int → Option (Int)
 | 0, _ => none
 | k16+1, x15 => (if x15 < ((p0_1.length : Nat) : Int) then ((ix p0_1 x15).bind fun x23 => (if x23 = 39 then pNext_L1 N p0_1 k16 (IntKind.i64.wrap (x15 + 1)) else some (x15))) else some (x15))
def pNext (N : Nat) (_p0_0 : List Int) (p0_1 : List Int) (_p0_2 : Int) (_p0_3 : Int) (_p0_4 : Int) (_p0_5 : Int) (_p0_6 : Int) (_p0_7 : Int) (_p0_8 : Int) (_p0_9 : Bool) (_p0_10 : Bool) (_p0_11 : Bool) (p1 : Int) : Option (Int) :=
 ((pNext_L1 N p0_1 N (IntKind.i64.wrap (p1 + 1)) : Option (Int)).bind fun x8 => some (if ((p0_1.length : Nat) : Int) < x8 then ((p0_1.length : Nat) : Int) else x8))
set_option linter.unusedVariables false in
def pNext_R (p0_0 : List Int) (p0_1 : List Int) (p0_2 : Int) (p0_3 : Int) (p0_4 : Int) (p0_5 : Int) (p0_6 : Int) (p0_7 : Int) (p0_8 : Int) (p0_9 : Bool) (p0_10 : Bool) (p0_11 : Bool) (p1 : Int) (g0 : Nat) (A0_0 : Option Addr) (c0_0 : Nat) (A0_1 : Option Addr) (c0_1 : Nat) (r : Int) (w0 : World) (v : Value) (w : World) : Prop := v = .int .i64 r ∧ St (foots [plE g0 A0_0 c0_0 A0_1 c0_1 p0_0 p0_1 p0_2 p0_3 p0_4 p0_5 p0_6 p0_7 p0_8 p0_9 p0_10 p0_11]) w0 w [plE g0 A0_0 c0_0 A0_1 c0_1 p0_0 p0_1 p0_2 p0_3 p0_4 p0_5 p0_6 p0_7 p0_8 p0_9 p0_10 p0_11]
set_option maxRecDepth 100000 in
set_option maxHeartbeats 4000000 in
theorem pNext_ok (N : Nat) (p0_0 : List Int) (p0_1 : List Int) (p0_2 : Int) (p0_3 : Int) (p0_4 : Int) (p0_5 : Int) (p0_6 : Int) (p0_7 : Int) (p0_8 : Int) (p0_9 : Bool) (p0_10 : Bool) (p0_11 : Bool) (p1 : Int) (g0 : Nat) (A0_0 : Option Addr) (c0_0 : Nat) (A0_1 : Option Addr) (c0_1 : Nat) (r : Int) (hF : pNext N p0_0 p0_1 p0_2 p0_3 p0_4 p0_5 p0_6 p0_7 p0_8 p0_9 p0_10 p0_11 p1 = some r) (w0 : World) (_hv0_0 : Vw (foots [plE g0 A0_0 c0_0 A0_1 c0_1 p0_0 p0_1 p0_2 p0_3 p0_4 p0_5 p0_6 p0_7 p0_8 p0_9 p0_10 p0_11]) .i32 w0 A0_0 c0_0 p0_0) (hv0_1 : Vw (foots [plE g0 A0_0 c0_0 A0_1 c0_1 p0_0 p0_1 p0_2 p0_3 p0_4 p0_5 p0_6 p0_7 p0_8 p0_9 p0_10 p0_11]) .u8 w0 A0_1 c0_1 p0_1) (hl : St (foots [plE g0 A0_0 c0_0 A0_1 c0_1 p0_0 p0_1 p0_2 p0_3 p0_4 p0_5 p0_6 p0_7 p0_8 p0_9 p0_10 p0_11]) w0 w0 [plE g0 A0_0 c0_0 A0_1 c0_1 p0_0 p0_1 p0_2 p0_3 p0_4 p0_5 p0_6 p0_7 p0_8 p0_9 p0_10 p0_11]) :
  Calls Try.prog 80 #[.pointer (some ⟨g0, 0, none⟩), .int .i64 p1] w0 fun e w => ∃ v, e = .returned v ∧ pNext_R p0_0 p0_1 p0_2 p0_3 p0_4 p0_5 p0_6 p0_7 p0_8 p0_9 p0_10 p0_11 p1 g0 A0_0 c0_0 A0_1 c0_1 r w0 v w := by
 have hS0 := hl
 unfold pNext at hF
 refine calls_of Try.func80 rfl ⟨((.pointer (some ⟨g0, 0, none⟩)) :: (.int .i64 p1) :: un 31 ([])).toArray, []⟩ (by kernel_rfl) ?_
 refine gx_seq (fun K1 hK2 => ?_)
 refine gx_region ?_
 refine gx_k (.int .i64 0) w0 ?_
 refine gx_nil ?_
 refine gx_thenN ?_
 refine hK2 _ _ ?_
 refine gx_seq (fun K3 hK4 => ?_)
 refine gx_region ?_
 refine gx_k (.int .i64 p1) w0 (gx_k (.int .i64 (IntKind.i64.wrap (p1 + 1))) w0 (gx_k (.int .i64 (IntKind.i64.wrap (p1 + 1))) w0 ?_))
 refine gx_nil ?_
 refine gx_thenN ?_
 refine hK4 _ _ ?_
 obtain ⟨c9, hE10, hO11⟩ := bind_in hF
 refine gx_cut (fun a w => ∃ (x8 : Int), selfA (fun u7 => ⟨((.pointer (some ⟨g0, 0, none⟩)) :: (.int .i64 x8) :: undef :: undef :: (.int .i64 0) :: (.int .i64 p1) :: (.int .i64 (IntKind.i64.wrap (p1 + 1))) :: dd u7 7 19 (un 7 ([]))).toArray, []⟩) a ∧ x8 = c9 ∧ St (foots [plE g0 A0_0 c0_0 A0_1 c0_1 p0_0 p0_1 p0_2 p0_3 p0_4 p0_5 p0_6 p0_7 p0_8 p0_9 p0_10 p0_11]) w0 w [plE g0 A0_0 c0_0 A0_1 c0_1 p0_0 p0_1 p0_2 p0_3 p0_4 p0_5 p0_6 p0_7 p0_8 p0_9 p0_10 p0_11]) ?_ ?_
 ·refine gx_block ?_
  refine gx_loop (fun k a w => ∃ (x15 : Int), selfA (fun u14 => ⟨((.pointer (some ⟨g0, 0, none⟩)) :: (.int .i64 x15) :: undef :: undef :: (.int .i64 0) :: (.int .i64 p1) :: (.int .i64 (IntKind.i64.wrap (p1 + 1))) :: dd u14 7 19 (un 7 ([]))).toArray, []⟩) a ∧ pNext_L1 N p0_1 k x15 = some c9 ∧ St (foots [plE g0 A0_0 c0_0 A0_1 c0_1 p0_0 p0_1 p0_2 p0_3 p0_4 p0_5 p0_6 p0_7 p0_8 p0_9 p0_10 p0_11]) w0 w [plE g0 A0_0 c0_0 A0_1 c0_1 p0_0 p0_1 p0_2 p0_3 p0_4 p0_5 p0_6 p0_7 p0_8 p0_9 p0_10 p0_11]) N ?_ ?_
  ·exact ⟨(IntKind.i64.wrap (p1 + 1)), selfA_i (by kernel_rfl), hE10, hS0⟩
  ·rintro k16 _ w12 ⟨x15, hq26, hL17, hS13⟩
   obtain ⟨u14, rfl⟩ := selfA_u hq26
   cases k16 with
   | zero => cases hL17
   | succ k16 =>
    first | rw [pNext_L1] at hL17 | unfold pNext_L1 at hL17
    refine gx_seq (fun K18 hK19 => ?_)
    refine gx_seq (fun K20 hK21 => ?_)
    refine gx_region ?_
    refine gx_k (.int .i64 x15) w12 (gx_k (.pointer (some ⟨g0, 0, none⟩)) w12 (gx_k (.pointer (some ⟨g0, 0, none⟩)) w12 (gx_k (.pointer (some ⟨g0, 1, none⟩)) w12 ?_)))
    refine gx_v (.slice A0_1 p0_1.length c0_1) w12 (run_load1 rfl (by kernel_rfl) (fun _ => by kernel_rfl) (hS13.box 0 rfl 1 rfl)) ?_
    refine gx_k (.int .i64 ((p0_1.length : Nat) : Int)) w12 ?_
    rcases if_in hL17 with ⟨h22, hL17⟩ | ⟨h22, hL17⟩
    ·refine gx_v (.bool true) w12 (run_boolE (decide_eq_true h22) (by kernel_rfl)) ?_
     refine gx_k (.bool true) w12 (gx_k (.pointer (some ⟨g0, 0, none⟩)) w12 (gx_k (.pointer (some ⟨g0, 0, none⟩)) w12 (gx_k (.pointer (some ⟨g0, 1, none⟩)) w12 ?_)))
     refine gx_v (.slice A0_1 p0_1.length c0_1) w12 (run_load1 rfl (by kernel_rfl) (fun _ => by kernel_rfl) (hS13.box 0 rfl 1 rfl)) ?_
     refine gx_k (.int .i64 x15) w12 ?_
     obtain ⟨x23, hx24, hL17⟩ := bind_in hL17
     refine gx_v (.pointer (Option.map (fun (p : Addr) => p.add (Int.toNat x15 * 1)) A0_1)) w12 (run_ixaddr (E := 5) (s := 1) (k := .i64) (c := c0_1) rfl (by kernel_rfl) (by kernel_rfl) (by kernel_rfl) (fun _ => by kernel_rfl) (ix_in hx24).1 (ix_in hx24).2.1 (num_nil (hS13.view hv0_1))) ?_
     refine gx_v (.int .u8 x23) w12 (run_loadix rfl (by kernel_rfl) (fun _ => by kernel_rfl) (hS13.view hv0_1) hx24) ?_
     rcases if_in hL17 with ⟨h25, hL17⟩ | ⟨h25, hL17⟩
     ·refine gx_v (.bool true) w12 (run_boolE (decide_eq_true h25) (by kernel_rfl)) ?_
      refine gx_k (.bool true) w12 ?_
      refine gx_nil ?_
      refine gx_thenN ?_
      refine hK21 _ _ ?_
      refine gx_yes (by kernel_rfl) ?_
      refine gx_pass ?_
      refine gx_thenN ?_
      refine hK19 _ _ ?_
      refine gx_block ?_
      refine gx_region ?_
      refine gx_k (.int .i64 x15) w12 (gx_k (.int .i64 (IntKind.i64.wrap (x15 + 1))) w12 (gx_k (.int .i64 (IntKind.i64.wrap (x15 + 1))) w12 ?_))
      refine gx_nil ?_
      refine gx_blkN ?_
      refine gx_thenN ?_
      exact ⟨k16, Nat.lt_succ_self k16, (IntKind.i64.wrap (x15 + 1)), selfA_i (by kernel_rfl), hL17, hS13⟩
     ·refine gx_v (.bool false) w12 (run_boolE (decide_eq_false h25) (by kernel_rfl)) ?_
      refine gx_k (.bool false) w12 ?_
      refine gx_nil ?_
      refine gx_thenN ?_
      refine hK21 _ _ ?_
      refine gx_no (by kernel_rfl) ?_
      refine gx_exit ?_
      refine gx_thenE ?_
      refine gx_thenE ?_
      refine gx_blkE ?_
      refine gx_thenN ?_
      exact ⟨x15, selfA_i (by kernel_rfl), (Option.some.inj hL17), hS13⟩
    ·refine gx_v (.bool false) w12 (run_boolE (decide_eq_false h22) (by kernel_rfl)) ?_
     refine gx_k (.bool false) w12 (gx_o (gx_o (gx_o (gx_o (gx_o (gx_o (gx_o ?_)))))))
     refine gx_o (gx_k (.bool false) w12 ?_)
     refine gx_nil ?_
     refine gx_thenN ?_
     refine hK21 _ _ ?_
     refine gx_no (by kernel_rfl) ?_
     refine gx_exit ?_
     refine gx_thenE ?_
     refine gx_thenE ?_
     refine gx_blkE ?_
     refine gx_thenN ?_
     exact ⟨x15, selfA_i (by kernel_rfl), (Option.some.inj hL17), hS13⟩
 ·rintro _ w5 ⟨x8, hq29, rfl, hS6⟩
  obtain ⟨u7, rfl⟩ := selfA_u hq29
  try dsimp only at hO11
  refine gx_seq (fun K27 hK28 => ?_)
  refine gx_region ?_
  refine gx_k (.int .i64 x8) w5 (gx_k (.pointer (some ⟨g0, 0, none⟩)) w5 (gx_k (.pointer (some ⟨g0, 0, none⟩)) w5 (gx_k (.pointer (some ⟨g0, 1, none⟩)) w5 ?_)))
  refine gx_v (.slice A0_1 p0_1.length c0_1) w5 (run_load1 rfl (by kernel_rfl) (fun _ => by kernel_rfl) (hS6.box 0 rfl 1 rfl)) ?_
  refine gx_k (.int .i64 ((p0_1.length : Nat) : Int)) w5 ?_
  refine gx_v (.int .i64 (if ((p0_1.length : Nat) : Int) < x8 then ((p0_1.length : Nat) : Int) else x8)) w5 (run_min2 rfl (by kernel_rfl) (by kernel_rfl)) ?_
  refine gx_k (.int .i64 (if ((p0_1.length : Nat) : Int) < x8 then ((p0_1.length : Nat) : Int) else x8)) w5 ?_
  refine gx_nil ?_
  refine gx_thenN ?_
  refine hK28 _ _ ?_
  refine gx_ret ?_
  obtain rfl := Option.some.inj hO11
  exact gx_fin (.int .i64 (if ((p0_1.length : Nat) : Int) < x8 then ((p0_1.length : Nat) : Int) else x8)) (by kernel_rfl) (by kernel_rfl) ⟨_, rfl, rfl, hS6⟩
def pIs (N : Nat) (p0_0 : List Int) (p0_1 : List Int) (p0_2 : Int) (p0_3 : Int) (p0_4 : Int) (p0_5 : Int) (p0_6 : Int) (p0_7 : Int) (p0_8 : Int) (p0_9 : Bool) (p0_10 : Bool) (p0_11 : Bool) (p1 : Int) (p2 : List Int) : Option (Bool) :=
 ((pThere N p0_0 p0_1 p0_2 p0_3 p0_4 p0_5 p0_6 p0_7 p0_8 p0_9 p0_10 p0_11 p1).bind fun b11 => (match b11 with | true => ((ix p0_1 p1).bind fun x15 => ((pSetOf N p2).bind fun x21 => ((pHasC N x21 x15).bind fun b27 => some b27))) | false => ((pSetOf N p2).bind fun x35 => ((pHasC N x35 (38 : Int)).bind fun b41 => some b41))))
set_option linter.unusedVariables false in
def pIs_R (p0_0 : List Int) (p0_1 : List Int) (p0_2 : Int) (p0_3 : Int) (p0_4 : Int) (p0_5 : Int) (p0_6 : Int) (p0_7 : Int) (p0_8 : Int) (p0_9 : Bool) (p0_10 : Bool) (p0_11 : Bool) (p1 : Int) (p2 : List Int) (g0 : Nat) (A0_0 : Option Addr) (c0_0 : Nat) (A0_1 : Option Addr) (c0_1 : Nat) (A2 : Option Addr) (c2 : Nat) (r : Bool) (w0 : World) (v : Value) (w : World) : Prop := v = .bool r ∧ St (foots [plE g0 A0_0 c0_0 A0_1 c0_1 p0_0 p0_1 p0_2 p0_3 p0_4 p0_5 p0_6 p0_7 p0_8 p0_9 p0_10 p0_11]) w0 w [plE g0 A0_0 c0_0 A0_1 c0_1 p0_0 p0_1 p0_2 p0_3 p0_4 p0_5 p0_6 p0_7 p0_8 p0_9 p0_10 p0_11]
set_option maxRecDepth 100000 in
set_option maxHeartbeats 4000000 in
theorem pIs_ok (N : Nat) (p0_0 : List Int) (p0_1 : List Int) (p0_2 : Int) (p0_3 : Int) (p0_4 : Int) (p0_5 : Int) (p0_6 : Int) (p0_7 : Int) (p0_8 : Int) (p0_9 : Bool) (p0_10 : Bool) (p0_11 : Bool) (p1 : Int) (p2 : List Int) (g0 : Nat) (A0_0 : Option Addr) (c0_0 : Nat) (A0_1 : Option Addr) (c0_1 : Nat) (A2 : Option Addr) (c2 : Nat) (r : Bool) (hF : pIs N p0_0 p0_1 p0_2 p0_3 p0_4 p0_5 p0_6 p0_7 p0_8 p0_9 p0_10 p0_11 p1 p2 = some r) (w0 : World) (hv0_0 : Vw (foots [plE g0 A0_0 c0_0 A0_1 c0_1 p0_0 p0_1 p0_2 p0_3 p0_4 p0_5 p0_6 p0_7 p0_8 p0_9 p0_10 p0_11]) .i32 w0 A0_0 c0_0 p0_0) (hv0_1 : Vw (foots [plE g0 A0_0 c0_0 A0_1 c0_1 p0_0 p0_1 p0_2 p0_3 p0_4 p0_5 p0_6 p0_7 p0_8 p0_9 p0_10 p0_11]) .u8 w0 A0_1 c0_1 p0_1) (hv2 : Vw (foots [plE g0 A0_0 c0_0 A0_1 c0_1 p0_0 p0_1 p0_2 p0_3 p0_4 p0_5 p0_6 p0_7 p0_8 p0_9 p0_10 p0_11]) .u8 w0 A2 c2 p2) (hl : St (foots [plE g0 A0_0 c0_0 A0_1 c0_1 p0_0 p0_1 p0_2 p0_3 p0_4 p0_5 p0_6 p0_7 p0_8 p0_9 p0_10 p0_11]) w0 w0 [plE g0 A0_0 c0_0 A0_1 c0_1 p0_0 p0_1 p0_2 p0_3 p0_4 p0_5 p0_6 p0_7 p0_8 p0_9 p0_10 p0_11]) :
  Calls Try.prog 81 #[.pointer (some ⟨g0, 0, none⟩), .int .i64 p1, .slice A2 p2.length c2] w0 fun e w => ∃ v, e = .returned v ∧ pIs_R p0_0 p0_1 p0_2 p0_3 p0_4 p0_5 p0_6 p0_7 p0_8 p0_9 p0_10 p0_11 p1 p2 g0 A0_0 c0_0 A0_1 c0_1 A2 c2 r w0 v w := by
 have hS0 := hl
 unfold pIs at hF
 refine calls_of Try.func81 rfl ⟨((.pointer (some ⟨g0, 0, none⟩)) :: (.int .i64 p1) :: (.slice A2 p2.length c2) :: un 19 ([])).toArray, []⟩ (by kernel_rfl) ?_
 refine gx_seq (fun K1 hK2 => ?_)
 refine gx_region ?_
 refine gx_k (.bool false) w0 ?_
 refine gx_nil ?_
 refine gx_thenN ?_
 refine hK2 _ _ ?_
 refine gx_seq (fun K3 hK4 => ?_)
 refine gx_region ?_
 refine gx_k (.int .u8 38) w0 ?_
 refine gx_nil ?_
 refine gx_thenN ?_
 refine hK4 _ _ ?_
 refine gx_seq (fun K5 hK6 => ?_)
 refine gx_seq (fun K7 hK8 => ?_)
 refine gx_region ?_
 refine gx_k (.pointer (some ⟨g0, 0, none⟩)) w0 (gx_k (.int .i64 p1) w0 ?_)
 have hP9 : St _ _ w0 ([plE g0 A0_0 c0_0 A0_1 c0_1 p0_0 p0_1 p0_2 p0_3 p0_4 p0_5 p0_6 p0_7 p0_8 p0_9 p0_10 p0_11] ++ []) := hS0
 obtain ⟨b11, hc10, hF⟩ := bind_in hF
 try dsimp only at hF
 refine gx_c (pThere_R p0_0 p0_1 p0_2 p0_3 p0_4 p0_5 p0_6 p0_7 p0_8 p0_9 p0_10 p0_11 p1 g0 A0_0 c0_0 A0_1 c0_1 b11 w0) (pThere_ok N p0_0 p0_1 p0_2 p0_3 p0_4 p0_5 p0_6 p0_7 p0_8 p0_9 p0_10 p0_11 p1 g0 A0_0 c0_0 A0_1 c0_1 _ hc10 w0 (hP9.vwA hv0_0) (hP9.vwA hv0_1) hP9.part) ?_
 rintro _ w12 ⟨rfl, hT14⟩
 have hS13 : St _ _ w12 [plE g0 A0_0 c0_0 A0_1 c0_1 p0_0 p0_1 p0_2 p0_3 p0_4 p0_5 p0_6 p0_7 p0_8 p0_9 p0_10 p0_11] := hP9.lendN _ hT14
 refine gx_nil ?_
 refine gx_thenN ?_
 refine hK8 _ _ ?_
 cases b11 with
 | true =>
  try dsimp only at hF
  refine gx_yes (by kernel_rfl) ?_
  refine gx_region ?_
  refine gx_k (.pointer (some ⟨g0, 0, none⟩)) w12 (gx_k (.pointer (some ⟨g0, 0, none⟩)) w12 (gx_k (.pointer (some ⟨g0, 1, none⟩)) w12 ?_))
  refine gx_v (.slice A0_1 p0_1.length c0_1) w12 (run_load1 rfl (by kernel_rfl) (fun _ => by kernel_rfl) (hS13.box 0 rfl 1 rfl)) ?_
  refine gx_k (.int .i64 p1) w12 ?_
  obtain ⟨x15, hx16, hF⟩ := bind_in hF
  refine gx_v (.pointer (Option.map (fun (p : Addr) => p.add (Int.toNat p1 * 1)) A0_1)) w12 (run_ixaddr (E := 5) (s := 1) (k := .i64) (c := c0_1) rfl (by kernel_rfl) (by kernel_rfl) (by kernel_rfl) (fun _ => by kernel_rfl) (ix_in hx16).1 (ix_in hx16).2.1 (num_nil (hS13.view hv0_1))) ?_
  refine gx_v (.int .u8 x15) w12 (run_loadix rfl (by kernel_rfl) (fun _ => by kernel_rfl) (hS13.view hv0_1) hx16) ?_
  refine gx_k (.int .u8 x15) w12 ?_
  refine gx_nil ?_
  refine gx_thenN ?_
  refine hK6 _ _ ?_
  refine gx_seq (fun K17 hK18 => ?_)
  refine gx_region ?_
  refine gx_k (.slice A2 p2.length c2) w12 ?_
  have hP19 : St _ _ w12 ([] ++ [plE g0 A0_0 c0_0 A0_1 c0_1 p0_0 p0_1 p0_2 p0_3 p0_4 p0_5 p0_6 p0_7 p0_8 p0_9 p0_10 p0_11]) := hS13
  obtain ⟨x21, hc20, hF⟩ := bind_in hF
  try dsimp only at hF
  refine gx_c (pSetOf_R x21 w12) (pSetOf_ok N p2 A2 c2 _ hc20 w12 (hP19.vwA hv2)) ?_
  rintro _ w22 ⟨rfl, hT24⟩
  have hS23 : St _ _ w22 [plE g0 A0_0 c0_0 A0_1 c0_1 p0_0 p0_1 p0_2 p0_3 p0_4 p0_5 p0_6 p0_7 p0_8 p0_9 p0_10 p0_11] := hS13.take _ hT24
  refine gx_k (.int .u8 x15) w22 ?_
  have hP25 : St _ _ w22 ([] ++ [plE g0 A0_0 c0_0 A0_1 c0_1 p0_0 p0_1 p0_2 p0_3 p0_4 p0_5 p0_6 p0_7 p0_8 p0_9 p0_10 p0_11]) := hS23
  obtain ⟨b27, hc26, hF⟩ := bind_in hF
  try dsimp only at hF
  refine gx_c (pHasC_R b27 w22) (pHasC_ok N x21 x15 _ hc26 w22 ) ?_
  rintro _ w28 ⟨rfl, hT30⟩
  have hS29 : St _ _ w28 [plE g0 A0_0 c0_0 A0_1 c0_1 p0_0 p0_1 p0_2 p0_3 p0_4 p0_5 p0_6 p0_7 p0_8 p0_9 p0_10 p0_11] := hS23.take _ hT30
  refine gx_k (.bool b27) w28 ?_
  refine gx_nil ?_
  refine gx_thenN ?_
  refine hK18 _ _ ?_
  refine gx_ret ?_
  obtain rfl := Option.some.inj hF
  exact gx_fin (.bool b27) (by kernel_rfl) (by kernel_rfl) ⟨_, rfl, rfl, hS29⟩
 | false =>
  try dsimp only at hF
  refine gx_no (by kernel_rfl) ?_
  refine gx_pass ?_
  refine gx_thenN ?_
  refine hK6 _ _ ?_
  refine gx_seq (fun K31 hK32 => ?_)
  refine gx_region ?_
  refine gx_k (.slice A2 p2.length c2) w12 ?_
  have hP33 : St _ _ w12 ([] ++ [plE g0 A0_0 c0_0 A0_1 c0_1 p0_0 p0_1 p0_2 p0_3 p0_4 p0_5 p0_6 p0_7 p0_8 p0_9 p0_10 p0_11]) := hS13
  obtain ⟨x35, hc34, hF⟩ := bind_in hF
  try dsimp only at hF
  refine gx_c (pSetOf_R x35 w12) (pSetOf_ok N p2 A2 c2 _ hc34 w12 (hP33.vwA hv2)) ?_
  rintro _ w36 ⟨rfl, hT38⟩
  have hS37 : St _ _ w36 [plE g0 A0_0 c0_0 A0_1 c0_1 p0_0 p0_1 p0_2 p0_3 p0_4 p0_5 p0_6 p0_7 p0_8 p0_9 p0_10 p0_11] := hS13.take _ hT38
  refine gx_k (.int .u8 38) w36 ?_
  have hP39 : St _ _ w36 ([] ++ [plE g0 A0_0 c0_0 A0_1 c0_1 p0_0 p0_1 p0_2 p0_3 p0_4 p0_5 p0_6 p0_7 p0_8 p0_9 p0_10 p0_11]) := hS37
  obtain ⟨b41, hc40, hF⟩ := bind_in hF
  try dsimp only at hF
  refine gx_c (pHasC_R b41 w36) (pHasC_ok N x35 (38 : Int) _ hc40 w36 ) ?_
  rintro _ w42 ⟨rfl, hT44⟩
  have hS43 : St _ _ w42 [plE g0 A0_0 c0_0 A0_1 c0_1 p0_0 p0_1 p0_2 p0_3 p0_4 p0_5 p0_6 p0_7 p0_8 p0_9 p0_10 p0_11] := hS37.take _ hT44
  refine gx_k (.bool b41) w42 ?_
  refine gx_nil ?_
  refine gx_thenN ?_
  refine hK32 _ _ ?_
  refine gx_ret ?_
  obtain rfl := Option.some.inj hF
  exact gx_fin (.bool b41) (by kernel_rfl) (by kernel_rfl) ⟨_, rfl, rfl, hS43⟩
def pBegins (N : Nat) (p0_0 : List Int) (p0_1 : List Int) (p0_2 : Int) (p0_3 : Int) (p0_4 : Int) (p0_5 : Int) (p0_6 : Int) (p0_7 : Int) (p0_8 : Int) (p0_9 : Bool) (p0_10 : Bool) (p0_11 : Bool) (p1 : Int) (p2 : Int) : Option (Bool) :=
 ((pThere N p0_0 p0_1 p0_2 p0_3 p0_4 p0_5 p0_6 p0_7 p0_8 p0_9 p0_10 p0_11 p1).bind fun b7 => (match b7 with | true => ((ix p0_0 p1).bind fun x11 => some (decide (x11 = p2))) | false => some false))
set_option linter.unusedVariables false in
def pBegins_R (p0_0 : List Int) (p0_1 : List Int) (p0_2 : Int) (p0_3 : Int) (p0_4 : Int) (p0_5 : Int) (p0_6 : Int) (p0_7 : Int) (p0_8 : Int) (p0_9 : Bool) (p0_10 : Bool) (p0_11 : Bool) (p1 : Int) (p2 : Int) (g0 : Nat) (A0_0 : Option Addr) (c0_0 : Nat) (A0_1 : Option Addr) (c0_1 : Nat) (r : Bool) (w0 : World) (v : Value) (w : World) : Prop := v = .bool r ∧ St (foots [plE g0 A0_0 c0_0 A0_1 c0_1 p0_0 p0_1 p0_2 p0_3 p0_4 p0_5 p0_6 p0_7 p0_8 p0_9 p0_10 p0_11]) w0 w [plE g0 A0_0 c0_0 A0_1 c0_1 p0_0 p0_1 p0_2 p0_3 p0_4 p0_5 p0_6 p0_7 p0_8 p0_9 p0_10 p0_11]
set_option maxRecDepth 100000 in
set_option maxHeartbeats 4000000 in
theorem pBegins_ok (N : Nat) (p0_0 : List Int) (p0_1 : List Int) (p0_2 : Int) (p0_3 : Int) (p0_4 : Int) (p0_5 : Int) (p0_6 : Int) (p0_7 : Int) (p0_8 : Int) (p0_9 : Bool) (p0_10 : Bool) (p0_11 : Bool) (p1 : Int) (p2 : Int) (g0 : Nat) (A0_0 : Option Addr) (c0_0 : Nat) (A0_1 : Option Addr) (c0_1 : Nat) (r : Bool) (hF : pBegins N p0_0 p0_1 p0_2 p0_3 p0_4 p0_5 p0_6 p0_7 p0_8 p0_9 p0_10 p0_11 p1 p2 = some r) (w0 : World) (hv0_0 : Vw (foots [plE g0 A0_0 c0_0 A0_1 c0_1 p0_0 p0_1 p0_2 p0_3 p0_4 p0_5 p0_6 p0_7 p0_8 p0_9 p0_10 p0_11]) .i32 w0 A0_0 c0_0 p0_0) (hv0_1 : Vw (foots [plE g0 A0_0 c0_0 A0_1 c0_1 p0_0 p0_1 p0_2 p0_3 p0_4 p0_5 p0_6 p0_7 p0_8 p0_9 p0_10 p0_11]) .u8 w0 A0_1 c0_1 p0_1) (hl : St (foots [plE g0 A0_0 c0_0 A0_1 c0_1 p0_0 p0_1 p0_2 p0_3 p0_4 p0_5 p0_6 p0_7 p0_8 p0_9 p0_10 p0_11]) w0 w0 [plE g0 A0_0 c0_0 A0_1 c0_1 p0_0 p0_1 p0_2 p0_3 p0_4 p0_5 p0_6 p0_7 p0_8 p0_9 p0_10 p0_11]) :
  Calls Try.prog 97 #[.pointer (some ⟨g0, 0, none⟩), .int .i64 p1, .int .i32 p2] w0 fun e w => ∃ v, e = .returned v ∧ pBegins_R p0_0 p0_1 p0_2 p0_3 p0_4 p0_5 p0_6 p0_7 p0_8 p0_9 p0_10 p0_11 p1 p2 g0 A0_0 c0_0 A0_1 c0_1 r w0 v w := by
 have hS0 := hl
 unfold pBegins at hF
 refine calls_of Try.func97 rfl ⟨((.pointer (some ⟨g0, 0, none⟩)) :: (.int .i64 p1) :: (.int .i32 p2) :: un 18 ([])).toArray, []⟩ (by kernel_rfl) ?_
 refine gx_seq (fun K1 hK2 => ?_)
 refine gx_region ?_
 refine gx_k (.bool false) w0 ?_
 refine gx_nil ?_
 refine gx_thenN ?_
 refine hK2 _ _ ?_
 refine gx_seq (fun K3 hK4 => ?_)
 refine gx_region ?_
 refine gx_k (.pointer (some ⟨g0, 0, none⟩)) w0 (gx_k (.int .i64 p1) w0 ?_)
 have hP5 : St _ _ w0 ([plE g0 A0_0 c0_0 A0_1 c0_1 p0_0 p0_1 p0_2 p0_3 p0_4 p0_5 p0_6 p0_7 p0_8 p0_9 p0_10 p0_11] ++ []) := hS0
 obtain ⟨b7, hc6, hF⟩ := bind_in hF
 try dsimp only at hF
 refine gx_c (pThere_R p0_0 p0_1 p0_2 p0_3 p0_4 p0_5 p0_6 p0_7 p0_8 p0_9 p0_10 p0_11 p1 g0 A0_0 c0_0 A0_1 c0_1 b7 w0) (pThere_ok N p0_0 p0_1 p0_2 p0_3 p0_4 p0_5 p0_6 p0_7 p0_8 p0_9 p0_10 p0_11 p1 g0 A0_0 c0_0 A0_1 c0_1 _ hc6 w0 (hP5.vwA hv0_0) (hP5.vwA hv0_1) hP5.part) ?_
 rintro _ w8 ⟨rfl, hT10⟩
 have hS9 : St _ _ w8 [plE g0 A0_0 c0_0 A0_1 c0_1 p0_0 p0_1 p0_2 p0_3 p0_4 p0_5 p0_6 p0_7 p0_8 p0_9 p0_10 p0_11] := hP5.lendN _ hT10
 refine gx_k (.bool b7) w8 ?_
 cases b7 with
 | true =>
  try dsimp only at hF
  refine gx_k (.pointer (some ⟨g0, 0, none⟩)) w8 (gx_k (.pointer (some ⟨g0, 0, none⟩)) w8 (gx_k (.pointer (some ⟨g0, 0, none⟩)) w8 ?_))
  refine gx_v (.slice A0_0 p0_0.length c0_0) w8 (run_load1 rfl (by kernel_rfl) (fun _ => by kernel_rfl) (hS9.box 0 rfl 0 rfl)) ?_
  refine gx_k (.int .i64 p1) w8 ?_
  obtain ⟨x11, hx12, hF⟩ := bind_in hF
  refine gx_v (.pointer (Option.map (fun (p : Addr) => p.add (Int.toNat p1 * 1)) A0_0)) w8 (run_ixaddr (E := 21) (s := 1) (k := .i64) (c := c0_0) rfl (by kernel_rfl) (by kernel_rfl) (by kernel_rfl) (fun _ => by kernel_rfl) (ix_in hx12).1 (ix_in hx12).2.1 (num_nil (hS9.view hv0_0))) ?_
  refine gx_v (.int .i32 x11) w8 (run_loadix rfl (by kernel_rfl) (fun _ => by kernel_rfl) (hS9.view hv0_0) hx12) ?_
  refine gx_k (.int .i32 p2) w8 (gx_k (.bool (decide (x11 = p2))) w8 (gx_k (.bool (decide (x11 = p2))) w8 (gx_k (.bool (decide (x11 = p2))) w8 ?_)))
  refine gx_nil ?_
  refine gx_thenN ?_
  refine hK4 _ _ ?_
  refine gx_ret ?_
  obtain rfl := Option.some.inj hF
  exact gx_fin (.bool (decide (x11 = p2))) (by kernel_rfl) (by kernel_rfl) ⟨_, rfl, rfl, hS9⟩
 | false =>
  try dsimp only at hF
  refine gx_o (gx_o (gx_o (gx_o (gx_o (gx_o (gx_o (gx_o ?_)))))))
  refine gx_o (gx_k (.bool false) w8 (gx_k (.bool false) w8 ?_))
  refine gx_nil ?_
  refine gx_thenN ?_
  refine hK4 _ _ ?_
  refine gx_ret ?_
  obtain rfl := Option.some.inj hF
  exact gx_fin (.bool false) (by kernel_rfl) (by kernel_rfl) ⟨_, rfl, rfl, hS9⟩
def pWide (N : Nat) (p0_0 : List Int) (p0_1 : List Int) (p0_2 : Int) (p0_3 : Int) (p0_4 : Int) (p0_5 : Int) (p0_6 : Int) (p0_7 : Int) (p0_8 : Int) (p0_9 : Bool) (p0_10 : Bool) (p0_11 : Bool) (p1 : Int) : Option (Bool) :=
 ((pThere N p0_0 p0_1 p0_2 p0_3 p0_4 p0_5 p0_6 p0_7 p0_8 p0_9 p0_10 p0_11 p1).bind fun b7 => (match b7 with | true => ((ix p0_0 p1).bind fun x11 => ((ucWd N x11).bind fun b15 => some b15)) | false => some false))
set_option linter.unusedVariables false in
def pWide_R (p0_0 : List Int) (p0_1 : List Int) (p0_2 : Int) (p0_3 : Int) (p0_4 : Int) (p0_5 : Int) (p0_6 : Int) (p0_7 : Int) (p0_8 : Int) (p0_9 : Bool) (p0_10 : Bool) (p0_11 : Bool) (p1 : Int) (g0 : Nat) (A0_0 : Option Addr) (c0_0 : Nat) (A0_1 : Option Addr) (c0_1 : Nat) (r : Bool) (w0 : World) (v : Value) (w : World) : Prop := v = .bool r ∧ St (foots [plE g0 A0_0 c0_0 A0_1 c0_1 p0_0 p0_1 p0_2 p0_3 p0_4 p0_5 p0_6 p0_7 p0_8 p0_9 p0_10 p0_11]) w0 w [plE g0 A0_0 c0_0 A0_1 c0_1 p0_0 p0_1 p0_2 p0_3 p0_4 p0_5 p0_6 p0_7 p0_8 p0_9 p0_10 p0_11]
set_option maxRecDepth 100000 in
set_option maxHeartbeats 4000000 in
theorem pWide_ok (N : Nat) (p0_0 : List Int) (p0_1 : List Int) (p0_2 : Int) (p0_3 : Int) (p0_4 : Int) (p0_5 : Int) (p0_6 : Int) (p0_7 : Int) (p0_8 : Int) (p0_9 : Bool) (p0_10 : Bool) (p0_11 : Bool) (p1 : Int) (g0 : Nat) (A0_0 : Option Addr) (c0_0 : Nat) (A0_1 : Option Addr) (c0_1 : Nat) (r : Bool) (hF : pWide N p0_0 p0_1 p0_2 p0_3 p0_4 p0_5 p0_6 p0_7 p0_8 p0_9 p0_10 p0_11 p1 = some r) (w0 : World) (hv0_0 : Vw (foots [plE g0 A0_0 c0_0 A0_1 c0_1 p0_0 p0_1 p0_2 p0_3 p0_4 p0_5 p0_6 p0_7 p0_8 p0_9 p0_10 p0_11]) .i32 w0 A0_0 c0_0 p0_0) (hv0_1 : Vw (foots [plE g0 A0_0 c0_0 A0_1 c0_1 p0_0 p0_1 p0_2 p0_3 p0_4 p0_5 p0_6 p0_7 p0_8 p0_9 p0_10 p0_11]) .u8 w0 A0_1 c0_1 p0_1) (hl : St (foots [plE g0 A0_0 c0_0 A0_1 c0_1 p0_0 p0_1 p0_2 p0_3 p0_4 p0_5 p0_6 p0_7 p0_8 p0_9 p0_10 p0_11]) w0 w0 [plE g0 A0_0 c0_0 A0_1 c0_1 p0_0 p0_1 p0_2 p0_3 p0_4 p0_5 p0_6 p0_7 p0_8 p0_9 p0_10 p0_11]) :
  Calls Try.prog 96 #[.pointer (some ⟨g0, 0, none⟩), .int .i64 p1] w0 fun e w => ∃ v, e = .returned v ∧ pWide_R p0_0 p0_1 p0_2 p0_3 p0_4 p0_5 p0_6 p0_7 p0_8 p0_9 p0_10 p0_11 p1 g0 A0_0 c0_0 A0_1 c0_1 r w0 v w := by
 have hS0 := hl
 unfold pWide at hF
 refine calls_of Try.func96 rfl ⟨((.pointer (some ⟨g0, 0, none⟩)) :: (.int .i64 p1) :: un 16 ([])).toArray, []⟩ (by kernel_rfl) ?_
 refine gx_seq (fun K1 hK2 => ?_)
 refine gx_region ?_
 refine gx_k (.bool false) w0 ?_
 refine gx_nil ?_
 refine gx_thenN ?_
 refine hK2 _ _ ?_
 refine gx_seq (fun K3 hK4 => ?_)
 refine gx_region ?_
 refine gx_k (.pointer (some ⟨g0, 0, none⟩)) w0 (gx_k (.int .i64 p1) w0 ?_)
 have hP5 : St _ _ w0 ([plE g0 A0_0 c0_0 A0_1 c0_1 p0_0 p0_1 p0_2 p0_3 p0_4 p0_5 p0_6 p0_7 p0_8 p0_9 p0_10 p0_11] ++ []) := hS0
 obtain ⟨b7, hc6, hF⟩ := bind_in hF
 try dsimp only at hF
 refine gx_c (pThere_R p0_0 p0_1 p0_2 p0_3 p0_4 p0_5 p0_6 p0_7 p0_8 p0_9 p0_10 p0_11 p1 g0 A0_0 c0_0 A0_1 c0_1 b7 w0) (pThere_ok N p0_0 p0_1 p0_2 p0_3 p0_4 p0_5 p0_6 p0_7 p0_8 p0_9 p0_10 p0_11 p1 g0 A0_0 c0_0 A0_1 c0_1 _ hc6 w0 (hP5.vwA hv0_0) (hP5.vwA hv0_1) hP5.part) ?_
 rintro _ w8 ⟨rfl, hT10⟩
 have hS9 : St _ _ w8 [plE g0 A0_0 c0_0 A0_1 c0_1 p0_0 p0_1 p0_2 p0_3 p0_4 p0_5 p0_6 p0_7 p0_8 p0_9 p0_10 p0_11] := hP5.lendN _ hT10
 refine gx_k (.bool b7) w8 ?_
 cases b7 with
 | true =>
  try dsimp only at hF
  refine gx_k (.pointer (some ⟨g0, 0, none⟩)) w8 (gx_k (.pointer (some ⟨g0, 0, none⟩)) w8 (gx_k (.pointer (some ⟨g0, 0, none⟩)) w8 ?_))
  refine gx_v (.slice A0_0 p0_0.length c0_0) w8 (run_load1 rfl (by kernel_rfl) (fun _ => by kernel_rfl) (hS9.box 0 rfl 0 rfl)) ?_
  refine gx_k (.int .i64 p1) w8 ?_
  obtain ⟨x11, hx12, hF⟩ := bind_in hF
  refine gx_v (.pointer (Option.map (fun (p : Addr) => p.add (Int.toNat p1 * 1)) A0_0)) w8 (run_ixaddr (E := 21) (s := 1) (k := .i64) (c := c0_0) rfl (by kernel_rfl) (by kernel_rfl) (by kernel_rfl) (fun _ => by kernel_rfl) (ix_in hx12).1 (ix_in hx12).2.1 (num_nil (hS9.view hv0_0))) ?_
  refine gx_v (.int .i32 x11) w8 (run_loadix rfl (by kernel_rfl) (fun _ => by kernel_rfl) (hS9.view hv0_0) hx12) ?_
  have hP13 : St _ _ w8 ([] ++ [plE g0 A0_0 c0_0 A0_1 c0_1 p0_0 p0_1 p0_2 p0_3 p0_4 p0_5 p0_6 p0_7 p0_8 p0_9 p0_10 p0_11]) := hS9
  obtain ⟨b15, hc14, hF⟩ := bind_in hF
  try dsimp only at hF
  refine gx_c (ucWd_R b15 w8) (ucWd_ok N x11 _ hc14 w8 ) ?_
  rintro _ w16 ⟨rfl, hT18⟩
  have hS17 : St _ _ w16 [plE g0 A0_0 c0_0 A0_1 c0_1 p0_0 p0_1 p0_2 p0_3 p0_4 p0_5 p0_6 p0_7 p0_8 p0_9 p0_10 p0_11] := hS9.take _ hT18
  refine gx_k (.bool b15) w16 (gx_k (.bool b15) w16 ?_)
  refine gx_nil ?_
  refine gx_thenN ?_
  refine hK4 _ _ ?_
  refine gx_ret ?_
  obtain rfl := Option.some.inj hF
  exact gx_fin (.bool b15) (by kernel_rfl) (by kernel_rfl) ⟨_, rfl, rfl, hS17⟩
 | false =>
  try dsimp only at hF
  refine gx_o (gx_o (gx_o (gx_o (gx_o (gx_o (gx_o (gx_o ?_)))))))
  refine gx_k (.bool false) w8 (gx_k (.bool false) w8 ?_)
  refine gx_nil ?_
  refine gx_thenN ?_
  refine hK4 _ _ ?_
  refine gx_ret ?_
  obtain rfl := Option.some.inj hF
  exact gx_fin (.bool false) (by kernel_rfl) (by kernel_rfl) ⟨_, rfl, rfl, hS9⟩
def pDigit (N : Nat) (p0_0 : List Int) (p0_1 : List Int) (p0_2 : Int) (p0_3 : Int) (p0_4 : Int) (p0_5 : Int) (p0_6 : Int) (p0_7 : Int) (p0_8 : Int) (p0_9 : Bool) (p0_10 : Bool) (p0_11 : Bool) (p1 : Int) : Option (Bool) :=
 ((pIs N p0_0 p0_1 p0_2 p0_3 p0_4 p0_5 p0_6 p0_7 p0_8 p0_9 p0_10 p0_11 p1 ([27])).bind fun b9 => some b9)
set_option linter.unusedVariables false in
def pDigit_R (p0_0 : List Int) (p0_1 : List Int) (p0_2 : Int) (p0_3 : Int) (p0_4 : Int) (p0_5 : Int) (p0_6 : Int) (p0_7 : Int) (p0_8 : Int) (p0_9 : Bool) (p0_10 : Bool) (p0_11 : Bool) (p1 : Int) (g0 : Nat) (A0_0 : Option Addr) (c0_0 : Nat) (A0_1 : Option Addr) (c0_1 : Nat) (r : Bool) (w0 : World) (v : Value) (w : World) : Prop := v = .bool r ∧ St (foots [plE g0 A0_0 c0_0 A0_1 c0_1 p0_0 p0_1 p0_2 p0_3 p0_4 p0_5 p0_6 p0_7 p0_8 p0_9 p0_10 p0_11]) w0 w [plE g0 A0_0 c0_0 A0_1 c0_1 p0_0 p0_1 p0_2 p0_3 p0_4 p0_5 p0_6 p0_7 p0_8 p0_9 p0_10 p0_11]
set_option maxRecDepth 100000 in
set_option maxHeartbeats 4000000 in
theorem pDigit_ok (N : Nat) (p0_0 : List Int) (p0_1 : List Int) (p0_2 : Int) (p0_3 : Int) (p0_4 : Int) (p0_5 : Int) (p0_6 : Int) (p0_7 : Int) (p0_8 : Int) (p0_9 : Bool) (p0_10 : Bool) (p0_11 : Bool) (p1 : Int) (g0 : Nat) (A0_0 : Option Addr) (c0_0 : Nat) (A0_1 : Option Addr) (c0_1 : Nat) (r : Bool) (hF : pDigit N p0_0 p0_1 p0_2 p0_3 p0_4 p0_5 p0_6 p0_7 p0_8 p0_9 p0_10 p0_11 p1 = some r) (w0 : World) (hv0_0 : Vw (foots [plE g0 A0_0 c0_0 A0_1 c0_1 p0_0 p0_1 p0_2 p0_3 p0_4 p0_5 p0_6 p0_7 p0_8 p0_9 p0_10 p0_11]) .i32 w0 A0_0 c0_0 p0_0) (hv0_1 : Vw (foots [plE g0 A0_0 c0_0 A0_1 c0_1 p0_0 p0_1 p0_2 p0_3 p0_4 p0_5 p0_6 p0_7 p0_8 p0_9 p0_10 p0_11]) .u8 w0 A0_1 c0_1 p0_1) (hl : St (foots [plE g0 A0_0 c0_0 A0_1 c0_1 p0_0 p0_1 p0_2 p0_3 p0_4 p0_5 p0_6 p0_7 p0_8 p0_9 p0_10 p0_11]) w0 w0 [plE g0 A0_0 c0_0 A0_1 c0_1 p0_0 p0_1 p0_2 p0_3 p0_4 p0_5 p0_6 p0_7 p0_8 p0_9 p0_10 p0_11]) :
  Calls Try.prog 95 #[.pointer (some ⟨g0, 0, none⟩), .int .i64 p1] w0 fun e w => ∃ v, e = .returned v ∧ pDigit_R p0_0 p0_1 p0_2 p0_3 p0_4 p0_5 p0_6 p0_7 p0_8 p0_9 p0_10 p0_11 p1 g0 A0_0 c0_0 A0_1 c0_1 r w0 v w := by
 have hS0 := hl
 unfold pDigit at hF
 refine calls_of Try.func95 rfl ⟨((.pointer (some ⟨g0, 0, none⟩)) :: (.int .i64 p1) :: un 7 ([])).toArray, []⟩ (by kernel_rfl) ?_
 refine gx_seq (fun K1 hK2 => ?_)
 refine gx_region ?_
 refine gx_k (.bool false) w0 ?_
 refine gx_nil ?_
 refine gx_thenN ?_
 refine hK2 _ _ ?_
 refine gx_seq (fun K3 hK4 => ?_)
 refine gx_region ?_
 refine gx_k (.pointer (some ⟨g0, 0, none⟩)) w0 (gx_k (.int .i64 p1) w0 ?_)
 refine gx_r (st_made .u8 5 [27] hS0 (by show 1 ≤ 1000000000; decide) (by kernel_rfl)) ?_
 rintro _ w5 ⟨rfl, hS6⟩
 have hS6 : St _ _ w5 [plE g0 A0_0 c0_0 A0_1 c0_1 p0_0 p0_1 p0_2 p0_3 p0_4 p0_5 p0_6 p0_7 p0_8 p0_9 p0_10 p0_11, rowE .u8 5 (some ⟨w0.heap.size, 0, none⟩) 1 ([27])] := hS6
 have hP7 : St _ _ w5 ([plE g0 A0_0 c0_0 A0_1 c0_1 p0_0 p0_1 p0_2 p0_3 p0_4 p0_5 p0_6 p0_7 p0_8 p0_9 p0_10 p0_11] ++ [rowE .u8 5 (some ⟨w0.heap.size, 0, none⟩) 1 ([27])]) := hS6
 obtain ⟨b9, hc8, hF⟩ := bind_in hF
 try dsimp only at hF
 refine gx_c (pIs_R p0_0 p0_1 p0_2 p0_3 p0_4 p0_5 p0_6 p0_7 p0_8 p0_9 p0_10 p0_11 p1 ([27]) g0 A0_0 c0_0 A0_1 c0_1 (some ⟨w0.heap.size, 0, none⟩) 1 b9 w5) (pIs_ok N p0_0 p0_1 p0_2 p0_3 p0_4 p0_5 p0_6 p0_7 p0_8 p0_9 p0_10 p0_11 p1 ([27]) g0 A0_0 c0_0 A0_1 c0_1 (some ⟨w0.heap.size, 0, none⟩) 1 _ hc8 w5 (hP7.vwA hv0_0) (hP7.vwA hv0_1) (hP7.vwB 0 rfl) hP7.part) ?_
 rintro _ w10 ⟨rfl, hT12⟩
 have hS11 : St _ _ w10 [rowE .u8 5 (some ⟨w0.heap.size, 0, none⟩) 1 ([27]), plE g0 A0_0 c0_0 A0_1 c0_1 p0_0 p0_1 p0_2 p0_3 p0_4 p0_5 p0_6 p0_7 p0_8 p0_9 p0_10 p0_11] := hP7.lendN _ hT12
 refine gx_k (.bool b9) w10 ?_
 refine gx_nil ?_
 refine gx_thenN ?_
 refine hK4 _ _ ?_
 refine gx_ret ?_
 obtain rfl := Option.some.inj hF
 exact gx_fin (.bool b9) (by kernel_rfl) (by kernel_rfl) ⟨_, rfl, rfl, (hS11.pick [1] rfl rfl)⟩
def pLetter (N : Nat) (p0_0 : List Int) (p0_1 : List Int) (p0_2 : Int) (p0_3 : Int) (p0_4 : Int) (p0_5 : Int) (p0_6 : Int) (p0_7 : Int) (p0_8 : Int) (p0_9 : Bool) (p0_10 : Bool) (p0_11 : Bool) (p1 : Int) : Option (Bool) :=
 ((pIs N p0_0 p0_1 p0_2 p0_3 p0_4 p0_5 p0_6 p0_7 p0_8 p0_9 p0_10 p0_11 p1 ([0, 28])).bind fun b9 => some b9)
set_option linter.unusedVariables false in
def pLetter_R (p0_0 : List Int) (p0_1 : List Int) (p0_2 : Int) (p0_3 : Int) (p0_4 : Int) (p0_5 : Int) (p0_6 : Int) (p0_7 : Int) (p0_8 : Int) (p0_9 : Bool) (p0_10 : Bool) (p0_11 : Bool) (p1 : Int) (g0 : Nat) (A0_0 : Option Addr) (c0_0 : Nat) (A0_1 : Option Addr) (c0_1 : Nat) (r : Bool) (w0 : World) (v : Value) (w : World) : Prop := v = .bool r ∧ St (foots [plE g0 A0_0 c0_0 A0_1 c0_1 p0_0 p0_1 p0_2 p0_3 p0_4 p0_5 p0_6 p0_7 p0_8 p0_9 p0_10 p0_11]) w0 w [plE g0 A0_0 c0_0 A0_1 c0_1 p0_0 p0_1 p0_2 p0_3 p0_4 p0_5 p0_6 p0_7 p0_8 p0_9 p0_10 p0_11]
set_option maxRecDepth 100000 in
set_option maxHeartbeats 4000000 in
theorem pLetter_ok (N : Nat) (p0_0 : List Int) (p0_1 : List Int) (p0_2 : Int) (p0_3 : Int) (p0_4 : Int) (p0_5 : Int) (p0_6 : Int) (p0_7 : Int) (p0_8 : Int) (p0_9 : Bool) (p0_10 : Bool) (p0_11 : Bool) (p1 : Int) (g0 : Nat) (A0_0 : Option Addr) (c0_0 : Nat) (A0_1 : Option Addr) (c0_1 : Nat) (r : Bool) (hF : pLetter N p0_0 p0_1 p0_2 p0_3 p0_4 p0_5 p0_6 p0_7 p0_8 p0_9 p0_10 p0_11 p1 = some r) (w0 : World) (hv0_0 : Vw (foots [plE g0 A0_0 c0_0 A0_1 c0_1 p0_0 p0_1 p0_2 p0_3 p0_4 p0_5 p0_6 p0_7 p0_8 p0_9 p0_10 p0_11]) .i32 w0 A0_0 c0_0 p0_0) (hv0_1 : Vw (foots [plE g0 A0_0 c0_0 A0_1 c0_1 p0_0 p0_1 p0_2 p0_3 p0_4 p0_5 p0_6 p0_7 p0_8 p0_9 p0_10 p0_11]) .u8 w0 A0_1 c0_1 p0_1) (hl : St (foots [plE g0 A0_0 c0_0 A0_1 c0_1 p0_0 p0_1 p0_2 p0_3 p0_4 p0_5 p0_6 p0_7 p0_8 p0_9 p0_10 p0_11]) w0 w0 [plE g0 A0_0 c0_0 A0_1 c0_1 p0_0 p0_1 p0_2 p0_3 p0_4 p0_5 p0_6 p0_7 p0_8 p0_9 p0_10 p0_11]) :
  Calls Try.prog 98 #[.pointer (some ⟨g0, 0, none⟩), .int .i64 p1] w0 fun e w => ∃ v, e = .returned v ∧ pLetter_R p0_0 p0_1 p0_2 p0_3 p0_4 p0_5 p0_6 p0_7 p0_8 p0_9 p0_10 p0_11 p1 g0 A0_0 c0_0 A0_1 c0_1 r w0 v w := by
 have hS0 := hl
 unfold pLetter at hF
 refine calls_of Try.func98 rfl ⟨((.pointer (some ⟨g0, 0, none⟩)) :: (.int .i64 p1) :: un 7 ([])).toArray, []⟩ (by kernel_rfl) ?_
 refine gx_seq (fun K1 hK2 => ?_)
 refine gx_region ?_
 refine gx_k (.bool false) w0 ?_
 refine gx_nil ?_
 refine gx_thenN ?_
 refine hK2 _ _ ?_
 refine gx_seq (fun K3 hK4 => ?_)
 refine gx_region ?_
 refine gx_k (.pointer (some ⟨g0, 0, none⟩)) w0 (gx_k (.int .i64 p1) w0 ?_)
 refine gx_r (st_made .u8 5 [0, 28] hS0 (by show 2 ≤ 1000000000; decide) (by kernel_rfl)) ?_
 rintro _ w5 ⟨rfl, hS6⟩
 have hS6 : St _ _ w5 [plE g0 A0_0 c0_0 A0_1 c0_1 p0_0 p0_1 p0_2 p0_3 p0_4 p0_5 p0_6 p0_7 p0_8 p0_9 p0_10 p0_11, rowE .u8 5 (some ⟨w0.heap.size, 0, none⟩) 2 ([0, 28])] := hS6
 have hP7 : St _ _ w5 ([plE g0 A0_0 c0_0 A0_1 c0_1 p0_0 p0_1 p0_2 p0_3 p0_4 p0_5 p0_6 p0_7 p0_8 p0_9 p0_10 p0_11] ++ [rowE .u8 5 (some ⟨w0.heap.size, 0, none⟩) 2 ([0, 28])]) := hS6
 obtain ⟨b9, hc8, hF⟩ := bind_in hF
 try dsimp only at hF
 refine gx_c (pIs_R p0_0 p0_1 p0_2 p0_3 p0_4 p0_5 p0_6 p0_7 p0_8 p0_9 p0_10 p0_11 p1 ([0, 28]) g0 A0_0 c0_0 A0_1 c0_1 (some ⟨w0.heap.size, 0, none⟩) 2 b9 w5) (pIs_ok N p0_0 p0_1 p0_2 p0_3 p0_4 p0_5 p0_6 p0_7 p0_8 p0_9 p0_10 p0_11 p1 ([0, 28]) g0 A0_0 c0_0 A0_1 c0_1 (some ⟨w0.heap.size, 0, none⟩) 2 _ hc8 w5 (hP7.vwA hv0_0) (hP7.vwA hv0_1) (hP7.vwB 0 rfl) hP7.part) ?_
 rintro _ w10 ⟨rfl, hT12⟩
 have hS11 : St _ _ w10 [rowE .u8 5 (some ⟨w0.heap.size, 0, none⟩) 2 ([0, 28]), plE g0 A0_0 c0_0 A0_1 c0_1 p0_0 p0_1 p0_2 p0_3 p0_4 p0_5 p0_6 p0_7 p0_8 p0_9 p0_10 p0_11] := hP7.lendN _ hT12
 refine gx_k (.bool b9) w10 ?_
 refine gx_nil ?_
 refine gx_thenN ?_
 refine hK4 _ _ ?_
 refine gx_ret ?_
 obtain rfl := Option.some.inj hF
 exact gx_fin (.bool b9) (by kernel_rfl) (by kernel_rfl) ⟨_, rfl, rfl, (hS11.pick [1] rfl rfl)⟩
def pOfWord (N : Nat) (p0_0 : List Int) (p0_1 : List Int) (p0_2 : Int) (p0_3 : Int) (p0_4 : Int) (p0_5 : Int) (p0_6 : Int) (p0_7 : Int) (p0_8 : Int) (p0_9 : Bool) (p0_10 : Bool) (p0_11 : Bool) (p1 : Int) : Option (Bool) :=
 ((pLetter N p0_0 p0_1 p0_2 p0_3 p0_4 p0_5 p0_6 p0_7 p0_8 p0_9 p0_10 p0_11 p1).bind fun b7 => (match b7 with | true => some true | false => ((pDigit N p0_0 p0_1 p0_2 p0_3 p0_4 p0_5 p0_6 p0_7 p0_8 p0_9 p0_10 p0_11 p1).bind fun b13 => some b13)))
set_option linter.unusedVariables false in
def pOfWord_R (p0_0 : List Int) (p0_1 : List Int) (p0_2 : Int) (p0_3 : Int) (p0_4 : Int) (p0_5 : Int) (p0_6 : Int) (p0_7 : Int) (p0_8 : Int) (p0_9 : Bool) (p0_10 : Bool) (p0_11 : Bool) (p1 : Int) (g0 : Nat) (A0_0 : Option Addr) (c0_0 : Nat) (A0_1 : Option Addr) (c0_1 : Nat) (r : Bool) (w0 : World) (v : Value) (w : World) : Prop := v = .bool r ∧ St (foots [plE g0 A0_0 c0_0 A0_1 c0_1 p0_0 p0_1 p0_2 p0_3 p0_4 p0_5 p0_6 p0_7 p0_8 p0_9 p0_10 p0_11]) w0 w [plE g0 A0_0 c0_0 A0_1 c0_1 p0_0 p0_1 p0_2 p0_3 p0_4 p0_5 p0_6 p0_7 p0_8 p0_9 p0_10 p0_11]
set_option maxRecDepth 100000 in
set_option maxHeartbeats 4000000 in
theorem pOfWord_ok (N : Nat) (p0_0 : List Int) (p0_1 : List Int) (p0_2 : Int) (p0_3 : Int) (p0_4 : Int) (p0_5 : Int) (p0_6 : Int) (p0_7 : Int) (p0_8 : Int) (p0_9 : Bool) (p0_10 : Bool) (p0_11 : Bool) (p1 : Int) (g0 : Nat) (A0_0 : Option Addr) (c0_0 : Nat) (A0_1 : Option Addr) (c0_1 : Nat) (r : Bool) (hF : pOfWord N p0_0 p0_1 p0_2 p0_3 p0_4 p0_5 p0_6 p0_7 p0_8 p0_9 p0_10 p0_11 p1 = some r) (w0 : World) (hv0_0 : Vw (foots [plE g0 A0_0 c0_0 A0_1 c0_1 p0_0 p0_1 p0_2 p0_3 p0_4 p0_5 p0_6 p0_7 p0_8 p0_9 p0_10 p0_11]) .i32 w0 A0_0 c0_0 p0_0) (hv0_1 : Vw (foots [plE g0 A0_0 c0_0 A0_1 c0_1 p0_0 p0_1 p0_2 p0_3 p0_4 p0_5 p0_6 p0_7 p0_8 p0_9 p0_10 p0_11]) .u8 w0 A0_1 c0_1 p0_1) (hl : St (foots [plE g0 A0_0 c0_0 A0_1 c0_1 p0_0 p0_1 p0_2 p0_3 p0_4 p0_5 p0_6 p0_7 p0_8 p0_9 p0_10 p0_11]) w0 w0 [plE g0 A0_0 c0_0 A0_1 c0_1 p0_0 p0_1 p0_2 p0_3 p0_4 p0_5 p0_6 p0_7 p0_8 p0_9 p0_10 p0_11]) :
  Calls Try.prog 102 #[.pointer (some ⟨g0, 0, none⟩), .int .i64 p1] w0 fun e w => ∃ v, e = .returned v ∧ pOfWord_R p0_0 p0_1 p0_2 p0_3 p0_4 p0_5 p0_6 p0_7 p0_8 p0_9 p0_10 p0_11 p1 g0 A0_0 c0_0 A0_1 c0_1 r w0 v w := by
 have hS0 := hl
 unfold pOfWord at hF
 refine calls_of Try.func102 rfl ⟨((.pointer (some ⟨g0, 0, none⟩)) :: (.int .i64 p1) :: un 11 ([])).toArray, []⟩ (by kernel_rfl) ?_
 refine gx_seq (fun K1 hK2 => ?_)
 refine gx_region ?_
 refine gx_k (.bool false) w0 ?_
 refine gx_nil ?_
 refine gx_thenN ?_
 refine hK2 _ _ ?_
 refine gx_seq (fun K3 hK4 => ?_)
 refine gx_region ?_
 refine gx_k (.pointer (some ⟨g0, 0, none⟩)) w0 (gx_k (.int .i64 p1) w0 ?_)
 have hP5 : St _ _ w0 ([plE g0 A0_0 c0_0 A0_1 c0_1 p0_0 p0_1 p0_2 p0_3 p0_4 p0_5 p0_6 p0_7 p0_8 p0_9 p0_10 p0_11] ++ []) := hS0
 obtain ⟨b7, hc6, hF⟩ := bind_in hF
 try dsimp only at hF
 refine gx_c (pLetter_R p0_0 p0_1 p0_2 p0_3 p0_4 p0_5 p0_6 p0_7 p0_8 p0_9 p0_10 p0_11 p1 g0 A0_0 c0_0 A0_1 c0_1 b7 w0) (pLetter_ok N p0_0 p0_1 p0_2 p0_3 p0_4 p0_5 p0_6 p0_7 p0_8 p0_9 p0_10 p0_11 p1 g0 A0_0 c0_0 A0_1 c0_1 _ hc6 w0 (hP5.vwA hv0_0) (hP5.vwA hv0_1) hP5.part) ?_
 rintro _ w8 ⟨rfl, hT10⟩
 have hS9 : St _ _ w8 [plE g0 A0_0 c0_0 A0_1 c0_1 p0_0 p0_1 p0_2 p0_3 p0_4 p0_5 p0_6 p0_7 p0_8 p0_9 p0_10 p0_11] := hP5.lendN _ hT10
 refine gx_k (.bool b7) w8 ?_
 cases b7 with
 | true =>
  try dsimp only at hF
  refine gx_o (gx_o (gx_o (gx_k (.bool true) w8 (gx_k (.bool true) w8 ?_))))
  refine gx_nil ?_
  refine gx_thenN ?_
  refine hK4 _ _ ?_
  refine gx_ret ?_
  obtain rfl := Option.some.inj hF
  exact gx_fin (.bool true) (by kernel_rfl) (by kernel_rfl) ⟨_, rfl, rfl, hS9⟩
 | false =>
  try dsimp only at hF
  refine gx_k (.pointer (some ⟨g0, 0, none⟩)) w8 (gx_k (.int .i64 p1) w8 ?_)
  have hP11 : St _ _ w8 ([plE g0 A0_0 c0_0 A0_1 c0_1 p0_0 p0_1 p0_2 p0_3 p0_4 p0_5 p0_6 p0_7 p0_8 p0_9 p0_10 p0_11] ++ []) := hS9
  obtain ⟨b13, hc12, hF⟩ := bind_in hF
  try dsimp only at hF
  refine gx_c (pDigit_R p0_0 p0_1 p0_2 p0_3 p0_4 p0_5 p0_6 p0_7 p0_8 p0_9 p0_10 p0_11 p1 g0 A0_0 c0_0 A0_1 c0_1 b13 w8) (pDigit_ok N p0_0 p0_1 p0_2 p0_3 p0_4 p0_5 p0_6 p0_7 p0_8 p0_9 p0_10 p0_11 p1 g0 A0_0 c0_0 A0_1 c0_1 _ hc12 w8 (hP11.vwA hv0_0) (hP11.vwA hv0_1) hP11.part) ?_
  rintro _ w14 ⟨rfl, hT16⟩
  have hS15 : St _ _ w14 [plE g0 A0_0 c0_0 A0_1 c0_1 p0_0 p0_1 p0_2 p0_3 p0_4 p0_5 p0_6 p0_7 p0_8 p0_9 p0_10 p0_11] := hP11.lendN _ hT16
  refine gx_k (.bool b13) w14 (gx_k (.bool b13) w14 ?_)
  refine gx_nil ?_
  refine gx_thenN ?_
  refine hK4 _ _ ?_
  refine gx_ret ?_
  obtain rfl := Option.some.inj hF
  exact gx_fin (.bool b13) (by kernel_rfl) (by kernel_rfl) ⟨_, rfl, rfl, hS15⟩
def pSign (N : Nat) (p0_0 : List Int) (p0_1 : List Int) (p0_2 : Int) (p0_3 : Int) (p0_4 : Int) (p0_5 : Int) (p0_6 : Int) (p0_7 : Int) (p0_8 : Int) (p0_9 : Bool) (p0_10 : Bool) (p0_11 : Bool) (p1 : Int) : Option (Bool) :=
 ((pIs N p0_0 p0_1 p0_2 p0_3 p0_4 p0_5 p0_6 p0_7 p0_8 p0_9 p0_10 p0_11 p1 ([26, 25])).bind fun b9 => some b9)
set_option linter.unusedVariables false in
def pSign_R (p0_0 : List Int) (p0_1 : List Int) (p0_2 : Int) (p0_3 : Int) (p0_4 : Int) (p0_5 : Int) (p0_6 : Int) (p0_7 : Int) (p0_8 : Int) (p0_9 : Bool) (p0_10 : Bool) (p0_11 : Bool) (p1 : Int) (g0 : Nat) (A0_0 : Option Addr) (c0_0 : Nat) (A0_1 : Option Addr) (c0_1 : Nat) (r : Bool) (w0 : World) (v : Value) (w : World) : Prop := v = .bool r ∧ St (foots [plE g0 A0_0 c0_0 A0_1 c0_1 p0_0 p0_1 p0_2 p0_3 p0_4 p0_5 p0_6 p0_7 p0_8 p0_9 p0_10 p0_11]) w0 w [plE g0 A0_0 c0_0 A0_1 c0_1 p0_0 p0_1 p0_2 p0_3 p0_4 p0_5 p0_6 p0_7 p0_8 p0_9 p0_10 p0_11]
set_option maxRecDepth 100000 in
set_option maxHeartbeats 4000000 in
theorem pSign_ok (N : Nat) (p0_0 : List Int) (p0_1 : List Int) (p0_2 : Int) (p0_3 : Int) (p0_4 : Int) (p0_5 : Int) (p0_6 : Int) (p0_7 : Int) (p0_8 : Int) (p0_9 : Bool) (p0_10 : Bool) (p0_11 : Bool) (p1 : Int) (g0 : Nat) (A0_0 : Option Addr) (c0_0 : Nat) (A0_1 : Option Addr) (c0_1 : Nat) (r : Bool) (hF : pSign N p0_0 p0_1 p0_2 p0_3 p0_4 p0_5 p0_6 p0_7 p0_8 p0_9 p0_10 p0_11 p1 = some r) (w0 : World) (hv0_0 : Vw (foots [plE g0 A0_0 c0_0 A0_1 c0_1 p0_0 p0_1 p0_2 p0_3 p0_4 p0_5 p0_6 p0_7 p0_8 p0_9 p0_10 p0_11]) .i32 w0 A0_0 c0_0 p0_0) (hv0_1 : Vw (foots [plE g0 A0_0 c0_0 A0_1 c0_1 p0_0 p0_1 p0_2 p0_3 p0_4 p0_5 p0_6 p0_7 p0_8 p0_9 p0_10 p0_11]) .u8 w0 A0_1 c0_1 p0_1) (hl : St (foots [plE g0 A0_0 c0_0 A0_1 c0_1 p0_0 p0_1 p0_2 p0_3 p0_4 p0_5 p0_6 p0_7 p0_8 p0_9 p0_10 p0_11]) w0 w0 [plE g0 A0_0 c0_0 A0_1 c0_1 p0_0 p0_1 p0_2 p0_3 p0_4 p0_5 p0_6 p0_7 p0_8 p0_9 p0_10 p0_11]) :
  Calls Try.prog 100 #[.pointer (some ⟨g0, 0, none⟩), .int .i64 p1] w0 fun e w => ∃ v, e = .returned v ∧ pSign_R p0_0 p0_1 p0_2 p0_3 p0_4 p0_5 p0_6 p0_7 p0_8 p0_9 p0_10 p0_11 p1 g0 A0_0 c0_0 A0_1 c0_1 r w0 v w := by
 have hS0 := hl
 unfold pSign at hF
 refine calls_of Try.func100 rfl ⟨((.pointer (some ⟨g0, 0, none⟩)) :: (.int .i64 p1) :: un 7 ([])).toArray, []⟩ (by kernel_rfl) ?_
 refine gx_seq (fun K1 hK2 => ?_)
 refine gx_region ?_
 refine gx_k (.bool false) w0 ?_
 refine gx_nil ?_
 refine gx_thenN ?_
 refine hK2 _ _ ?_
 refine gx_seq (fun K3 hK4 => ?_)
 refine gx_region ?_
 refine gx_k (.pointer (some ⟨g0, 0, none⟩)) w0 (gx_k (.int .i64 p1) w0 ?_)
 refine gx_r (st_made .u8 5 [26, 25] hS0 (by show 2 ≤ 1000000000; decide) (by kernel_rfl)) ?_
 rintro _ w5 ⟨rfl, hS6⟩
 have hS6 : St _ _ w5 [plE g0 A0_0 c0_0 A0_1 c0_1 p0_0 p0_1 p0_2 p0_3 p0_4 p0_5 p0_6 p0_7 p0_8 p0_9 p0_10 p0_11, rowE .u8 5 (some ⟨w0.heap.size, 0, none⟩) 2 ([26, 25])] := hS6
 have hP7 : St _ _ w5 ([plE g0 A0_0 c0_0 A0_1 c0_1 p0_0 p0_1 p0_2 p0_3 p0_4 p0_5 p0_6 p0_7 p0_8 p0_9 p0_10 p0_11] ++ [rowE .u8 5 (some ⟨w0.heap.size, 0, none⟩) 2 ([26, 25])]) := hS6
 obtain ⟨b9, hc8, hF⟩ := bind_in hF
 try dsimp only at hF
 refine gx_c (pIs_R p0_0 p0_1 p0_2 p0_3 p0_4 p0_5 p0_6 p0_7 p0_8 p0_9 p0_10 p0_11 p1 ([26, 25]) g0 A0_0 c0_0 A0_1 c0_1 (some ⟨w0.heap.size, 0, none⟩) 2 b9 w5) (pIs_ok N p0_0 p0_1 p0_2 p0_3 p0_4 p0_5 p0_6 p0_7 p0_8 p0_9 p0_10 p0_11 p1 ([26, 25]) g0 A0_0 c0_0 A0_1 c0_1 (some ⟨w0.heap.size, 0, none⟩) 2 _ hc8 w5 (hP7.vwA hv0_0) (hP7.vwA hv0_1) (hP7.vwB 0 rfl) hP7.part) ?_
 rintro _ w10 ⟨rfl, hT12⟩
 have hS11 : St _ _ w10 [rowE .u8 5 (some ⟨w0.heap.size, 0, none⟩) 2 ([26, 25]), plE g0 A0_0 c0_0 A0_1 c0_1 p0_0 p0_1 p0_2 p0_3 p0_4 p0_5 p0_6 p0_7 p0_8 p0_9 p0_10 p0_11] := hP7.lendN _ hT12
 refine gx_k (.bool b9) w10 ?_
 refine gx_nil ?_
 refine gx_thenN ?_
 refine hK4 _ _ ?_
 refine gx_ret ?_
 obtain rfl := Option.some.inj hF
 exact gx_fin (.bool b9) (by kernel_rfl) (by kernel_rfl) ⟨_, rfl, rfl, (hS11.pick [1] rfl rfl)⟩
def pPict (N : Nat) (p0_0 : List Int) (p0_1 : List Int) (p0_2 : Int) (p0_3 : Int) (p0_4 : Int) (p0_5 : Int) (p0_6 : Int) (p0_7 : Int) (p0_8 : Int) (p0_9 : Bool) (p0_10 : Bool) (p0_11 : Bool) (p1 : Int) : Option (Bool) :=
 ((pIs N p0_0 p0_1 p0_2 p0_3 p0_4 p0_5 p0_6 p0_7 p0_8 p0_9 p0_10 p0_11 p1 ([29, 30, 31])).bind fun b9 => some b9)
set_option linter.unusedVariables false in
def pPict_R (p0_0 : List Int) (p0_1 : List Int) (p0_2 : Int) (p0_3 : Int) (p0_4 : Int) (p0_5 : Int) (p0_6 : Int) (p0_7 : Int) (p0_8 : Int) (p0_9 : Bool) (p0_10 : Bool) (p0_11 : Bool) (p1 : Int) (g0 : Nat) (A0_0 : Option Addr) (c0_0 : Nat) (A0_1 : Option Addr) (c0_1 : Nat) (r : Bool) (w0 : World) (v : Value) (w : World) : Prop := v = .bool r ∧ St (foots [plE g0 A0_0 c0_0 A0_1 c0_1 p0_0 p0_1 p0_2 p0_3 p0_4 p0_5 p0_6 p0_7 p0_8 p0_9 p0_10 p0_11]) w0 w [plE g0 A0_0 c0_0 A0_1 c0_1 p0_0 p0_1 p0_2 p0_3 p0_4 p0_5 p0_6 p0_7 p0_8 p0_9 p0_10 p0_11]
set_option maxRecDepth 100000 in
set_option maxHeartbeats 4000000 in
theorem pPict_ok (N : Nat) (p0_0 : List Int) (p0_1 : List Int) (p0_2 : Int) (p0_3 : Int) (p0_4 : Int) (p0_5 : Int) (p0_6 : Int) (p0_7 : Int) (p0_8 : Int) (p0_9 : Bool) (p0_10 : Bool) (p0_11 : Bool) (p1 : Int) (g0 : Nat) (A0_0 : Option Addr) (c0_0 : Nat) (A0_1 : Option Addr) (c0_1 : Nat) (r : Bool) (hF : pPict N p0_0 p0_1 p0_2 p0_3 p0_4 p0_5 p0_6 p0_7 p0_8 p0_9 p0_10 p0_11 p1 = some r) (w0 : World) (hv0_0 : Vw (foots [plE g0 A0_0 c0_0 A0_1 c0_1 p0_0 p0_1 p0_2 p0_3 p0_4 p0_5 p0_6 p0_7 p0_8 p0_9 p0_10 p0_11]) .i32 w0 A0_0 c0_0 p0_0) (hv0_1 : Vw (foots [plE g0 A0_0 c0_0 A0_1 c0_1 p0_0 p0_1 p0_2 p0_3 p0_4 p0_5 p0_6 p0_7 p0_8 p0_9 p0_10 p0_11]) .u8 w0 A0_1 c0_1 p0_1) (hl : St (foots [plE g0 A0_0 c0_0 A0_1 c0_1 p0_0 p0_1 p0_2 p0_3 p0_4 p0_5 p0_6 p0_7 p0_8 p0_9 p0_10 p0_11]) w0 w0 [plE g0 A0_0 c0_0 A0_1 c0_1 p0_0 p0_1 p0_2 p0_3 p0_4 p0_5 p0_6 p0_7 p0_8 p0_9 p0_10 p0_11]) :
  Calls Try.prog 99 #[.pointer (some ⟨g0, 0, none⟩), .int .i64 p1] w0 fun e w => ∃ v, e = .returned v ∧ pPict_R p0_0 p0_1 p0_2 p0_3 p0_4 p0_5 p0_6 p0_7 p0_8 p0_9 p0_10 p0_11 p1 g0 A0_0 c0_0 A0_1 c0_1 r w0 v w := by
 have hS0 := hl
 unfold pPict at hF
 refine calls_of Try.func99 rfl ⟨((.pointer (some ⟨g0, 0, none⟩)) :: (.int .i64 p1) :: un 7 ([])).toArray, []⟩ (by kernel_rfl) ?_
 refine gx_seq (fun K1 hK2 => ?_)
 refine gx_region ?_
 refine gx_k (.bool false) w0 ?_
 refine gx_nil ?_
 refine gx_thenN ?_
 refine hK2 _ _ ?_
 refine gx_seq (fun K3 hK4 => ?_)
 refine gx_region ?_
 refine gx_k (.pointer (some ⟨g0, 0, none⟩)) w0 (gx_k (.int .i64 p1) w0 ?_)
 refine gx_r (st_made .u8 5 [29, 30, 31] hS0 (by show 3 ≤ 1000000000; decide) (by kernel_rfl)) ?_
 rintro _ w5 ⟨rfl, hS6⟩
 have hS6 : St _ _ w5 [plE g0 A0_0 c0_0 A0_1 c0_1 p0_0 p0_1 p0_2 p0_3 p0_4 p0_5 p0_6 p0_7 p0_8 p0_9 p0_10 p0_11, rowE .u8 5 (some ⟨w0.heap.size, 0, none⟩) 3 ([29, 30, 31])] := hS6
 have hP7 : St _ _ w5 ([plE g0 A0_0 c0_0 A0_1 c0_1 p0_0 p0_1 p0_2 p0_3 p0_4 p0_5 p0_6 p0_7 p0_8 p0_9 p0_10 p0_11] ++ [rowE .u8 5 (some ⟨w0.heap.size, 0, none⟩) 3 ([29, 30, 31])]) := hS6
 obtain ⟨b9, hc8, hF⟩ := bind_in hF
 try dsimp only at hF
 refine gx_c (pIs_R p0_0 p0_1 p0_2 p0_3 p0_4 p0_5 p0_6 p0_7 p0_8 p0_9 p0_10 p0_11 p1 ([29, 30, 31]) g0 A0_0 c0_0 A0_1 c0_1 (some ⟨w0.heap.size, 0, none⟩) 3 b9 w5) (pIs_ok N p0_0 p0_1 p0_2 p0_3 p0_4 p0_5 p0_6 p0_7 p0_8 p0_9 p0_10 p0_11 p1 ([29, 30, 31]) g0 A0_0 c0_0 A0_1 c0_1 (some ⟨w0.heap.size, 0, none⟩) 3 _ hc8 w5 (hP7.vwA hv0_0) (hP7.vwA hv0_1) (hP7.vwB 0 rfl) hP7.part) ?_
 rintro _ w10 ⟨rfl, hT12⟩
 have hS11 : St _ _ w10 [rowE .u8 5 (some ⟨w0.heap.size, 0, none⟩) 3 ([29, 30, 31]), plE g0 A0_0 c0_0 A0_1 c0_1 p0_0 p0_1 p0_2 p0_3 p0_4 p0_5 p0_6 p0_7 p0_8 p0_9 p0_10 p0_11] := hP7.lendN _ hT12
 refine gx_k (.bool b9) w10 ?_
 refine gx_nil ?_
 refine gx_thenN ?_
 refine hK4 _ _ ?_
 refine gx_ret ?_
 obtain rfl := Option.some.inj hF
 exact gx_fin (.bool b9) (by kernel_rfl) (by kernel_rfl) ⟨_, rfl, rfl, (hS11.pick [1] rfl rfl)⟩
def pSyl (N : Nat) (p0_0 : List Int) (p0_1 : List Int) (p0_2 : Int) (p0_3 : Int) (p0_4 : Int) (p0_5 : Int) (p0_6 : Int) (p0_7 : Int) (p0_8 : Int) (p0_9 : Bool) (p0_10 : Bool) (p0_11 : Bool) (p1 : Int) : Option (Bool) :=
 ((pIs N p0_0 p0_1 p0_2 p0_3 p0_4 p0_5 p0_6 p0_7 p0_8 p0_9 p0_10 p0_11 p1 ([33, 34, 35, 36, 37])).bind fun b9 => some b9)
set_option linter.unusedVariables false in
def pSyl_R (p0_0 : List Int) (p0_1 : List Int) (p0_2 : Int) (p0_3 : Int) (p0_4 : Int) (p0_5 : Int) (p0_6 : Int) (p0_7 : Int) (p0_8 : Int) (p0_9 : Bool) (p0_10 : Bool) (p0_11 : Bool) (p1 : Int) (g0 : Nat) (A0_0 : Option Addr) (c0_0 : Nat) (A0_1 : Option Addr) (c0_1 : Nat) (r : Bool) (w0 : World) (v : Value) (w : World) : Prop := v = .bool r ∧ St (foots [plE g0 A0_0 c0_0 A0_1 c0_1 p0_0 p0_1 p0_2 p0_3 p0_4 p0_5 p0_6 p0_7 p0_8 p0_9 p0_10 p0_11]) w0 w [plE g0 A0_0 c0_0 A0_1 c0_1 p0_0 p0_1 p0_2 p0_3 p0_4 p0_5 p0_6 p0_7 p0_8 p0_9 p0_10 p0_11]
set_option maxRecDepth 100000 in
set_option maxHeartbeats 4000000 in
theorem pSyl_ok (N : Nat) (p0_0 : List Int) (p0_1 : List Int) (p0_2 : Int) (p0_3 : Int) (p0_4 : Int) (p0_5 : Int) (p0_6 : Int) (p0_7 : Int) (p0_8 : Int) (p0_9 : Bool) (p0_10 : Bool) (p0_11 : Bool) (p1 : Int) (g0 : Nat) (A0_0 : Option Addr) (c0_0 : Nat) (A0_1 : Option Addr) (c0_1 : Nat) (r : Bool) (hF : pSyl N p0_0 p0_1 p0_2 p0_3 p0_4 p0_5 p0_6 p0_7 p0_8 p0_9 p0_10 p0_11 p1 = some r) (w0 : World) (hv0_0 : Vw (foots [plE g0 A0_0 c0_0 A0_1 c0_1 p0_0 p0_1 p0_2 p0_3 p0_4 p0_5 p0_6 p0_7 p0_8 p0_9 p0_10 p0_11]) .i32 w0 A0_0 c0_0 p0_0) (hv0_1 : Vw (foots [plE g0 A0_0 c0_0 A0_1 c0_1 p0_0 p0_1 p0_2 p0_3 p0_4 p0_5 p0_6 p0_7 p0_8 p0_9 p0_10 p0_11]) .u8 w0 A0_1 c0_1 p0_1) (hl : St (foots [plE g0 A0_0 c0_0 A0_1 c0_1 p0_0 p0_1 p0_2 p0_3 p0_4 p0_5 p0_6 p0_7 p0_8 p0_9 p0_10 p0_11]) w0 w0 [plE g0 A0_0 c0_0 A0_1 c0_1 p0_0 p0_1 p0_2 p0_3 p0_4 p0_5 p0_6 p0_7 p0_8 p0_9 p0_10 p0_11]) :
  Calls Try.prog 101 #[.pointer (some ⟨g0, 0, none⟩), .int .i64 p1] w0 fun e w => ∃ v, e = .returned v ∧ pSyl_R p0_0 p0_1 p0_2 p0_3 p0_4 p0_5 p0_6 p0_7 p0_8 p0_9 p0_10 p0_11 p1 g0 A0_0 c0_0 A0_1 c0_1 r w0 v w := by
 have hS0 := hl
 unfold pSyl at hF
 refine calls_of Try.func101 rfl ⟨((.pointer (some ⟨g0, 0, none⟩)) :: (.int .i64 p1) :: un 7 ([])).toArray, []⟩ (by kernel_rfl) ?_
 refine gx_seq (fun K1 hK2 => ?_)
 refine gx_region ?_
 refine gx_k (.bool false) w0 ?_
 refine gx_nil ?_
 refine gx_thenN ?_
 refine hK2 _ _ ?_
 refine gx_seq (fun K3 hK4 => ?_)
 refine gx_region ?_
 refine gx_k (.pointer (some ⟨g0, 0, none⟩)) w0 (gx_k (.int .i64 p1) w0 ?_)
 refine gx_r (st_made .u8 5 [33, 34, 35, 36, 37] hS0 (by show 5 ≤ 1000000000; decide) (by kernel_rfl)) ?_
 rintro _ w5 ⟨rfl, hS6⟩
 have hS6 : St _ _ w5 [plE g0 A0_0 c0_0 A0_1 c0_1 p0_0 p0_1 p0_2 p0_3 p0_4 p0_5 p0_6 p0_7 p0_8 p0_9 p0_10 p0_11, rowE .u8 5 (some ⟨w0.heap.size, 0, none⟩) 5 ([33, 34, 35, 36, 37])] := hS6
 have hP7 : St _ _ w5 ([plE g0 A0_0 c0_0 A0_1 c0_1 p0_0 p0_1 p0_2 p0_3 p0_4 p0_5 p0_6 p0_7 p0_8 p0_9 p0_10 p0_11] ++ [rowE .u8 5 (some ⟨w0.heap.size, 0, none⟩) 5 ([33, 34, 35, 36, 37])]) := hS6
 obtain ⟨b9, hc8, hF⟩ := bind_in hF
 try dsimp only at hF
 refine gx_c (pIs_R p0_0 p0_1 p0_2 p0_3 p0_4 p0_5 p0_6 p0_7 p0_8 p0_9 p0_10 p0_11 p1 ([33, 34, 35, 36, 37]) g0 A0_0 c0_0 A0_1 c0_1 (some ⟨w0.heap.size, 0, none⟩) 5 b9 w5) (pIs_ok N p0_0 p0_1 p0_2 p0_3 p0_4 p0_5 p0_6 p0_7 p0_8 p0_9 p0_10 p0_11 p1 ([33, 34, 35, 36, 37]) g0 A0_0 c0_0 A0_1 c0_1 (some ⟨w0.heap.size, 0, none⟩) 5 _ hc8 w5 (hP7.vwA hv0_0) (hP7.vwA hv0_1) (hP7.vwB 0 rfl) hP7.part) ?_
 rintro _ w10 ⟨rfl, hT12⟩
 have hS11 : St _ _ w10 [rowE .u8 5 (some ⟨w0.heap.size, 0, none⟩) 5 ([33, 34, 35, 36, 37]), plE g0 A0_0 c0_0 A0_1 c0_1 p0_0 p0_1 p0_2 p0_3 p0_4 p0_5 p0_6 p0_7 p0_8 p0_9 p0_10 p0_11] := hP7.lendN _ hT12
 refine gx_k (.bool b9) w10 ?_
 refine gx_nil ?_
 refine gx_thenN ?_
 refine hK4 _ _ ?_
 refine gx_ret ?_
 obtain rfl := Option.some.inj hF
 exact gx_fin (.bool b9) (by kernel_rfl) (by kernel_rfl) ⟨_, rfl, rfl, (hS11.pick [1] rfl rfl)⟩
def pEdge (N : Nat) (p0_0 : List Int) (p0_1 : List Int) (p0_2 : Int) (p0_3 : Int) (p0_4 : Int) (p0_5 : Int) (p0_6 : Int) (p0_7 : Int) (p0_8 : Int) (p0_9 : Bool) (p0_10 : Bool) (p0_11 : Bool) (p1 : Int) : Option (Bool) :=
 ((pIs N p0_0 p0_1 p0_2 p0_3 p0_4 p0_5 p0_6 p0_7 p0_8 p0_9 p0_10 p0_11 p1 ([38, 1, 2, 3, 4, 5, 6, 8])).bind fun b9 => some b9)
set_option linter.unusedVariables false in
def pEdge_R (p0_0 : List Int) (p0_1 : List Int) (p0_2 : Int) (p0_3 : Int) (p0_4 : Int) (p0_5 : Int) (p0_6 : Int) (p0_7 : Int) (p0_8 : Int) (p0_9 : Bool) (p0_10 : Bool) (p0_11 : Bool) (p1 : Int) (g0 : Nat) (A0_0 : Option Addr) (c0_0 : Nat) (A0_1 : Option Addr) (c0_1 : Nat) (r : Bool) (w0 : World) (v : Value) (w : World) : Prop := v = .bool r ∧ St (foots [plE g0 A0_0 c0_0 A0_1 c0_1 p0_0 p0_1 p0_2 p0_3 p0_4 p0_5 p0_6 p0_7 p0_8 p0_9 p0_10 p0_11]) w0 w [plE g0 A0_0 c0_0 A0_1 c0_1 p0_0 p0_1 p0_2 p0_3 p0_4 p0_5 p0_6 p0_7 p0_8 p0_9 p0_10 p0_11]
set_option maxRecDepth 100000 in
set_option maxHeartbeats 4000000 in
theorem pEdge_ok (N : Nat) (p0_0 : List Int) (p0_1 : List Int) (p0_2 : Int) (p0_3 : Int) (p0_4 : Int) (p0_5 : Int) (p0_6 : Int) (p0_7 : Int) (p0_8 : Int) (p0_9 : Bool) (p0_10 : Bool) (p0_11 : Bool) (p1 : Int) (g0 : Nat) (A0_0 : Option Addr) (c0_0 : Nat) (A0_1 : Option Addr) (c0_1 : Nat) (r : Bool) (hF : pEdge N p0_0 p0_1 p0_2 p0_3 p0_4 p0_5 p0_6 p0_7 p0_8 p0_9 p0_10 p0_11 p1 = some r) (w0 : World) (hv0_0 : Vw (foots [plE g0 A0_0 c0_0 A0_1 c0_1 p0_0 p0_1 p0_2 p0_3 p0_4 p0_5 p0_6 p0_7 p0_8 p0_9 p0_10 p0_11]) .i32 w0 A0_0 c0_0 p0_0) (hv0_1 : Vw (foots [plE g0 A0_0 c0_0 A0_1 c0_1 p0_0 p0_1 p0_2 p0_3 p0_4 p0_5 p0_6 p0_7 p0_8 p0_9 p0_10 p0_11]) .u8 w0 A0_1 c0_1 p0_1) (hl : St (foots [plE g0 A0_0 c0_0 A0_1 c0_1 p0_0 p0_1 p0_2 p0_3 p0_4 p0_5 p0_6 p0_7 p0_8 p0_9 p0_10 p0_11]) w0 w0 [plE g0 A0_0 c0_0 A0_1 c0_1 p0_0 p0_1 p0_2 p0_3 p0_4 p0_5 p0_6 p0_7 p0_8 p0_9 p0_10 p0_11]) :
  Calls Try.prog 93 #[.pointer (some ⟨g0, 0, none⟩), .int .i64 p1] w0 fun e w => ∃ v, e = .returned v ∧ pEdge_R p0_0 p0_1 p0_2 p0_3 p0_4 p0_5 p0_6 p0_7 p0_8 p0_9 p0_10 p0_11 p1 g0 A0_0 c0_0 A0_1 c0_1 r w0 v w := by
 have hS0 := hl
 unfold pEdge at hF
 refine calls_of Try.func93 rfl ⟨((.pointer (some ⟨g0, 0, none⟩)) :: (.int .i64 p1) :: un 7 ([])).toArray, []⟩ (by kernel_rfl) ?_
 refine gx_seq (fun K1 hK2 => ?_)
 refine gx_region ?_
 refine gx_k (.bool false) w0 ?_
 refine gx_nil ?_
 refine gx_thenN ?_
 refine hK2 _ _ ?_
 refine gx_seq (fun K3 hK4 => ?_)
 refine gx_region ?_
 refine gx_k (.pointer (some ⟨g0, 0, none⟩)) w0 (gx_k (.int .i64 p1) w0 ?_)
 refine gx_r (st_made .u8 5 [38, 1, 2, 3, 4, 5, 6, 8] hS0 (by show 8 ≤ 1000000000; decide) (by kernel_rfl)) ?_
 rintro _ w5 ⟨rfl, hS6⟩
 have hS6 : St _ _ w5 [plE g0 A0_0 c0_0 A0_1 c0_1 p0_0 p0_1 p0_2 p0_3 p0_4 p0_5 p0_6 p0_7 p0_8 p0_9 p0_10 p0_11, rowE .u8 5 (some ⟨w0.heap.size, 0, none⟩) 8 ([38, 1, 2, 3, 4, 5, 6, 8])] := hS6
 have hP7 : St _ _ w5 ([plE g0 A0_0 c0_0 A0_1 c0_1 p0_0 p0_1 p0_2 p0_3 p0_4 p0_5 p0_6 p0_7 p0_8 p0_9 p0_10 p0_11] ++ [rowE .u8 5 (some ⟨w0.heap.size, 0, none⟩) 8 ([38, 1, 2, 3, 4, 5, 6, 8])]) := hS6
 obtain ⟨b9, hc8, hF⟩ := bind_in hF
 try dsimp only at hF
 refine gx_c (pIs_R p0_0 p0_1 p0_2 p0_3 p0_4 p0_5 p0_6 p0_7 p0_8 p0_9 p0_10 p0_11 p1 ([38, 1, 2, 3, 4, 5, 6, 8]) g0 A0_0 c0_0 A0_1 c0_1 (some ⟨w0.heap.size, 0, none⟩) 8 b9 w5) (pIs_ok N p0_0 p0_1 p0_2 p0_3 p0_4 p0_5 p0_6 p0_7 p0_8 p0_9 p0_10 p0_11 p1 ([38, 1, 2, 3, 4, 5, 6, 8]) g0 A0_0 c0_0 A0_1 c0_1 (some ⟨w0.heap.size, 0, none⟩) 8 _ hc8 w5 (hP7.vwA hv0_0) (hP7.vwA hv0_1) (hP7.vwB 0 rfl) hP7.part) ?_
 rintro _ w10 ⟨rfl, hT12⟩
 have hS11 : St _ _ w10 [rowE .u8 5 (some ⟨w0.heap.size, 0, none⟩) 8 ([38, 1, 2, 3, 4, 5, 6, 8]), plE g0 A0_0 c0_0 A0_1 c0_1 p0_0 p0_1 p0_2 p0_3 p0_4 p0_5 p0_6 p0_7 p0_8 p0_9 p0_10 p0_11] := hP7.lendN _ hT12
 refine gx_k (.bool b9) w10 ?_
 refine gx_nil ?_
 refine gx_thenN ?_
 refine hK4 _ _ ?_
 refine gx_ret ?_
 obtain rfl := Option.some.inj hF
 exact gx_fin (.bool b9) (by kernel_rfl) (by kernel_rfl) ⟨_, rfl, rfl, (hS11.pick [1] rfl rfl)⟩
def pQuotes_L1 (N : Nat) (p0_0 : List Int) (p1 : Int) : Nat → (List Int) → Option (Ctl (Unit) (Bool))
 | 0, _ => none
 | k29+1, m28 => (match m28 with | [] => some (Ctl.go ()) | x33 :: l34 => ((ix p0_0 p1).bind fun x48 => (if x48 = x33 then some (Ctl.ret true) else pQuotes_L1 N p0_0 p1 k29 l34)))
def pQuotes (N : Nat) (p0_0 : List Int) (p0_1 : List Int) (p0_2 : Int) (p0_3 : Int) (p0_4 : Int) (p0_5 : Int) (p0_6 : Int) (p0_7 : Int) (p0_8 : Int) (p0_9 : Bool) (p0_10 : Bool) (p0_11 : Bool) (p1 : Int) (p2 : ByteArray) : Option (Bool) :=
 ((pIs N p0_0 p0_1 p0_2 p0_3 p0_4 p0_5 p0_6 p0_7 p0_8 p0_9 p0_10 p0_11 p1 ([22])).bind fun b11 => (match b11 with | true => ((pQuotes_L1 N p0_0 p1 N (runesL p2 p2.size 0) : Option (Ctl (Unit) (Bool))).bind fun | Ctl.go () => some false | Ctl.ret r => some r) | false => some false))
set_option linter.unusedVariables false in
def pQuotes_R (p0_0 : List Int) (p0_1 : List Int) (p0_2 : Int) (p0_3 : Int) (p0_4 : Int) (p0_5 : Int) (p0_6 : Int) (p0_7 : Int) (p0_8 : Int) (p0_9 : Bool) (p0_10 : Bool) (p0_11 : Bool) (p1 : Int) (p2 : ByteArray) (g0 : Nat) (A0_0 : Option Addr) (c0_0 : Nat) (A0_1 : Option Addr) (c0_1 : Nat) (r : Bool) (w0 : World) (v : Value) (w : World) : Prop := v = .bool r ∧ St (foots [plE g0 A0_0 c0_0 A0_1 c0_1 p0_0 p0_1 p0_2 p0_3 p0_4 p0_5 p0_6 p0_7 p0_8 p0_9 p0_10 p0_11]) w0 w [plE g0 A0_0 c0_0 A0_1 c0_1 p0_0 p0_1 p0_2 p0_3 p0_4 p0_5 p0_6 p0_7 p0_8 p0_9 p0_10 p0_11]
set_option maxRecDepth 100000 in
set_option maxHeartbeats 4000000 in
theorem pQuotes_ok (N : Nat) (p0_0 : List Int) (p0_1 : List Int) (p0_2 : Int) (p0_3 : Int) (p0_4 : Int) (p0_5 : Int) (p0_6 : Int) (p0_7 : Int) (p0_8 : Int) (p0_9 : Bool) (p0_10 : Bool) (p0_11 : Bool) (p1 : Int) (p2 : ByteArray) (g0 : Nat) (A0_0 : Option Addr) (c0_0 : Nat) (A0_1 : Option Addr) (c0_1 : Nat) (r : Bool) (hF : pQuotes N p0_0 p0_1 p0_2 p0_3 p0_4 p0_5 p0_6 p0_7 p0_8 p0_9 p0_10 p0_11 p1 p2 = some r) (w0 : World) (hv0_0 : Vw (foots [plE g0 A0_0 c0_0 A0_1 c0_1 p0_0 p0_1 p0_2 p0_3 p0_4 p0_5 p0_6 p0_7 p0_8 p0_9 p0_10 p0_11]) .i32 w0 A0_0 c0_0 p0_0) (hv0_1 : Vw (foots [plE g0 A0_0 c0_0 A0_1 c0_1 p0_0 p0_1 p0_2 p0_3 p0_4 p0_5 p0_6 p0_7 p0_8 p0_9 p0_10 p0_11]) .u8 w0 A0_1 c0_1 p0_1) (hl : St (foots [plE g0 A0_0 c0_0 A0_1 c0_1 p0_0 p0_1 p0_2 p0_3 p0_4 p0_5 p0_6 p0_7 p0_8 p0_9 p0_10 p0_11]) w0 w0 [plE g0 A0_0 c0_0 A0_1 c0_1 p0_0 p0_1 p0_2 p0_3 p0_4 p0_5 p0_6 p0_7 p0_8 p0_9 p0_10 p0_11]) :
  Calls Try.prog 106 #[.pointer (some ⟨g0, 0, none⟩), .int .i64 p1, .string p2] w0 fun e w => ∃ v, e = .returned v ∧ pQuotes_R p0_0 p0_1 p0_2 p0_3 p0_4 p0_5 p0_6 p0_7 p0_8 p0_9 p0_10 p0_11 p1 p2 g0 A0_0 c0_0 A0_1 c0_1 r w0 v w := by
 have hS0 := hl
 unfold pQuotes at hF
 refine calls_of Try.func106 rfl ⟨((.pointer (some ⟨g0, 0, none⟩)) :: (.int .i64 p1) :: (.string p2) :: un 25 ([])).toArray, []⟩ (by kernel_rfl) ?_
 refine gx_seq (fun K1 hK2 => ?_)
 refine gx_region ?_
 refine gx_k (.bool false) w0 ?_
 refine gx_nil ?_
 refine gx_thenN ?_
 refine hK2 _ _ ?_
 refine gx_seq (fun K3 hK4 => ?_)
 refine gx_seq (fun K5 hK6 => ?_)
 refine gx_region ?_
 refine gx_k (.pointer (some ⟨g0, 0, none⟩)) w0 (gx_k (.int .i64 p1) w0 ?_)
 refine gx_r (st_made .u8 5 [22] hS0 (by show 1 ≤ 1000000000; decide) (by kernel_rfl)) ?_
 rintro _ w7 ⟨rfl, hS8⟩
 have hS8 : St _ _ w7 [plE g0 A0_0 c0_0 A0_1 c0_1 p0_0 p0_1 p0_2 p0_3 p0_4 p0_5 p0_6 p0_7 p0_8 p0_9 p0_10 p0_11, rowE .u8 5 (some ⟨w0.heap.size, 0, none⟩) 1 ([22])] := hS8
 have hP9 : St _ _ w7 ([plE g0 A0_0 c0_0 A0_1 c0_1 p0_0 p0_1 p0_2 p0_3 p0_4 p0_5 p0_6 p0_7 p0_8 p0_9 p0_10 p0_11] ++ [rowE .u8 5 (some ⟨w0.heap.size, 0, none⟩) 1 ([22])]) := hS8
 obtain ⟨b11, hc10, hF⟩ := bind_in hF
 try dsimp only at hF
 refine gx_c (pIs_R p0_0 p0_1 p0_2 p0_3 p0_4 p0_5 p0_6 p0_7 p0_8 p0_9 p0_10 p0_11 p1 ([22]) g0 A0_0 c0_0 A0_1 c0_1 (some ⟨w0.heap.size, 0, none⟩) 1 b11 w7) (pIs_ok N p0_0 p0_1 p0_2 p0_3 p0_4 p0_5 p0_6 p0_7 p0_8 p0_9 p0_10 p0_11 p1 ([22]) g0 A0_0 c0_0 A0_1 c0_1 (some ⟨w0.heap.size, 0, none⟩) 1 _ hc10 w7 (hP9.vwA hv0_0) (hP9.vwA hv0_1) (hP9.vwB 0 rfl) hP9.part) ?_
 rintro _ w12 ⟨rfl, hT14⟩
 have hS13 : St _ _ w12 [rowE .u8 5 (some ⟨w0.heap.size, 0, none⟩) 1 ([22]), plE g0 A0_0 c0_0 A0_1 c0_1 p0_0 p0_1 p0_2 p0_3 p0_4 p0_5 p0_6 p0_7 p0_8 p0_9 p0_10 p0_11] := hP9.lendN _ hT14
 cases b11 with
 | true =>
  try dsimp only at hF
  refine gx_k (.bool false) w12 ?_
  refine gx_nil ?_
  refine gx_thenN ?_
  refine hK6 _ _ ?_
  refine gx_no (by kernel_rfl) ?_
  refine gx_pass ?_
  refine gx_thenN ?_
  refine hK4 _ _ ?_
  obtain ⟨c18, hE19, hO20⟩ := bind_in hF
  refine gx_cut (fun a w => selfA (fun u17 => ⟨((.pointer (some ⟨g0, 0, none⟩)) :: (.int .i64 p1) :: (.string p2) :: un 3 ((u17 6) :: undef :: (u17 8) :: (.pointer (some ⟨g0, 0, none⟩)) :: (.int .i64 p1) :: (u17 11) :: (.bool true) :: (.bool false) :: dd u17 14 14 ([]))).toArray, []⟩) a ∧ Ctl.go () = c18 ∧ St (foots [plE g0 A0_0 c0_0 A0_1 c0_1 p0_0 p0_1 p0_2 p0_3 p0_4 p0_5 p0_6 p0_7 p0_8 p0_9 p0_10 p0_11]) w0 w [plE g0 A0_0 c0_0 A0_1 c0_1 p0_0 p0_1 p0_2 p0_3 p0_4 p0_5 p0_6 p0_7 p0_8 p0_9 p0_10 p0_11]) ?_ ?_
  ·refine gx_seq (fun K21 hK22 => ?_)
   refine gx_region ?_
   refine gx_k (.string p2) w12 ?_
   refine gx_r (st_range (s := p2) rfl (by kernel_rfl) (by kernel_rfl) hS13) ?_
   rintro _ w23 ⟨rfl, hS24⟩
   have hS24 : St _ _ w23 [rowE .u8 5 (some ⟨w0.heap.size, 0, none⟩) 1 ([22]), plE g0 A0_0 c0_0 A0_1 c0_1 p0_0 p0_1 p0_2 p0_3 p0_4 p0_5 p0_6 p0_7 p0_8 p0_9 p0_10 p0_11, itE w12.heap.size (runesL p2 p2.size 0)] := hS24
   refine gx_nil ?_
   refine gx_thenN ?_
   refine hK22 _ _ ?_
   refine gx_block ?_
   refine gx_loop (fun k a w => ∃ (m28 : List Int), selfA (fun u27 => ⟨((.pointer (some ⟨g0, 0, none⟩)) :: (.int .i64 p1) :: (.string p2) :: un 3 ((u27 6) :: undef :: (u27 8) :: (.pointer (some ⟨g0, 0, none⟩)) :: (.int .i64 p1) :: (u27 11) :: (.bool true) :: (.bool false) :: (.string p2) :: (.pointer (some ⟨w12.heap.size, 0, none⟩)) :: dd u27 16 12 ([]))).toArray, []⟩) a ∧ pQuotes_L1 N p0_0 p1 k m28 = some c18 ∧ St (foots [plE g0 A0_0 c0_0 A0_1 c0_1 p0_0 p0_1 p0_2 p0_3 p0_4 p0_5 p0_6 p0_7 p0_8 p0_9 p0_10 p0_11]) w0 w [plE g0 A0_0 c0_0 A0_1 c0_1 p0_0 p0_1 p0_2 p0_3 p0_4 p0_5 p0_6 p0_7 p0_8 p0_9 p0_10 p0_11, itE w12.heap.size m28]) N ?_ ?_
   ·exact ⟨(runesL p2 p2.size 0), selfA_i (by kernel_rfl), hE19, (hS24.pick [1, 2] rfl rfl)⟩
   ·rintro k29 _ w25 ⟨m28, hq53, hL30, hS26⟩
    obtain ⟨u27, rfl⟩ := selfA_u hq53
    cases k29 with
    | zero => cases hL30
    | succ k29 =>
     first | rw [pQuotes_L1] at hL30 | unfold pQuotes_L1 at hL30
     refine gx_seq (fun K31 hK32 => ?_)
     refine gx_region ?_
     rcases m28 with _ | ⟨x33, l34⟩
     ·try dsimp only at hL30
      refine gx_v (.tuple #[.bool false]) w25 (run_nextend rfl (by kernel_rfl) (hS26.get 1 rfl)) ?_
      refine gx_k (.bool false) w25 ?_
      refine gx_nil ?_
      refine gx_thenN ?_
      refine hK32 _ _ ?_
      refine gx_seq (fun K40 hK41 => ?_)
      refine gx_no (by kernel_rfl) ?_
      refine gx_exit ?_
      refine gx_thenE ?_
      refine gx_thenE ?_
      refine gx_blkE ?_
      refine gx_thenN ?_
      exact ⟨selfA_i (by kernel_rfl), (Option.some.inj hL30), (hS26.pick [0] rfl rfl)⟩
     ·try dsimp only at hL30
      refine gx_r (st_next rfl (by kernel_rfl) (hS26) 1 rfl) ?_
      rintro _ w36 ⟨q35, rfl, hS37⟩
      have hS37 : St _ _ w36 [plE g0 A0_0 c0_0 A0_1 c0_1 p0_0 p0_1 p0_2 p0_3 p0_4 p0_5 p0_6 p0_7 p0_8 p0_9 p0_10 p0_11, itE w12.heap.size l34] := hS37
      refine gx_k (.bool true) w36 ?_
      refine gx_nil ?_
      refine gx_thenN ?_
      refine hK32 _ _ ?_
      refine gx_seq (fun K42 hK43 => ?_)
      refine gx_yes (by kernel_rfl) ?_
      refine gx_pass ?_
      refine gx_thenN ?_
      refine hK43 _ _ ?_
      refine gx_block ?_
      refine gx_seq (fun K44 hK45 => ?_)
      refine gx_region ?_
      refine gx_k (.int .i32 x33) w36 (gx_k (.int .i32 x33) w36 ?_)
      refine gx_nil ?_
      refine gx_thenN ?_
      refine hK45 _ _ ?_
      refine gx_seq (fun K46 hK47 => ?_)
      refine gx_region ?_
      refine gx_k (.pointer (some ⟨g0, 0, none⟩)) w36 (gx_k (.pointer (some ⟨g0, 0, none⟩)) w36 (gx_k (.pointer (some ⟨g0, 0, none⟩)) w36 ?_))
      refine gx_v (.slice A0_0 p0_0.length c0_0) w36 (run_load1 rfl (by kernel_rfl) (fun _ => by kernel_rfl) (hS37.box 0 rfl 0 rfl)) ?_
      refine gx_k (.int .i64 p1) w36 ?_
      obtain ⟨x48, hx49, hL30⟩ := bind_in hL30
      refine gx_v (.pointer (Option.map (fun (p : Addr) => p.add (Int.toNat p1 * 1)) A0_0)) w36 (run_ixaddr (E := 21) (s := 1) (k := .i64) (c := c0_0) rfl (by kernel_rfl) (by kernel_rfl) (by kernel_rfl) (fun _ => by kernel_rfl) (ix_in hx49).1 (ix_in hx49).2.1 (num_nil (hS37.view hv0_0))) ?_
      refine gx_v (.int .i32 x48) w36 (run_loadix rfl (by kernel_rfl) (fun _ => by kernel_rfl) (hS37.view hv0_0) hx49) ?_
      refine gx_k (.int .i32 x33) w36 ?_
      rcases if_in hL30 with ⟨h50, hL30⟩ | ⟨h50, hL30⟩
      ·refine gx_v (.bool true) w36 (run_boolE (decide_eq_true h50) (by kernel_rfl)) ?_
       refine gx_nil ?_
       refine gx_thenN ?_
       refine hK47 _ _ ?_
       refine gx_yes (by kernel_rfl) ?_
       refine gx_seq (fun K51 hK52 => ?_)
       refine gx_region ?_
       refine gx_k (.bool true) w36 ?_
       refine gx_nil ?_
       refine gx_thenN ?_
       refine hK52 _ _ ?_
       refine gx_ret ?_
       refine gx_blkR ?_
       refine gx_thenR ?_
       refine gx_blkR ?_
       refine gx_thenR ?_
       obtain rfl := Option.some.inj hL30
       try dsimp only at hO20
       obtain rfl := Option.some.inj hO20
       exact gx_fin (.bool true) (by kernel_rfl) (by kernel_rfl) ⟨_, rfl, rfl, (hS37.pick [0] rfl rfl)⟩
      ·refine gx_v (.bool false) w36 (run_boolE (decide_eq_false h50) (by kernel_rfl)) ?_
       refine gx_nil ?_
       refine gx_thenN ?_
       refine hK47 _ _ ?_
       refine gx_no (by kernel_rfl) ?_
       refine gx_pass ?_
       refine gx_blkN ?_
       refine gx_thenN ?_
       exact ⟨k29, Nat.lt_succ_self k29, l34, selfA_i (by kernel_rfl), hL30, hS37⟩
  ·rintro _ w15 ⟨hq56, rfl, hS16⟩
   obtain ⟨u17, rfl⟩ := selfA_u hq56
   try dsimp only at hO20
   refine gx_seq (fun K54 hK55 => ?_)
   refine gx_region ?_
   refine gx_k (.bool false) w15 ?_
   refine gx_nil ?_
   refine gx_thenN ?_
   refine hK55 _ _ ?_
   refine gx_ret ?_
   obtain rfl := Option.some.inj hO20
   exact gx_fin (.bool false) (by kernel_rfl) (by kernel_rfl) ⟨_, rfl, rfl, hS16⟩
 | false =>
  try dsimp only at hF
  refine gx_k (.bool true) w12 ?_
  refine gx_nil ?_
  refine gx_thenN ?_
  refine hK6 _ _ ?_
  refine gx_yes (by kernel_rfl) ?_
  refine gx_seq (fun K57 hK58 => ?_)
  refine gx_region ?_
  refine gx_k (.bool false) w12 ?_
  refine gx_nil ?_
  refine gx_thenN ?_
  refine hK58 _ _ ?_
  refine gx_ret ?_
  refine gx_thenR ?_
  obtain rfl := Option.some.inj hF
  exact gx_fin (.bool false) (by kernel_rfl) (by kernel_rfl) ⟨_, rfl, rfl, (hS13.pick [1] rfl rfl)⟩
def pOpens (N : Nat) (p0_0 : List Int) (p0_1 : List Int) (p0_2 : Int) (p0_3 : Int) (p0_4 : Int) (p0_5 : Int) (p0_6 : Int) (p0_7 : Int) (p0_8 : Int) (p0_9 : Bool) (p0_10 : Bool) (p0_11 : Bool) (p1 : Int) : Option (Bool) :=
 ((pQuotes N p0_0 p0_1 p0_2 p0_3 p0_4 p0_5 p0_6 p0_7 p0_8 p0_9 p0_10 p0_11 p1 (⟨#[194, 171, 226, 128, 152, 226, 128, 155, 226, 128, 156, 226, 128, 159, 226, 128, 185]⟩ : ByteArray)).bind fun b7 => some b7)
set_option linter.unusedVariables false in
def pOpens_R (p0_0 : List Int) (p0_1 : List Int) (p0_2 : Int) (p0_3 : Int) (p0_4 : Int) (p0_5 : Int) (p0_6 : Int) (p0_7 : Int) (p0_8 : Int) (p0_9 : Bool) (p0_10 : Bool) (p0_11 : Bool) (p1 : Int) (g0 : Nat) (A0_0 : Option Addr) (c0_0 : Nat) (A0_1 : Option Addr) (c0_1 : Nat) (r : Bool) (w0 : World) (v : Value) (w : World) : Prop := v = .bool r ∧ St (foots [plE g0 A0_0 c0_0 A0_1 c0_1 p0_0 p0_1 p0_2 p0_3 p0_4 p0_5 p0_6 p0_7 p0_8 p0_9 p0_10 p0_11]) w0 w [plE g0 A0_0 c0_0 A0_1 c0_1 p0_0 p0_1 p0_2 p0_3 p0_4 p0_5 p0_6 p0_7 p0_8 p0_9 p0_10 p0_11]
set_option maxRecDepth 100000 in
set_option maxHeartbeats 4000000 in
theorem pOpens_ok (N : Nat) (p0_0 : List Int) (p0_1 : List Int) (p0_2 : Int) (p0_3 : Int) (p0_4 : Int) (p0_5 : Int) (p0_6 : Int) (p0_7 : Int) (p0_8 : Int) (p0_9 : Bool) (p0_10 : Bool) (p0_11 : Bool) (p1 : Int) (g0 : Nat) (A0_0 : Option Addr) (c0_0 : Nat) (A0_1 : Option Addr) (c0_1 : Nat) (r : Bool) (hF : pOpens N p0_0 p0_1 p0_2 p0_3 p0_4 p0_5 p0_6 p0_7 p0_8 p0_9 p0_10 p0_11 p1 = some r) (w0 : World) (hv0_0 : Vw (foots [plE g0 A0_0 c0_0 A0_1 c0_1 p0_0 p0_1 p0_2 p0_3 p0_4 p0_5 p0_6 p0_7 p0_8 p0_9 p0_10 p0_11]) .i32 w0 A0_0 c0_0 p0_0) (hv0_1 : Vw (foots [plE g0 A0_0 c0_0 A0_1 c0_1 p0_0 p0_1 p0_2 p0_3 p0_4 p0_5 p0_6 p0_7 p0_8 p0_9 p0_10 p0_11]) .u8 w0 A0_1 c0_1 p0_1) (hl : St (foots [plE g0 A0_0 c0_0 A0_1 c0_1 p0_0 p0_1 p0_2 p0_3 p0_4 p0_5 p0_6 p0_7 p0_8 p0_9 p0_10 p0_11]) w0 w0 [plE g0 A0_0 c0_0 A0_1 c0_1 p0_0 p0_1 p0_2 p0_3 p0_4 p0_5 p0_6 p0_7 p0_8 p0_9 p0_10 p0_11]) :
  Calls Try.prog 92 #[.pointer (some ⟨g0, 0, none⟩), .int .i64 p1] w0 fun e w => ∃ v, e = .returned v ∧ pOpens_R p0_0 p0_1 p0_2 p0_3 p0_4 p0_5 p0_6 p0_7 p0_8 p0_9 p0_10 p0_11 p1 g0 A0_0 c0_0 A0_1 c0_1 r w0 v w := by
 have hS0 := hl
 unfold pOpens at hF
 refine calls_of Try.func92 rfl ⟨((.pointer (some ⟨g0, 0, none⟩)) :: (.int .i64 p1) :: un 6 ([])).toArray, []⟩ (by kernel_rfl) ?_
 refine gx_seq (fun K1 hK2 => ?_)
 refine gx_region ?_
 refine gx_k (.bool false) w0 ?_
 refine gx_nil ?_
 refine gx_thenN ?_
 refine hK2 _ _ ?_
 refine gx_seq (fun K3 hK4 => ?_)
 refine gx_region ?_
 refine gx_k (.pointer (some ⟨g0, 0, none⟩)) w0 (gx_k (.int .i64 p1) w0 ?_)
 have hP5 : St _ _ w0 ([plE g0 A0_0 c0_0 A0_1 c0_1 p0_0 p0_1 p0_2 p0_3 p0_4 p0_5 p0_6 p0_7 p0_8 p0_9 p0_10 p0_11] ++ []) := hS0
 obtain ⟨b7, hc6, hF⟩ := bind_in hF
 try dsimp only at hF
 refine gx_c (pQuotes_R p0_0 p0_1 p0_2 p0_3 p0_4 p0_5 p0_6 p0_7 p0_8 p0_9 p0_10 p0_11 p1 (⟨#[194, 171, 226, 128, 152, 226, 128, 155, 226, 128, 156, 226, 128, 159, 226, 128, 185]⟩ : ByteArray) g0 A0_0 c0_0 A0_1 c0_1 b7 w0) (pQuotes_ok N p0_0 p0_1 p0_2 p0_3 p0_4 p0_5 p0_6 p0_7 p0_8 p0_9 p0_10 p0_11 p1 (⟨#[194, 171, 226, 128, 152, 226, 128, 155, 226, 128, 156, 226, 128, 159, 226, 128, 185]⟩ : ByteArray) g0 A0_0 c0_0 A0_1 c0_1 _ hc6 w0 (hP5.vwA hv0_0) (hP5.vwA hv0_1) hP5.part) ?_
 rintro _ w8 ⟨rfl, hT10⟩
 have hS9 : St _ _ w8 [plE g0 A0_0 c0_0 A0_1 c0_1 p0_0 p0_1 p0_2 p0_3 p0_4 p0_5 p0_6 p0_7 p0_8 p0_9 p0_10 p0_11] := hP5.lendN _ hT10
 refine gx_k (.bool b7) w8 ?_
 refine gx_nil ?_
 refine gx_thenN ?_
 refine hK4 _ _ ?_
 refine gx_ret ?_
 obtain rfl := Option.some.inj hF
 exact gx_fin (.bool b7) (by kernel_rfl) (by kernel_rfl) ⟨_, rfl, rfl, hS9⟩
def pCloses (N : Nat) (p0_0 : List Int) (p0_1 : List Int) (p0_2 : Int) (p0_3 : Int) (p0_4 : Int) (p0_5 : Int) (p0_6 : Int) (p0_7 : Int) (p0_8 : Int) (p0_9 : Bool) (p0_10 : Bool) (p0_11 : Bool) (p1 : Int) : Option (Bool) :=
 ((pQuotes N p0_0 p0_1 p0_2 p0_3 p0_4 p0_5 p0_6 p0_7 p0_8 p0_9 p0_10 p0_11 p1 (⟨#[194, 187, 226, 128, 153, 226, 128, 157, 226, 128, 186]⟩ : ByteArray)).bind fun b7 => some b7)
set_option linter.unusedVariables false in
def pCloses_R (p0_0 : List Int) (p0_1 : List Int) (p0_2 : Int) (p0_3 : Int) (p0_4 : Int) (p0_5 : Int) (p0_6 : Int) (p0_7 : Int) (p0_8 : Int) (p0_9 : Bool) (p0_10 : Bool) (p0_11 : Bool) (p1 : Int) (g0 : Nat) (A0_0 : Option Addr) (c0_0 : Nat) (A0_1 : Option Addr) (c0_1 : Nat) (r : Bool) (w0 : World) (v : Value) (w : World) : Prop := v = .bool r ∧ St (foots [plE g0 A0_0 c0_0 A0_1 c0_1 p0_0 p0_1 p0_2 p0_3 p0_4 p0_5 p0_6 p0_7 p0_8 p0_9 p0_10 p0_11]) w0 w [plE g0 A0_0 c0_0 A0_1 c0_1 p0_0 p0_1 p0_2 p0_3 p0_4 p0_5 p0_6 p0_7 p0_8 p0_9 p0_10 p0_11]
set_option maxRecDepth 100000 in
set_option maxHeartbeats 4000000 in
theorem pCloses_ok (N : Nat) (p0_0 : List Int) (p0_1 : List Int) (p0_2 : Int) (p0_3 : Int) (p0_4 : Int) (p0_5 : Int) (p0_6 : Int) (p0_7 : Int) (p0_8 : Int) (p0_9 : Bool) (p0_10 : Bool) (p0_11 : Bool) (p1 : Int) (g0 : Nat) (A0_0 : Option Addr) (c0_0 : Nat) (A0_1 : Option Addr) (c0_1 : Nat) (r : Bool) (hF : pCloses N p0_0 p0_1 p0_2 p0_3 p0_4 p0_5 p0_6 p0_7 p0_8 p0_9 p0_10 p0_11 p1 = some r) (w0 : World) (hv0_0 : Vw (foots [plE g0 A0_0 c0_0 A0_1 c0_1 p0_0 p0_1 p0_2 p0_3 p0_4 p0_5 p0_6 p0_7 p0_8 p0_9 p0_10 p0_11]) .i32 w0 A0_0 c0_0 p0_0) (hv0_1 : Vw (foots [plE g0 A0_0 c0_0 A0_1 c0_1 p0_0 p0_1 p0_2 p0_3 p0_4 p0_5 p0_6 p0_7 p0_8 p0_9 p0_10 p0_11]) .u8 w0 A0_1 c0_1 p0_1) (hl : St (foots [plE g0 A0_0 c0_0 A0_1 c0_1 p0_0 p0_1 p0_2 p0_3 p0_4 p0_5 p0_6 p0_7 p0_8 p0_9 p0_10 p0_11]) w0 w0 [plE g0 A0_0 c0_0 A0_1 c0_1 p0_0 p0_1 p0_2 p0_3 p0_4 p0_5 p0_6 p0_7 p0_8 p0_9 p0_10 p0_11]) :
  Calls Try.prog 94 #[.pointer (some ⟨g0, 0, none⟩), .int .i64 p1] w0 fun e w => ∃ v, e = .returned v ∧ pCloses_R p0_0 p0_1 p0_2 p0_3 p0_4 p0_5 p0_6 p0_7 p0_8 p0_9 p0_10 p0_11 p1 g0 A0_0 c0_0 A0_1 c0_1 r w0 v w := by
 have hS0 := hl
 unfold pCloses at hF
 refine calls_of Try.func94 rfl ⟨((.pointer (some ⟨g0, 0, none⟩)) :: (.int .i64 p1) :: un 6 ([])).toArray, []⟩ (by kernel_rfl) ?_
 refine gx_seq (fun K1 hK2 => ?_)
 refine gx_region ?_
 refine gx_k (.bool false) w0 ?_
 refine gx_nil ?_
 refine gx_thenN ?_
 refine hK2 _ _ ?_
 refine gx_seq (fun K3 hK4 => ?_)
 refine gx_region ?_
 refine gx_k (.pointer (some ⟨g0, 0, none⟩)) w0 (gx_k (.int .i64 p1) w0 ?_)
 have hP5 : St _ _ w0 ([plE g0 A0_0 c0_0 A0_1 c0_1 p0_0 p0_1 p0_2 p0_3 p0_4 p0_5 p0_6 p0_7 p0_8 p0_9 p0_10 p0_11] ++ []) := hS0
 obtain ⟨b7, hc6, hF⟩ := bind_in hF
 try dsimp only at hF
 refine gx_c (pQuotes_R p0_0 p0_1 p0_2 p0_3 p0_4 p0_5 p0_6 p0_7 p0_8 p0_9 p0_10 p0_11 p1 (⟨#[194, 187, 226, 128, 153, 226, 128, 157, 226, 128, 186]⟩ : ByteArray) g0 A0_0 c0_0 A0_1 c0_1 b7 w0) (pQuotes_ok N p0_0 p0_1 p0_2 p0_3 p0_4 p0_5 p0_6 p0_7 p0_8 p0_9 p0_10 p0_11 p1 (⟨#[194, 187, 226, 128, 153, 226, 128, 157, 226, 128, 186]⟩ : ByteArray) g0 A0_0 c0_0 A0_1 c0_1 _ hc6 w0 (hP5.vwA hv0_0) (hP5.vwA hv0_1) hP5.part) ?_
 rintro _ w8 ⟨rfl, hT10⟩
 have hS9 : St _ _ w8 [plE g0 A0_0 c0_0 A0_1 c0_1 p0_0 p0_1 p0_2 p0_3 p0_4 p0_5 p0_6 p0_7 p0_8 p0_9 p0_10 p0_11] := hP5.lendN _ hT10
 refine gx_k (.bool b7) w8 ?_
 refine gx_nil ?_
 refine gx_thenN ?_
 refine hK4 _ _ ?_
 refine gx_ret ?_
 obtain rfl := Option.some.inj hF
 exact gx_fin (.bool b7) (by kernel_rfl) (by kernel_rfl) ⟨_, rfl, rfl, hS9⟩
def pTextOf_L1 (N : Nat) (p0 : List Int) (x11 : Int) (x21 : Int) : Nat → (List Int) → Bool → Int → Option (List Int)
 | 0, _, _, _ => none
 | k52+1, l49, b50, x51 => (if x51 < ((p0.length : Nat) : Int) then ((ix p0 x51).bind fun x63 => ((ucBk N x63).bind fun x69 => ((pHasC N x11 x69).bind fun b79 => (match b79 with | true => (match b50 with | true => ((ix l49 x51).bind fun _x85 => ((setx l49 x51 0).bind fun l89 => pTextOf_L1 N p0 x11 x21 k52 l89 false (IntKind.i64.wrap (x51 + 1)))) | false => ((ix l49 x51).bind fun _x91 => ((setx l49 x51 39).bind fun l95 => pTextOf_L1 N p0 x11 x21 k52 l95 false (IntKind.i64.wrap (x51 + 1))))) | false => ((pHasC N x21 x69).bind fun b99 => ((ix l49 x51).bind fun _x103 => ((setx l49 x51 x69).bind fun l107 => pTextOf_L1 N p0 x11 x21 k52 l107 b99 (IntKind.i64.wrap (x51 + 1))))))))) else some (l49))
def pTextOf (N : Nat) (p0 : List Int) : Option (List Int) :=
 ((pSetOf N ([9, 10])).bind fun x11 => ((pSetOf N ([1, 2, 3, 4, 5, 6])).bind fun x21 => ((mkx ((p0.length : Nat) : Int)).bind fun l27 => ((pTextOf_L1 N p0 x11 x21 N l27 true 0 : Option (List Int)).bind fun l39 => some l39))))
set_option linter.unusedVariables false in
def pTextOf_R (p0 : List Int) (A0 : Option Addr) (c0 : Nat) (r : List Int) (w0 : World) (v : Value) (w : World) : Prop := ∃ (A0_1' : Option Addr) (c0_1' : Nat), v = .agg #[.slice A0 p0.length c0, .slice A0_1' r.length c0_1'] ∧ St [] w0 w [rowE .u8 5 A0_1' c0_1' r]
set_option maxRecDepth 100000 in
set_option maxHeartbeats 4000000 in
theorem pTextOf_ok (N : Nat) (p0 : List Int) (A0 : Option Addr) (c0 : Nat) (r : List Int) (hF : pTextOf N p0 = some r) (w0 : World) (hv0 : Vw [] .i32 w0 A0 c0 p0) :
  Calls Try.prog 79 #[.slice A0 p0.length c0] w0 fun e w => ∃ v, e = .returned v ∧ pTextOf_R p0 A0 c0 r w0 v w := by
 have hS0 := St.start w0
 unfold pTextOf at hF
 refine calls_of Try.func79 rfl ⟨((.slice A0 p0.length c0) :: un 43 ([])).toArray, []⟩ (by kernel_rfl) ?_
 refine gx_seq (fun K1 hK2 => ?_)
 refine gx_region ?_
 refine gx_r (st_boxed [.slice none 0 0, .slice none 0 0] 47 hS0 (by kernel_rfl)) ?_
 rintro _ w3 ⟨rfl, hS4⟩
 have hS4 : St _ _ w3 [boxE w0.heap.size [.slice none 0 0, .slice none 0 0] 47] := hS4
 refine gx_nil ?_
 refine gx_thenN ?_
 refine hK2 _ _ ?_
 refine gx_seq (fun K5 hK6 => ?_)
 refine gx_region ?_
 refine gx_r (st_made .u8 5 [9, 10] hS4 (by show 2 ≤ 1000000000; decide) (by kernel_rfl)) ?_
 rintro _ w7 ⟨rfl, hS8⟩
 have hS8 : St _ _ w7 [boxE w0.heap.size [.slice none 0 0, .slice none 0 0] 47, rowE .u8 5 (some ⟨w3.heap.size, 0, none⟩) 2 ([9, 10])] := hS8
 have hP9 : St _ _ w7 ([] ++ [boxE w0.heap.size [.slice none 0 0, .slice none 0 0] 47, rowE .u8 5 (some ⟨w3.heap.size, 0, none⟩) 2 ([9, 10])]) := hS8
 obtain ⟨x11, hc10, hF⟩ := bind_in hF
 try dsimp only at hF
 refine gx_c (pSetOf_R x11 w7) (pSetOf_ok N ([9, 10]) (some ⟨w3.heap.size, 0, none⟩) 2 _ hc10 w7 (hP9.vwB 1 rfl)) ?_
 rintro _ w12 ⟨rfl, hT14⟩
 have hS13 : St _ _ w12 [boxE w0.heap.size [.slice none 0 0, .slice none 0 0] 47, rowE .u8 5 (some ⟨w3.heap.size, 0, none⟩) 2 ([9, 10])] := hS8.take _ hT14
 refine gx_k (.int .u64 x11) w12 ?_
 refine gx_nil ?_
 refine gx_thenN ?_
 refine hK6 _ _ ?_
 refine gx_seq (fun K15 hK16 => ?_)
 refine gx_region ?_
 refine gx_r (st_made .u8 5 [1, 2, 3, 4, 5, 6] hS13 (by show 6 ≤ 1000000000; decide) (by kernel_rfl)) ?_
 rintro _ w17 ⟨rfl, hS18⟩
 have hS18 : St _ _ w17 [boxE w0.heap.size [.slice none 0 0, .slice none 0 0] 47, rowE .u8 5 (some ⟨w3.heap.size, 0, none⟩) 2 ([9, 10]), rowE .u8 5 (some ⟨w12.heap.size, 0, none⟩) 6 ([1, 2, 3, 4, 5, 6])] := hS18
 have hP19 : St _ _ w17 ([] ++ [boxE w0.heap.size [.slice none 0 0, .slice none 0 0] 47, rowE .u8 5 (some ⟨w3.heap.size, 0, none⟩) 2 ([9, 10]), rowE .u8 5 (some ⟨w12.heap.size, 0, none⟩) 6 ([1, 2, 3, 4, 5, 6])]) := hS18
 obtain ⟨x21, hc20, hF⟩ := bind_in hF
 try dsimp only at hF
 refine gx_c (pSetOf_R x21 w17) (pSetOf_ok N ([1, 2, 3, 4, 5, 6]) (some ⟨w12.heap.size, 0, none⟩) 6 _ hc20 w17 (hP19.vwB 2 rfl)) ?_
 rintro _ w22 ⟨rfl, hT24⟩
 have hS23 : St _ _ w22 [boxE w0.heap.size [.slice none 0 0, .slice none 0 0] 47, rowE .u8 5 (some ⟨w3.heap.size, 0, none⟩) 2 ([9, 10]), rowE .u8 5 (some ⟨w12.heap.size, 0, none⟩) 6 ([1, 2, 3, 4, 5, 6])] := hS18.take _ hT24
 refine gx_k (.int .u64 x21) w22 ?_
 refine gx_nil ?_
 refine gx_thenN ?_
 refine hK16 _ _ ?_
 refine gx_seq (fun K25 hK26 => ?_)
 refine gx_region ?_
 refine gx_k (.slice A0 p0.length c0) w22 (gx_k (.int .i64 ((p0.length : Nat) : Int)) w22 ?_)
 obtain ⟨l27, hm28, hF⟩ := bind_in hF
 refine gx_r (st_make (T := 5) (k := .u8) (by_ := 1) rfl (by kernel_rfl) (by kernel_rfl) (by kernel_rfl) (by kernel_rfl) (by kernel_rfl) hS23 hm28) ?_
 rintro _ w29 ⟨A31, c32, rfl, hS30⟩
 have hS30 : St _ _ w29 [boxE w0.heap.size [.slice none 0 0, .slice none 0 0] 47, rowE .u8 5 (some ⟨w3.heap.size, 0, none⟩) 2 ([9, 10]), rowE .u8 5 (some ⟨w12.heap.size, 0, none⟩) 6 ([1, 2, 3, 4, 5, 6]), rowE .u8 5 A31 c32 l27] := hS30
 refine gx_k (.slice A31 l27.length c32) w29 ?_
 refine gx_nil ?_
 refine gx_thenN ?_
 refine hK26 _ _ ?_
 refine gx_seq (fun K33 hK34 => ?_)
 refine gx_region ?_
 refine gx_k (.bool true) w29 ?_
 refine gx_nil ?_
 refine gx_thenN ?_
 refine hK34 _ _ ?_
 obtain ⟨c40, hE41, hO42⟩ := bind_in hF
 refine gx_cut (fun a w => ∃ (l39 : List Int), selfA (fun u37 => ⟨((.slice A0 p0.length c0) :: undef :: (.pointer (some ⟨w0.heap.size, 0, none⟩)) :: (.int .u64 x11) :: (.int .u64 x21) :: (.slice A31 l27.length c32) :: dd u37 6 5 ((.int .u64 x11) :: (u37 12) :: (.int .u64 x21) :: (u37 14) :: (.int .i64 ((p0.length : Nat) : Int)) :: dd u37 16 25 (un 3 ([])))).toArray, []⟩) a ∧ l39 = c40 ∧ St [] w0 w [boxE w0.heap.size [.slice none 0 0, .slice none 0 0] 47, rowE .u8 5 A31 c32 l39] ∧ l27.length = l39.length) ?_ ?_
 ·refine gx_seq (fun K43 hK44 => ?_)
  refine gx_region ?_
  refine gx_k (.slice A0 p0.length c0) w29 (gx_k (.int .i64 ((p0.length : Nat) : Int)) w29 (gx_k (.int .i64 0) w29 ?_))
  refine gx_nil ?_
  refine gx_thenN ?_
  refine hK44 _ _ ?_
  refine gx_block ?_
  refine gx_loop (fun k a w => ∃ (l49 : List Int) (b50 : Bool) (x51 : Int), selfA (fun u47 => ⟨((.slice A0 p0.length c0) :: undef :: (.pointer (some ⟨w0.heap.size, 0, none⟩)) :: (.int .u64 x11) :: (.int .u64 x21) :: (.slice A31 l27.length c32) :: (.bool b50) :: dd u47 7 4 ((.int .u64 x11) :: (u47 12) :: (.int .u64 x21) :: (u47 14) :: (.int .i64 ((p0.length : Nat) : Int)) :: (u47 16) :: (.slice A0 p0.length c0) :: (.int .i64 ((p0.length : Nat) : Int)) :: (.int .i64 x51) :: dd u47 20 21 (un 3 ([])))).toArray, []⟩) a ∧ pTextOf_L1 N p0 x11 x21 k l49 b50 x51 = some c40 ∧ St [] w0 w [boxE w0.heap.size [.slice none 0 0, .slice none 0 0] 47, rowE .u8 5 A31 c32 l49] ∧ l27.length = l49.length) N ?_ ?_
  ·exact ⟨l27, true, 0, selfA_i (by kernel_rfl), hE41, (hS30.pick [0, 3] rfl rfl), rfl⟩
  ·rintro k52 _ w45 ⟨l49, b50, x51, hq111, hL53, hS46, hn48⟩
   obtain ⟨u47, rfl⟩ := selfA_u hq111
   cases k52 with
   | zero => cases hL53
   | succ k52 =>
    first | rw [pTextOf_L1] at hL53 | unfold pTextOf_L1 at hL53
    refine gx_seq (fun K54 hK55 => ?_)
    refine gx_region ?_
    rcases if_in hL53 with ⟨h56, hL53⟩ | ⟨h56, hL53⟩
    ·refine gx_v (.bool true) w45 (run_boolE (decide_eq_true h56) (by kernel_rfl)) ?_
     refine gx_nil ?_
     refine gx_thenN ?_
     refine hK55 _ _ ?_
     refine gx_seq (fun K57 hK58 => ?_)
     refine gx_yes (by kernel_rfl) ?_
     refine gx_pass ?_
     refine gx_thenN ?_
     refine hK58 _ _ ?_
     refine gx_seq (fun K59 hK60 => ?_)
     refine gx_block ?_
     refine gx_seq (fun K61 hK62 => ?_)
     refine gx_region ?_
     refine gx_k (.int .i64 x51) w45 ?_
     obtain ⟨x63, hx64, hL53⟩ := bind_in hL53
     refine gx_v (.pointer (Option.map (fun (p : Addr) => p.add (Int.toNat x51 * 1)) A0)) w45 (run_ixaddr (E := 21) (s := 1) (k := .i64) (c := c0) rfl (by kernel_rfl) (by kernel_rfl) (by kernel_rfl) (fun _ => by kernel_rfl) (ix_in hx64).1 (ix_in hx64).2.1 (num_nil (hS46.view hv0))) ?_
     refine gx_v (.int .i32 x63) w45 (run_loadix rfl (by kernel_rfl) (fun _ => by kernel_rfl) (hS46.view hv0) hx64) ?_
     refine gx_k (.int .i64 x51) w45 (gx_k (.int .i32 x63) w45 ?_)
     refine gx_nil ?_
     refine gx_thenN ?_
     refine hK62 _ _ ?_
     refine gx_seq (fun K65 hK66 => ?_)
     refine gx_region ?_
     refine gx_k (.int .i32 x63) w45 ?_
     have hP67 : St _ _ w45 ([] ++ [boxE w0.heap.size [.slice none 0 0, .slice none 0 0] 47, rowE .u8 5 A31 c32 l49]) := hS46
     obtain ⟨x69, hc68, hL53⟩ := bind_in hL53
     try dsimp only at hL53
     refine gx_c (ucBk_R x69 w45) (ucBk_ok N x63 _ hc68 w45 ) ?_
     rintro _ w70 ⟨rfl, hT72⟩
     have hS71 : St _ _ w70 [boxE w0.heap.size [.slice none 0 0, .slice none 0 0] 47, rowE .u8 5 A31 c32 l49] := hS46.take _ hT72
     refine gx_k (.int .u8 x69) w70 ?_
     refine gx_nil ?_
     refine gx_thenN ?_
     refine hK66 _ _ ?_
     refine gx_seq (fun K73 hK74 => ?_)
     refine gx_block ?_
     refine gx_seq (fun K75 hK76 => ?_)
     refine gx_region ?_
     refine gx_k (.int .u64 x11) w70 (gx_k (.int .u8 x69) w70 ?_)
     have hP77 : St _ _ w70 ([] ++ [boxE w0.heap.size [.slice none 0 0, .slice none 0 0] 47, rowE .u8 5 A31 c32 l49]) := hS71
     obtain ⟨b79, hc78, hL53⟩ := bind_in hL53
     try dsimp only at hL53
     refine gx_c (pHasC_R b79 w70) (pHasC_ok N x11 x69 _ hc78 w70 ) ?_
     rintro _ w80 ⟨rfl, hT82⟩
     have hS81 : St _ _ w80 [boxE w0.heap.size [.slice none 0 0, .slice none 0 0] 47, rowE .u8 5 A31 c32 l49] := hS71.take _ hT82
     cases b79 with
     | true =>
      try dsimp only at hL53
      refine gx_k (.bool false) w80 (gx_k (.bool false) w80 ?_)
      refine gx_nil ?_
      refine gx_thenN ?_
      refine hK76 _ _ ?_
      refine gx_no (by kernel_rfl) ?_
      refine gx_seq (fun K83 hK84 => ?_)
      refine gx_region ?_
      refine gx_k (.bool b50) w80 (gx_k (.bool b50) w80 ?_)
      refine gx_nil ?_
      refine gx_thenN ?_
      refine hK84 _ _ ?_
      cases b50 with
      | true =>
       try dsimp only at hL53
       refine gx_yes (by kernel_rfl) ?_
       refine gx_region ?_
       refine gx_k (.int .u8 0) w80 (gx_k (.bool false) w80 ?_)
       refine gx_nil ?_
       refine gx_blkN ?_
       refine gx_thenN ?_
       refine hK74 _ _ ?_
       refine gx_region ?_
       refine gx_k (.slice A31 l27.length c32) w80 (gx_k (.int .i64 x51) w80 (gx_k (.int .u8 0) w80 ?_))
       obtain ⟨x85, hx86, hL53⟩ := bind_in hL53
       refine gx_v (.pointer (Option.map (fun (p : Addr) => p.add (Int.toNat x51 * 1)) A31)) w80 (run_ixaddr (E := 5) (s := 1) (k := .i64) (c := c32) rfl (by kernel_rfl) (by kernel_rfl) (by kernel_rfl) (fun _ => by kernel_rfl) (ix_in hx86).1 (lt_len hn48 (ix_in hx86).2.1) (nil_len hn48 (num_nil (hS81.row 1 rfl).1))) ?_
       obtain ⟨l89, hx90, hL53⟩ := bind_in hL53
       refine gx_s (st_storeix rfl (by kernel_rfl) (by kernel_rfl) (fun _ => by kernel_rfl) hS81 1 rfl hx90) ?_
       rintro w87 hS88
       have hS88 : St _ _ w87 [boxE w0.heap.size [.slice none 0 0, .slice none 0 0] 47, rowE .u8 5 A31 c32 l89] := hS88
       refine gx_nil ?_
       refine gx_blkN ?_
       refine gx_thenN ?_
       refine hK60 _ _ ?_
       refine gx_region ?_
       refine gx_k (.int .i64 (IntKind.i64.wrap (x51 + 1))) w87 (gx_k (.int .i64 (IntKind.i64.wrap (x51 + 1))) w87 ?_)
       refine gx_nil ?_
       refine gx_thenN ?_
       exact ⟨k52, Nat.lt_succ_self k52, l89, false, (IntKind.i64.wrap (x51 + 1)), selfA_i (by kernel_rfl), hL53, hS88, (hn48.trans (setx_len hx90).symm)⟩
      | false =>
       try dsimp only at hL53
       refine gx_no (by kernel_rfl) ?_
       refine gx_region ?_
       refine gx_k (.int .u8 39) w80 ?_
       refine gx_nil ?_
       refine gx_blkN ?_
       refine gx_thenN ?_
       refine hK74 _ _ ?_
       refine gx_region ?_
       refine gx_k (.slice A31 l27.length c32) w80 (gx_k (.int .i64 x51) w80 (gx_k (.int .u8 39) w80 ?_))
       obtain ⟨x91, hx92, hL53⟩ := bind_in hL53
       refine gx_v (.pointer (Option.map (fun (p : Addr) => p.add (Int.toNat x51 * 1)) A31)) w80 (run_ixaddr (E := 5) (s := 1) (k := .i64) (c := c32) rfl (by kernel_rfl) (by kernel_rfl) (by kernel_rfl) (fun _ => by kernel_rfl) (ix_in hx92).1 (lt_len hn48 (ix_in hx92).2.1) (nil_len hn48 (num_nil (hS81.row 1 rfl).1))) ?_
       obtain ⟨l95, hx96, hL53⟩ := bind_in hL53
       refine gx_s (st_storeix rfl (by kernel_rfl) (by kernel_rfl) (fun _ => by kernel_rfl) hS81 1 rfl hx96) ?_
       rintro w93 hS94
       have hS94 : St _ _ w93 [boxE w0.heap.size [.slice none 0 0, .slice none 0 0] 47, rowE .u8 5 A31 c32 l95] := hS94
       refine gx_nil ?_
       refine gx_blkN ?_
       refine gx_thenN ?_
       refine hK60 _ _ ?_
       refine gx_region ?_
       refine gx_k (.int .i64 (IntKind.i64.wrap (x51 + 1))) w93 (gx_k (.int .i64 (IntKind.i64.wrap (x51 + 1))) w93 ?_)
       refine gx_nil ?_
       refine gx_thenN ?_
       exact ⟨k52, Nat.lt_succ_self k52, l95, false, (IntKind.i64.wrap (x51 + 1)), selfA_i (by kernel_rfl), hL53, hS94, (hn48.trans (setx_len hx96).symm)⟩
     | false =>
      try dsimp only at hL53
      refine gx_k (.bool true) w80 (gx_k (.bool true) w80 ?_)
      refine gx_nil ?_
      refine gx_thenN ?_
      refine hK76 _ _ ?_
      refine gx_yes (by kernel_rfl) ?_
      refine gx_region ?_
      refine gx_k (.int .u64 x21) w80 (gx_k (.int .u8 x69) w80 ?_)
      have hP97 : St _ _ w80 ([] ++ [boxE w0.heap.size [.slice none 0 0, .slice none 0 0] 47, rowE .u8 5 A31 c32 l49]) := hS81
      obtain ⟨b99, hc98, hL53⟩ := bind_in hL53
      try dsimp only at hL53
      refine gx_c (pHasC_R b99 w80) (pHasC_ok N x21 x69 _ hc98 w80 ) ?_
      rintro _ w100 ⟨rfl, hT102⟩
      have hS101 : St _ _ w100 [boxE w0.heap.size [.slice none 0 0, .slice none 0 0] 47, rowE .u8 5 A31 c32 l49] := hS81.take _ hT102
      refine gx_k (.bool b99) w100 ?_
      refine gx_nil ?_
      refine gx_blkN ?_
      refine gx_thenN ?_
      refine hK74 _ _ ?_
      refine gx_region ?_
      refine gx_k (.slice A31 l27.length c32) w100 (gx_k (.int .i64 x51) w100 (gx_k (.int .u8 x69) w100 ?_))
      obtain ⟨x103, hx104, hL53⟩ := bind_in hL53
      refine gx_v (.pointer (Option.map (fun (p : Addr) => p.add (Int.toNat x51 * 1)) A31)) w100 (run_ixaddr (E := 5) (s := 1) (k := .i64) (c := c32) rfl (by kernel_rfl) (by kernel_rfl) (by kernel_rfl) (fun _ => by kernel_rfl) (ix_in hx104).1 (lt_len hn48 (ix_in hx104).2.1) (nil_len hn48 (num_nil (hS101.row 1 rfl).1))) ?_
      obtain ⟨l107, hx108, hL53⟩ := bind_in hL53
      refine gx_s (st_storeix rfl (by kernel_rfl) (by kernel_rfl) (fun _ => by kernel_rfl) hS101 1 rfl hx108) ?_
      rintro w105 hS106
      have hS106 : St _ _ w105 [boxE w0.heap.size [.slice none 0 0, .slice none 0 0] 47, rowE .u8 5 A31 c32 l107] := hS106
      refine gx_nil ?_
      refine gx_blkN ?_
      refine gx_thenN ?_
      refine hK60 _ _ ?_
      refine gx_region ?_
      refine gx_k (.int .i64 (IntKind.i64.wrap (x51 + 1))) w105 (gx_k (.int .i64 (IntKind.i64.wrap (x51 + 1))) w105 ?_)
      refine gx_nil ?_
      refine gx_thenN ?_
      exact ⟨k52, Nat.lt_succ_self k52, l107, b99, (IntKind.i64.wrap (x51 + 1)), selfA_i (by kernel_rfl), hL53, hS106, (hn48.trans (setx_len hx108).symm)⟩
    ·refine gx_v (.bool false) w45 (run_boolE (decide_eq_false h56) (by kernel_rfl)) ?_
     refine gx_nil ?_
     refine gx_thenN ?_
     refine hK55 _ _ ?_
     refine gx_seq (fun K109 hK110 => ?_)
     refine gx_no (by kernel_rfl) ?_
     refine gx_exit ?_
     refine gx_thenE ?_
     refine gx_thenE ?_
     refine gx_blkE ?_
     refine gx_thenN ?_
     exact ⟨l49, selfA_i (by kernel_rfl), (Option.some.inj hL53), hS46, hn48⟩
 ·rintro _ w35 ⟨l39, hq116, rfl, hS36, hn38⟩
  obtain ⟨u37, rfl⟩ := selfA_u hq116
  try dsimp only at hO42
  refine gx_seq (fun K112 hK113 => ?_)
  refine gx_region ?_
  refine gx_k (.slice A0 p0.length c0) w35 (gx_k (.slice A31 l27.length c32) w35 (gx_k (.agg #[.slice A0 p0.length c0, .slice A31 l27.length c32]) w35 ?_))
  refine gx_s (st_storeG (cs := [.slice none 0 0, .slice none 0 0]) (ds := [.slice A0 p0.length c0, .slice A31 l27.length c32]) rfl (by kernel_rfl) (by kernel_rfl) (by kernel_rfl) rfl rfl hS36 0 rfl) ?_
  rintro w114 hS115
  have hS115 : St _ _ w114 [boxE w0.heap.size [.slice A0 p0.length c0, .slice A31 l27.length c32] 47, rowE .u8 5 A31 c32 l39] := hS115
  refine gx_nil ?_
  refine gx_thenN ?_
  refine hK113 _ _ ?_
  refine gx_ret ?_
  obtain rfl := Option.some.inj hO42
  exact gx_fin (.agg #[.slice A0 p0.length c0, .slice A31 l27.length c32]) (by kernel_rfl) (res_cell rfl _ _ w0.heap.size _ _ _ (by kernel_rfl) (hS115.get 0 rfl) (by kernel_rfl) (by kernel_rfl)) ⟨_, rfl, A31, c32, by rw [← hn38] <;> kernel_rfl, (hS115.pick [1] rfl rfl)⟩
end Go.Proofs.Ytdbimchiecdkoaa
