/-
  What is alike, walked.
-/
import Derived.Test.YtcleaepcjbfmhaaZT
namespace Go.Proofs.Ytcleaepcjbfmhaa
open Go Go.RowKit
set_option linter.unusedVariables false

def kSameI_L1 (N : Nat) (p0 : List Int) (p1 : List Int) : Nat → Int → Option (Ctl (Unit) (Bool))
 | 0, _ => none
 | k22+1, x21 => (if x21 < ((p0.length : Nat) : Int) then ((ix p0 x21).bind fun x35 => ((ix p1 x21).bind fun x37 => (if x35 ≠ x37 then some (Ctl.ret false) else kSameI_L1 N p0 p1 k22 (IntKind.i64.wrap (x21 + 1))))) else some (Ctl.go ()))
def kSameI (N : Nat) (p0 : List Int) (p1 : List Int) : Option (Bool) :=
 (if ((p0.length : Nat) : Int) ≠ ((p1.length : Nat) : Int) then some false else ((kSameI_L1 N p0 p1 N 0 : Option (Ctl (Unit) (Bool))).bind fun | Ctl.go () => some true | Ctl.ret r => some r))

set_option linter.unusedVariables false in
def kSameI_R (r : Bool) (w0 : World) (v : Value) (w : World) : Prop := v = .bool r ∧ St [] w0 w []

set_option maxRecDepth 100000 in
set_option maxHeartbeats 4000000 in
theorem kSameI_ok (N : Nat) (p0 : List Int) (p1 : List Int) (A0 : Option Addr) (c0 : Nat) (A1 : Option Addr) (c1 : Nat) (r : Bool) (hF : kSameI N p0 p1 = some r) (w0 : World) (hv0 : Vw [] .i64 w0 A0 c0 p0) (hv1 : Vw [] .i64 w0 A1 c1 p1) :
  Calls Try.prog 8 #[.slice A0 p0.length c0, .slice A1 p1.length c1] w0 fun e w => ∃ v, e = .returned v ∧ kSameI_R r w0 v w := by
 have hS0 := St.start w0
 unfold kSameI at hF
 refine calls_of Try.func8 rfl ⟨((.slice A0 p0.length c0) :: (.slice A1 p1.length c1) :: un 24 ([])).toArray, []⟩ (by kernel_rfl) ?_
 refine gx_seq (fun K1 hK2 => ?_)
 refine gx_region ?_
 refine gx_k (.bool false) w0 ?_
 refine gx_nil ?_
 refine gx_thenN ?_
 refine hK2 _ _ ?_
 refine gx_seq (fun K3 hK4 => ?_)
 refine gx_seq (fun K5 hK6 => ?_)
 refine gx_region ?_
 refine gx_k (.slice A0 p0.length c0) w0 (gx_k (.int .i64 ((p0.length : Nat) : Int)) w0 (gx_k (.slice A1 p1.length c1) w0 (gx_k (.int .i64 ((p1.length : Nat) : Int)) w0 ?_)))
 rcases if_in hF with ⟨h7, hF⟩ | ⟨h7, hF⟩
 ·refine gx_v (.bool true) w0 (run_boolE (ne_yes h7) (by kernel_rfl)) ?_
  refine gx_nil ?_
  refine gx_thenN ?_
  refine hK6 _ _ ?_
  refine gx_yes (by kernel_rfl) ?_
  refine gx_seq (fun K8 hK9 => ?_)
  refine gx_region ?_
  refine gx_k (.bool false) w0 ?_
  refine gx_nil ?_
  refine gx_thenN ?_
  refine hK9 _ _ ?_
  refine gx_ret ?_
  refine gx_thenR ?_
  obtain rfl := Option.some.inj hF
  exact gx_fin (.bool false) (by kernel_rfl) (by kernel_rfl) ⟨_, rfl, rfl, hS0⟩
 ·refine gx_v (.bool false) w0 (run_boolE (ne_no h7) (by kernel_rfl)) ?_
  refine gx_nil ?_
  refine gx_thenN ?_
  refine hK6 _ _ ?_
  refine gx_no (by kernel_rfl) ?_
  refine gx_pass ?_
  refine gx_thenN ?_
  refine hK4 _ _ ?_
  obtain ⟨c13, hE14, hO15⟩ := bind_in hF
  refine gx_cut (fun a w => selfA (fun u12 => ⟨(dd u12 0 2 (undef :: undef :: dd u12 4 3 ((.int .i64 ((p0.length : Nat) : Int)) :: (u12 8) :: (.int .i64 ((p1.length : Nat) : Int)) :: (.bool false) :: dd u12 11 15 ([])))).toArray, []⟩) a ∧ Ctl.go () = c13 ∧ St [] w0 w []) ?_ ?_
  ·refine gx_seq (fun K16 hK17 => ?_)
   refine gx_region ?_
   refine gx_k (.int .i64 0) w0 ?_
   refine gx_nil ?_
   refine gx_thenN ?_
   refine hK17 _ _ ?_
   refine gx_block ?_
   refine gx_loop (fun k a w => ∃ (x21 : Int), selfA (fun u20 => ⟨((.slice A0 p0.length c0) :: (.slice A1 p1.length c1) :: undef :: undef :: (u20 4) :: (.int .i64 x21) :: (u20 6) :: (.int .i64 ((p0.length : Nat) : Int)) :: (u20 8) :: (.int .i64 ((p1.length : Nat) : Int)) :: (.bool false) :: dd u20 11 15 ([])).toArray, []⟩) a ∧ kSameI_L1 N p0 p1 k x21 = some c13 ∧ St [] w0 w []) N ?_ ?_
   ·exact ⟨0, selfA_i (by kernel_rfl), hE14, hS0⟩
   ·rintro k22 _ w18 ⟨x21, hq42, hL23, hS19⟩
    obtain ⟨u20, rfl⟩ := selfA_u hq42
    cases k22 with
    | zero => cases hL23
    | succ k22 =>
     first | rw [kSameI_L1] at hL23 | unfold kSameI_L1 at hL23
     refine gx_seq (fun K24 hK25 => ?_)
     refine gx_seq (fun K26 hK27 => ?_)
     refine gx_region ?_
     refine gx_k (.int .i64 x21) w18 (gx_k (.slice A0 p0.length c0) w18 (gx_k (.int .i64 ((p0.length : Nat) : Int)) w18 ?_))
     rcases if_in hL23 with ⟨h28, hL23⟩ | ⟨h28, hL23⟩
     ·refine gx_v (.bool true) w18 (run_boolE (decide_eq_true h28) (by kernel_rfl)) ?_
      refine gx_nil ?_
      refine gx_thenN ?_
      refine hK27 _ _ ?_
      refine gx_yes (by kernel_rfl) ?_
      refine gx_pass ?_
      refine gx_thenN ?_
      refine hK25 _ _ ?_
      refine gx_seq (fun K29 hK30 => ?_)
      refine gx_block ?_
      refine gx_seq (fun K31 hK32 => ?_)
      refine gd_start (fun w => St [] w0 w []) 9 #[false, false, false, false, false, false, false, false, false] (by kernel_rfl) (by kernel_rfl) ?_
      have hS34 := hS19.drew
      generalize w18.drew = w33 at hS34 ⊢
      refine gd1 0 { dst := some 17, op := _, type := _, pos := _, after := _, guard := _ } (.slice A0 p0.length c0) rfl hS34 (fun w hSw => by kernel_rfl) ?_
      refine gd1 1 { dst := some 18, op := _, type := _, pos := _, after := _, guard := _ } (.int .i64 x21) rfl hS34 (fun w hSw => by kernel_rfl) ?_
      obtain ⟨x35, hx36, hL23⟩ := bind_in hL23
      refine gd1 2 { dst := some 19, op := _, type := _, pos := _, after := _, guard := _ } (.pointer (Option.map (fun (p : Addr) => p.add (Int.toNat x21 * 1)) A0)) rfl hS34 (fun w hSw => run_ixaddr (E := 3) (s := 1) (k := .i64) (c := c0) rfl (by kernel_rfl) (by kernel_rfl) (by kernel_rfl) (fun _ => by kernel_rfl) (ix_in hx36).1 (ix_in hx36).2.1 (num_nil (hS34.view hv0))) ?_
      refine gd1 3 { dst := some 20, op := _, type := _, pos := _, after := _, guard := _ } (.int .i64 x35) rfl hS34 (fun w hSw => run_loadix rfl (by kernel_rfl) (fun _ => by kernel_rfl) (hSw.view hv0) hx36) ?_
      refine gd1 4 { dst := some 21, op := _, type := _, pos := _, after := _, guard := _ } (.slice A1 p1.length c1) rfl hS34 (fun w hSw => by kernel_rfl) ?_
      refine gd1 5 { dst := some 22, op := _, type := _, pos := _, after := _, guard := _ } (.int .i64 x21) rfl hS34 (fun w hSw => by kernel_rfl) ?_
      obtain ⟨x37, hx38, hL23⟩ := bind_in hL23
      refine gd1 6 { dst := some 23, op := _, type := _, pos := _, after := _, guard := _ } (.pointer (Option.map (fun (p : Addr) => p.add (Int.toNat x21 * 1)) A1)) rfl hS34 (fun w hSw => run_ixaddr (E := 3) (s := 1) (k := .i64) (c := c1) rfl (by kernel_rfl) (by kernel_rfl) (by kernel_rfl) (fun _ => by kernel_rfl) (ix_in hx38).1 (ix_in hx38).2.1 (num_nil (hS34.view hv1))) ?_
      refine gd1 7 { dst := some 24, op := _, type := _, pos := _, after := _, guard := _ } (.int .i64 x37) rfl hS34 (fun w hSw => run_loadix rfl (by kernel_rfl) (fun _ => by kernel_rfl) (hSw.view hv1) hx38) ?_
      rcases if_in hL23 with ⟨h39, hL23⟩ | ⟨h39, hL23⟩
      ·refine gd1 8 { dst := some 25, op := _, type := _, pos := _, after := _, guard := _ } (.bool true) rfl hS34 (fun w hSw => run_boolE (ne_yes h39) (by kernel_rfl)) ?_
       refine gd_done (by kernel_rfl) ?_
       refine gx_thenN ?_
       refine hK32 _ _ ?_
       refine gx_yes (by kernel_rfl) ?_
       refine gx_seq (fun K40 hK41 => ?_)
       refine gx_region ?_
       refine gx_k (.bool false) w33 ?_
       refine gx_nil ?_
       refine gx_thenN ?_
       refine hK41 _ _ ?_
       refine gx_ret ?_
       refine gx_blkR ?_
       refine gx_thenR ?_
       refine gx_thenR ?_
       refine gx_blkR ?_
       refine gx_thenR ?_
       obtain rfl := Option.some.inj hL23
       try dsimp only at hO15
       obtain rfl := Option.some.inj hO15
       exact gx_fin (.bool false) (by kernel_rfl) (by kernel_rfl) ⟨_, rfl, rfl, hS34⟩
      ·refine gd1 8 { dst := some 25, op := _, type := _, pos := _, after := _, guard := _ } (.bool false) rfl hS34 (fun w hSw => run_boolE (ne_no h39) (by kernel_rfl)) ?_
       refine gd_done (by kernel_rfl) ?_
       refine gx_thenN ?_
       refine hK32 _ _ ?_
       refine gx_no (by kernel_rfl) ?_
       refine gx_pass ?_
       refine gx_blkN ?_
       refine gx_thenN ?_
       refine hK30 _ _ ?_
       refine gx_region ?_
       refine gx_k (.int .i64 x21) w33 (gx_k (.int .i64 (IntKind.i64.wrap (x21 + 1))) w33 (gx_k (.int .i64 (IntKind.i64.wrap (x21 + 1))) w33 ?_))
       refine gx_nil ?_
       refine gx_thenN ?_
       exact ⟨k22, Nat.lt_succ_self k22, (IntKind.i64.wrap (x21 + 1)), selfA_i (by kernel_rfl), hL23, hS34⟩
     ·refine gx_v (.bool false) w18 (run_boolE (decide_eq_false h28) (by kernel_rfl)) ?_
      refine gx_nil ?_
      refine gx_thenN ?_
      refine hK27 _ _ ?_
      refine gx_no (by kernel_rfl) ?_
      refine gx_exit ?_
      refine gx_thenE ?_
      refine gx_thenE ?_
      refine gx_blkE ?_
      refine gx_thenN ?_
      exact ⟨selfA_i (by kernel_rfl), (Option.some.inj hL23), hS19⟩
  ·rintro _ w10 ⟨hq45, rfl, hS11⟩
   obtain ⟨u12, rfl⟩ := selfA_u hq45
   try dsimp only at hO15
   refine gx_seq (fun K43 hK44 => ?_)
   refine gx_region ?_
   refine gx_k (.bool true) w10 ?_
   refine gx_nil ?_
   refine gx_thenN ?_
   refine hK44 _ _ ?_
   refine gx_ret ?_
   obtain rfl := Option.some.inj hO15
   exact gx_fin (.bool true) (by kernel_rfl) (by kernel_rfl) ⟨_, rfl, rfl, hS11⟩

def kSameW_L1 (N : Nat) (p0 : List Int) (p1 : List Int) : Nat → Int → Option (Ctl (Unit) (Bool))
 | 0, _ => none
 | k22+1, x21 => (if x21 < ((p0.length : Nat) : Int) then ((ix p0 x21).bind fun x35 => ((ix p1 x21).bind fun x37 => (if x35 ≠ x37 then some (Ctl.ret false) else kSameW_L1 N p0 p1 k22 (IntKind.i64.wrap (x21 + 1))))) else some (Ctl.go ()))
def kSameW (N : Nat) (p0 : List Int) (p1 : List Int) : Option (Bool) :=
 (if ((p0.length : Nat) : Int) ≠ ((p1.length : Nat) : Int) then some false else ((kSameW_L1 N p0 p1 N 0 : Option (Ctl (Unit) (Bool))).bind fun | Ctl.go () => some true | Ctl.ret r => some r))

set_option linter.unusedVariables false in
def kSameW_R (r : Bool) (w0 : World) (v : Value) (w : World) : Prop := v = .bool r ∧ St [] w0 w []

set_option maxRecDepth 100000 in
set_option maxHeartbeats 4000000 in
theorem kSameW_ok (N : Nat) (p0 : List Int) (p1 : List Int) (A0 : Option Addr) (c0 : Nat) (A1 : Option Addr) (c1 : Nat) (r : Bool) (hF : kSameW N p0 p1 = some r) (w0 : World) (hv0 : Vw [] .u16 w0 A0 c0 p0) (hv1 : Vw [] .u16 w0 A1 c1 p1) :
  Calls Try.prog 12 #[.slice A0 p0.length c0, .slice A1 p1.length c1] w0 fun e w => ∃ v, e = .returned v ∧ kSameW_R r w0 v w := by
 have hS0 := St.start w0
 unfold kSameW at hF
 refine calls_of Try.func12 rfl ⟨((.slice A0 p0.length c0) :: (.slice A1 p1.length c1) :: un 24 ([])).toArray, []⟩ (by kernel_rfl) ?_
 refine gx_seq (fun K1 hK2 => ?_)
 refine gx_region ?_
 refine gx_k (.bool false) w0 ?_
 refine gx_nil ?_
 refine gx_thenN ?_
 refine hK2 _ _ ?_
 refine gx_seq (fun K3 hK4 => ?_)
 refine gx_seq (fun K5 hK6 => ?_)
 refine gx_region ?_
 refine gx_k (.slice A0 p0.length c0) w0 (gx_k (.int .i64 ((p0.length : Nat) : Int)) w0 (gx_k (.slice A1 p1.length c1) w0 (gx_k (.int .i64 ((p1.length : Nat) : Int)) w0 ?_)))
 rcases if_in hF with ⟨h7, hF⟩ | ⟨h7, hF⟩
 ·refine gx_v (.bool true) w0 (run_boolE (ne_yes h7) (by kernel_rfl)) ?_
  refine gx_nil ?_
  refine gx_thenN ?_
  refine hK6 _ _ ?_
  refine gx_yes (by kernel_rfl) ?_
  refine gx_seq (fun K8 hK9 => ?_)
  refine gx_region ?_
  refine gx_k (.bool false) w0 ?_
  refine gx_nil ?_
  refine gx_thenN ?_
  refine hK9 _ _ ?_
  refine gx_ret ?_
  refine gx_thenR ?_
  obtain rfl := Option.some.inj hF
  exact gx_fin (.bool false) (by kernel_rfl) (by kernel_rfl) ⟨_, rfl, rfl, hS0⟩
 ·refine gx_v (.bool false) w0 (run_boolE (ne_no h7) (by kernel_rfl)) ?_
  refine gx_nil ?_
  refine gx_thenN ?_
  refine hK6 _ _ ?_
  refine gx_no (by kernel_rfl) ?_
  refine gx_pass ?_
  refine gx_thenN ?_
  refine hK4 _ _ ?_
  obtain ⟨c13, hE14, hO15⟩ := bind_in hF
  refine gx_cut (fun a w => selfA (fun u12 => ⟨(dd u12 0 2 (undef :: undef :: dd u12 4 3 ((.int .i64 ((p0.length : Nat) : Int)) :: (u12 8) :: (.int .i64 ((p1.length : Nat) : Int)) :: (.bool false) :: dd u12 11 15 ([])))).toArray, []⟩) a ∧ Ctl.go () = c13 ∧ St [] w0 w []) ?_ ?_
  ·refine gx_seq (fun K16 hK17 => ?_)
   refine gx_region ?_
   refine gx_k (.int .i64 0) w0 ?_
   refine gx_nil ?_
   refine gx_thenN ?_
   refine hK17 _ _ ?_
   refine gx_block ?_
   refine gx_loop (fun k a w => ∃ (x21 : Int), selfA (fun u20 => ⟨((.slice A0 p0.length c0) :: (.slice A1 p1.length c1) :: undef :: undef :: (u20 4) :: (.int .i64 x21) :: (u20 6) :: (.int .i64 ((p0.length : Nat) : Int)) :: (u20 8) :: (.int .i64 ((p1.length : Nat) : Int)) :: (.bool false) :: dd u20 11 15 ([])).toArray, []⟩) a ∧ kSameW_L1 N p0 p1 k x21 = some c13 ∧ St [] w0 w []) N ?_ ?_
   ·exact ⟨0, selfA_i (by kernel_rfl), hE14, hS0⟩
   ·rintro k22 _ w18 ⟨x21, hq42, hL23, hS19⟩
    obtain ⟨u20, rfl⟩ := selfA_u hq42
    cases k22 with
    | zero => cases hL23
    | succ k22 =>
     first | rw [kSameW_L1] at hL23 | unfold kSameW_L1 at hL23
     refine gx_seq (fun K24 hK25 => ?_)
     refine gx_seq (fun K26 hK27 => ?_)
     refine gx_region ?_
     refine gx_k (.int .i64 x21) w18 (gx_k (.slice A0 p0.length c0) w18 (gx_k (.int .i64 ((p0.length : Nat) : Int)) w18 ?_))
     rcases if_in hL23 with ⟨h28, hL23⟩ | ⟨h28, hL23⟩
     ·refine gx_v (.bool true) w18 (run_boolE (decide_eq_true h28) (by kernel_rfl)) ?_
      refine gx_nil ?_
      refine gx_thenN ?_
      refine hK27 _ _ ?_
      refine gx_yes (by kernel_rfl) ?_
      refine gx_pass ?_
      refine gx_thenN ?_
      refine hK25 _ _ ?_
      refine gx_seq (fun K29 hK30 => ?_)
      refine gx_block ?_
      refine gx_seq (fun K31 hK32 => ?_)
      refine gd_start (fun w => St [] w0 w []) 9 #[false, false, false, false, false, false, false, false, false] (by kernel_rfl) (by kernel_rfl) ?_
      have hS34 := hS19.drew
      generalize w18.drew = w33 at hS34 ⊢
      refine gd1 0 { dst := some 17, op := _, type := _, pos := _, after := _, guard := _ } (.slice A0 p0.length c0) rfl hS34 (fun w hSw => by kernel_rfl) ?_
      refine gd1 1 { dst := some 18, op := _, type := _, pos := _, after := _, guard := _ } (.int .i64 x21) rfl hS34 (fun w hSw => by kernel_rfl) ?_
      obtain ⟨x35, hx36, hL23⟩ := bind_in hL23
      refine gd1 2 { dst := some 19, op := _, type := _, pos := _, after := _, guard := _ } (.pointer (Option.map (fun (p : Addr) => p.add (Int.toNat x21 * 1)) A0)) rfl hS34 (fun w hSw => run_ixaddr (E := 45) (s := 1) (k := .i64) (c := c0) rfl (by kernel_rfl) (by kernel_rfl) (by kernel_rfl) (fun _ => by kernel_rfl) (ix_in hx36).1 (ix_in hx36).2.1 (num_nil (hS34.view hv0))) ?_
      refine gd1 3 { dst := some 20, op := _, type := _, pos := _, after := _, guard := _ } (.int .u16 x35) rfl hS34 (fun w hSw => run_loadix rfl (by kernel_rfl) (fun _ => by kernel_rfl) (hSw.view hv0) hx36) ?_
      refine gd1 4 { dst := some 21, op := _, type := _, pos := _, after := _, guard := _ } (.slice A1 p1.length c1) rfl hS34 (fun w hSw => by kernel_rfl) ?_
      refine gd1 5 { dst := some 22, op := _, type := _, pos := _, after := _, guard := _ } (.int .i64 x21) rfl hS34 (fun w hSw => by kernel_rfl) ?_
      obtain ⟨x37, hx38, hL23⟩ := bind_in hL23
      refine gd1 6 { dst := some 23, op := _, type := _, pos := _, after := _, guard := _ } (.pointer (Option.map (fun (p : Addr) => p.add (Int.toNat x21 * 1)) A1)) rfl hS34 (fun w hSw => run_ixaddr (E := 45) (s := 1) (k := .i64) (c := c1) rfl (by kernel_rfl) (by kernel_rfl) (by kernel_rfl) (fun _ => by kernel_rfl) (ix_in hx38).1 (ix_in hx38).2.1 (num_nil (hS34.view hv1))) ?_
      refine gd1 7 { dst := some 24, op := _, type := _, pos := _, after := _, guard := _ } (.int .u16 x37) rfl hS34 (fun w hSw => run_loadix rfl (by kernel_rfl) (fun _ => by kernel_rfl) (hSw.view hv1) hx38) ?_
      rcases if_in hL23 with ⟨h39, hL23⟩ | ⟨h39, hL23⟩
      ·refine gd1 8 { dst := some 25, op := _, type := _, pos := _, after := _, guard := _ } (.bool true) rfl hS34 (fun w hSw => run_boolE (ne_yes h39) (by kernel_rfl)) ?_
       refine gd_done (by kernel_rfl) ?_
       refine gx_thenN ?_
       refine hK32 _ _ ?_
       refine gx_yes (by kernel_rfl) ?_
       refine gx_seq (fun K40 hK41 => ?_)
       refine gx_region ?_
       refine gx_k (.bool false) w33 ?_
       refine gx_nil ?_
       refine gx_thenN ?_
       refine hK41 _ _ ?_
       refine gx_ret ?_
       refine gx_blkR ?_
       refine gx_thenR ?_
       refine gx_thenR ?_
       refine gx_blkR ?_
       refine gx_thenR ?_
       obtain rfl := Option.some.inj hL23
       try dsimp only at hO15
       obtain rfl := Option.some.inj hO15
       exact gx_fin (.bool false) (by kernel_rfl) (by kernel_rfl) ⟨_, rfl, rfl, hS34⟩
      ·refine gd1 8 { dst := some 25, op := _, type := _, pos := _, after := _, guard := _ } (.bool false) rfl hS34 (fun w hSw => run_boolE (ne_no h39) (by kernel_rfl)) ?_
       refine gd_done (by kernel_rfl) ?_
       refine gx_thenN ?_
       refine hK32 _ _ ?_
       refine gx_no (by kernel_rfl) ?_
       refine gx_pass ?_
       refine gx_blkN ?_
       refine gx_thenN ?_
       refine hK30 _ _ ?_
       refine gx_region ?_
       refine gx_k (.int .i64 x21) w33 (gx_k (.int .i64 (IntKind.i64.wrap (x21 + 1))) w33 (gx_k (.int .i64 (IntKind.i64.wrap (x21 + 1))) w33 ?_))
       refine gx_nil ?_
       refine gx_thenN ?_
       exact ⟨k22, Nat.lt_succ_self k22, (IntKind.i64.wrap (x21 + 1)), selfA_i (by kernel_rfl), hL23, hS34⟩
     ·refine gx_v (.bool false) w18 (run_boolE (decide_eq_false h28) (by kernel_rfl)) ?_
      refine gx_nil ?_
      refine gx_thenN ?_
      refine hK27 _ _ ?_
      refine gx_no (by kernel_rfl) ?_
      refine gx_exit ?_
      refine gx_thenE ?_
      refine gx_thenE ?_
      refine gx_blkE ?_
      refine gx_thenN ?_
      exact ⟨selfA_i (by kernel_rfl), (Option.some.inj hL23), hS19⟩
  ·rintro _ w10 ⟨hq45, rfl, hS11⟩
   obtain ⟨u12, rfl⟩ := selfA_u hq45
   try dsimp only at hO15
   refine gx_seq (fun K43 hK44 => ?_)
   refine gx_region ?_
   refine gx_k (.bool true) w10 ?_
   refine gx_nil ?_
   refine gx_thenN ?_
   refine hK44 _ _ ?_
   refine gx_ret ?_
   obtain rfl := Option.some.inj hO15
   exact gx_fin (.bool true) (by kernel_rfl) (by kernel_rfl) ⟨_, rfl, rfl, hS11⟩

def kSameB (_N : Nat) (p0 : List Int) (p1 : List Int) : Option (Bool) :=
 some (((strOfNums p0).toList == (strOfNums p1).toList))

set_option linter.unusedVariables false in
def kSameB_R (r : Bool) (w0 : World) (v : Value) (w : World) : Prop := v = .bool r ∧ St [] w0 w []

set_option maxRecDepth 100000 in
set_option maxHeartbeats 4000000 in
theorem kSameB_ok (N : Nat) (p0 : List Int) (p1 : List Int) (A0 : Option Addr) (c0 : Nat) (A1 : Option Addr) (c1 : Nat) (r : Bool) (hF : kSameB N p0 p1 = some r) (w0 : World) (hv0 : Vw [] .u8 w0 A0 c0 p0) (hv1 : Vw [] .u8 w0 A1 c1 p1) :
  Calls Try.prog 13 #[.slice A0 p0.length c0, .slice A1 p1.length c1] w0 fun e w => ∃ v, e = .returned v ∧ kSameB_R r w0 v w := by
 have hS0 := St.start w0
 unfold kSameB at hF
 refine calls_of Try.func13 rfl ⟨((.slice A0 p0.length c0) :: (.slice A1 p1.length c1) :: un 8 ([])).toArray, []⟩ (by kernel_rfl) ?_
 refine gx_seq (fun K1 hK2 => ?_)
 refine gx_region ?_
 refine gx_k (.bool false) w0 ?_
 refine gx_nil ?_
 refine gx_thenN ?_
 refine hK2 _ _ ?_
 refine gx_seq (fun K3 hK4 => ?_)
 refine gx_region ?_
 refine gx_k (.slice A0 p0.length c0) w0 ?_
 refine gx_v (.string (strOfNums p0)) w0 (run_conv rfl (by kernel_rfl) (conv_b _ _ _ (hS0.view hv0))) ?_
 refine gx_k (.slice A1 p1.length c1) w0 ?_
 refine gx_v (.string (strOfNums p1)) w0 (run_conv rfl (by kernel_rfl) (conv_b _ _ _ (hS0.view hv1))) ?_
 refine gx_k (.bool (((strOfNums p0).toList == (strOfNums p1).toList))) w0 (gx_k (.bool (((strOfNums p0).toList == (strOfNums p1).toList))) w0 ?_)
 refine gx_nil ?_
 refine gx_thenN ?_
 refine hK4 _ _ ?_
 refine gx_ret ?_
 obtain rfl := Option.some.inj hF
 exact gx_fin (.bool (((strOfNums p0).toList == (strOfNums p1).toList))) (by kernel_rfl) (by kernel_rfl) ⟨_, rfl, rfl, hS0⟩

end Go.Proofs.Ytcleaepcjbfmhaa
