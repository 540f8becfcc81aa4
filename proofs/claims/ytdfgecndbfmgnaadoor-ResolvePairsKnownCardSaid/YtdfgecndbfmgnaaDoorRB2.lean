/-
  The document's rule of pairs, walked.
-/
import Derived.Test.YtdfgecndbfmgnaaDoorRB1
namespace Go.Proofs.YtdfgecndbfmgnaaDoor
open Go Go.RowKit
set_option linter.unusedVariables false

def rAmong_L1 (N : Nat) (p0 : List Int) (p1 : Int) : Nat → Int → Option (Ctl (Unit) (Bool))
 | 0, _ => none
 | k15+1, x14 => (if x14 < ((p0.length : Nat) : Int) then ((ix p0 x14).bind fun x26 => ((rSide N x26).bind fun x30 => (if x30 = p1 then some (Ctl.ret true) else rAmong_L1 N p0 p1 k15 (IntKind.i64.wrap (x14 + 1))))) else some (Ctl.go ()))
def rAmong (N : Nat) (p0 : List Int) (p1 : Int) : Option (Bool) :=
 ((rAmong_L1 N p0 p1 N 0 : Option (Ctl (Unit) (Bool))).bind fun | Ctl.go () => some false | Ctl.ret r => some r)

set_option linter.unusedVariables false in
def rAmong_R (r : Bool) (w0 : World) (v : Value) (w : World) : Prop := v = .bool r ∧ St [] w0 w []

set_option maxRecDepth 100000 in
set_option maxHeartbeats 4000000 in
theorem rAmong_ok (N : Nat) (p0 : List Int) (p1 : Int) (A0 : Option Addr) (c0 : Nat) (r : Bool) (hF : rAmong N p0 p1 = some r) (w0 : World) (hv0 : Vw [] .u8 w0 A0 c0 p0) :
  Calls Tryd.prog 35 #[.slice A0 p0.length c0, .int .u8 p1] w0 fun e w => ∃ v, e = .returned v ∧ rAmong_R r w0 v w := by
 have hS0 := St.start w0
 unfold rAmong at hF
 refine calls_of Tryd.func35 rfl ⟨((.slice A0 p0.length c0) :: (.int .u8 p1) :: un 17 ([])).toArray, []⟩ (by kernel_rfl) ?_
 refine gx_seq (fun K1 hK2 => ?_)
 refine gx_region ?_
 refine gx_k (.bool false) w0 ?_
 refine gx_nil ?_
 refine gx_thenN ?_
 refine hK2 _ _ ?_
 obtain ⟨c6, hE7, hO8⟩ := bind_in hF
 refine gx_cut (fun a w => selfA (fun u5 => ⟨((u5 0) :: (.int .u8 p1) :: undef :: undef :: dd u5 4 15 ([])).toArray, []⟩) a ∧ Ctl.go () = c6 ∧ St [] w0 w []) ?_ ?_
 ·refine gx_seq (fun K9 hK10 => ?_)
  refine gx_region ?_
  refine gx_k (.int .i64 0) w0 ?_
  refine gx_nil ?_
  refine gx_thenN ?_
  refine hK10 _ _ ?_
  refine gx_block ?_
  refine gx_loop (fun k a w => ∃ (x14 : Int), selfA (fun u13 => ⟨((.slice A0 p0.length c0) :: (.int .u8 p1) :: undef :: undef :: (u13 4) :: (.int .i64 x14) :: dd u13 6 13 ([])).toArray, []⟩) a ∧ rAmong_L1 N p0 p1 k x14 = some c6 ∧ St [] w0 w []) N ?_ ?_
  ·exact ⟨0, selfA_i (by kernel_rfl), hE7, hS0⟩
  ·rintro k15 _ w11 ⟨x14, hq37, hL16, hS12⟩
   obtain ⟨u13, rfl⟩ := selfA_u hq37
   cases k15 with
   | zero => cases hL16
   | succ k15 =>
    first | rw [rAmong_L1] at hL16 | unfold rAmong_L1 at hL16
    refine gx_seq (fun K17 hK18 => ?_)
    refine gx_seq (fun K19 hK20 => ?_)
    refine gx_region ?_
    refine gx_k (.int .i64 x14) w11 (gx_k (.slice A0 p0.length c0) w11 (gx_k (.int .i64 ((p0.length : Nat) : Int)) w11 ?_))
    rcases if_in hL16 with ⟨h21, hL16⟩ | ⟨h21, hL16⟩
    ·refine gx_v (.bool true) w11 (run_boolE (decide_eq_true h21) (by kernel_rfl)) ?_
     refine gx_nil ?_
     refine gx_thenN ?_
     refine hK20 _ _ ?_
     refine gx_yes (by kernel_rfl) ?_
     refine gx_pass ?_
     refine gx_thenN ?_
     refine hK18 _ _ ?_
     refine gx_seq (fun K22 hK23 => ?_)
     refine gx_block ?_
     refine gx_seq (fun K24 hK25 => ?_)
     refine gx_region ?_
     refine gx_k (.slice A0 p0.length c0) w11 (gx_k (.int .i64 x14) w11 ?_)
     obtain ⟨x26, hx27, hL16⟩ := bind_in hL16
     refine gx_v (.pointer (Option.map (fun (p : Addr) => p.add (Int.toNat x14 * 1)) A0)) w11 (run_ixaddr (E := 33) (s := 1) (k := .i64) (c := c0) rfl (by kernel_rfl) (by kernel_rfl) (by kernel_rfl) (fun _ => by kernel_rfl) (ix_in hx27).1 (ix_in hx27).2.1 (num_nil (hS12.view hv0))) ?_
     refine gx_v (.int .u8 x26) w11 (run_loadix rfl (by kernel_rfl) (fun _ => by kernel_rfl) (hS12.view hv0) hx27) ?_
     have hP28 : St _ _ w11 ([] ++ []) := hS12
     obtain ⟨x30, hc29, hL16⟩ := bind_in hL16
     try dsimp only at hL16
     refine gx_c (rSide_R x30 w11) (rSide_ok N x26 _ hc29 w11 ) ?_
     rintro _ w31 ⟨rfl, hT33⟩
     have hS32 : St _ _ w31 [] := hS12.take _ hT33
     refine gx_k (.int .u8 p1) w31 ?_
     rcases if_in hL16 with ⟨h34, hL16⟩ | ⟨h34, hL16⟩
     ·refine gx_v (.bool true) w31 (run_boolE (decide_eq_true h34) (by kernel_rfl)) ?_
      refine gx_nil ?_
      refine gx_thenN ?_
      refine hK25 _ _ ?_
      refine gx_yes (by kernel_rfl) ?_
      refine gx_seq (fun K35 hK36 => ?_)
      refine gx_region ?_
      refine gx_k (.bool true) w31 ?_
      refine gx_nil ?_
      refine gx_thenN ?_
      refine hK36 _ _ ?_
      refine gx_ret ?_
      refine gx_blkR ?_
      refine gx_thenR ?_
      refine gx_thenR ?_
      refine gx_blkR ?_
      refine gx_thenR ?_
      obtain rfl := Option.some.inj hL16
      try dsimp only at hO8
      obtain rfl := Option.some.inj hO8
      exact gx_fin (.bool true) (by kernel_rfl) (by kernel_rfl) ⟨_, rfl, rfl, hS32⟩
     ·refine gx_v (.bool false) w31 (run_boolE (decide_eq_false h34) (by kernel_rfl)) ?_
      refine gx_nil ?_
      refine gx_thenN ?_
      refine hK25 _ _ ?_
      refine gx_no (by kernel_rfl) ?_
      refine gx_pass ?_
      refine gx_blkN ?_
      refine gx_thenN ?_
      refine hK23 _ _ ?_
      refine gx_region ?_
      refine gx_k (.int .i64 x14) w31 (gx_k (.int .i64 (IntKind.i64.wrap (x14 + 1))) w31 (gx_k (.int .i64 (IntKind.i64.wrap (x14 + 1))) w31 ?_))
      refine gx_nil ?_
      refine gx_thenN ?_
      exact ⟨k15, Nat.lt_succ_self k15, (IntKind.i64.wrap (x14 + 1)), selfA_i (by kernel_rfl), hL16, hS32⟩
    ·refine gx_v (.bool false) w11 (run_boolE (decide_eq_false h21) (by kernel_rfl)) ?_
     refine gx_nil ?_
     refine gx_thenN ?_
     refine hK20 _ _ ?_
     refine gx_no (by kernel_rfl) ?_
     refine gx_exit ?_
     refine gx_thenE ?_
     refine gx_thenE ?_
     refine gx_blkE ?_
     refine gx_thenN ?_
     exact ⟨selfA_i (by kernel_rfl), (Option.some.inj hL16), hS12⟩
 ·rintro _ w3 ⟨hq40, rfl, hS4⟩
  obtain ⟨u5, rfl⟩ := selfA_u hq40
  try dsimp only at hO8
  refine gx_seq (fun K38 hK39 => ?_)
  refine gx_region ?_
  refine gx_k (.bool false) w3 ?_
  refine gx_nil ?_
  refine gx_thenN ?_
  refine hK39 _ _ ?_
  refine gx_ret ?_
  obtain rfl := Option.some.inj hO8
  exact gx_fin (.bool false) (by kernel_rfl) (by kernel_rfl) ⟨_, rfl, rfl, hS4⟩

def rAhead_L1 (N : Nat) (p0 : List Int) : Nat → Int → Option (Ctl (Unit) (Int))
 | 0, _ => none
 | k15+1, x14 => (if x14 ≥ 0 then ((ix p0 x14).bind fun x26 => ((rSide N x26).bind fun x30 => (if x30 ≠ 0 then ((ix p0 x14).bind fun x37 => ((rSide N x37).bind fun x41 => some (Ctl.ret x41))) else rAhead_L1 N p0 k15 (IntKind.i64.wrap (x14 - 1))))) else some (Ctl.go ()))
def rAhead (N : Nat) (p0 : List Int) (p1 : Int) : Option (Int) :=
 ((rAhead_L1 N p0 N (IntKind.i64.wrap (((p0.length : Nat) : Int) - 1)) : Option (Ctl (Unit) (Int))).bind fun | Ctl.go () => (if p1 = 2 then some 2 else some 1) | Ctl.ret r => some r)

set_option linter.unusedVariables false in
def rAhead_R (r : Int) (w0 : World) (v : Value) (w : World) : Prop := v = .int .u8 r ∧ St [] w0 w []

set_option maxRecDepth 100000 in
set_option maxHeartbeats 4000000 in
theorem rAhead_ok (N : Nat) (p0 : List Int) (p1 : Int) (A0 : Option Addr) (c0 : Nat) (r : Int) (hF : rAhead N p0 p1 = some r) (w0 : World) (hv0 : Vw [] .u8 w0 A0 c0 p0) :
  Calls Tryd.prog 36 #[.slice A0 p0.length c0, .int .u8 p1] w0 fun e w => ∃ v, e = .returned v ∧ rAhead_R r w0 v w := by
 have hS0 := St.start w0
 unfold rAhead at hF
 refine calls_of Tryd.func36 rfl ⟨((.slice A0 p0.length c0) :: (.int .u8 p1) :: un 24 ([])).toArray, []⟩ (by kernel_rfl) ?_
 refine gx_seq (fun K1 hK2 => ?_)
 refine gx_region ?_
 refine gx_k (.int .u8 0) w0 ?_
 refine gx_nil ?_
 refine gx_thenN ?_
 refine hK2 _ _ ?_
 obtain ⟨c6, hE7, hO8⟩ := bind_in hF
 refine gx_cut (fun a w => selfA (fun u5 => ⟨((u5 0) :: (.int .u8 p1) :: undef :: undef :: dd u5 4 20 (undef :: undef :: [])).toArray, []⟩) a ∧ Ctl.go () = c6 ∧ St [] w0 w []) ?_ ?_
 ·refine gx_seq (fun K9 hK10 => ?_)
  refine gx_region ?_
  refine gx_k (.slice A0 p0.length c0) w0 (gx_k (.int .i64 ((p0.length : Nat) : Int)) w0 (gx_k (.int .i64 (IntKind.i64.wrap (((p0.length : Nat) : Int) - 1))) w0 (gx_k (.int .i64 (IntKind.i64.wrap (((p0.length : Nat) : Int) - 1))) w0 ?_)))
  refine gx_nil ?_
  refine gx_thenN ?_
  refine hK10 _ _ ?_
  refine gx_block ?_
  refine gx_loop (fun k a w => ∃ (x14 : Int), selfA (fun u13 => ⟨((.slice A0 p0.length c0) :: (.int .u8 p1) :: undef :: undef :: (u13 4) :: (.int .i64 x14) :: (u13 6) :: (.int .i64 ((p0.length : Nat) : Int)) :: (.int .i64 (IntKind.i64.wrap (((p0.length : Nat) : Int) - 1))) :: dd u13 9 15 (undef :: undef :: [])).toArray, []⟩) a ∧ rAhead_L1 N p0 k x14 = some c6 ∧ St [] w0 w []) N ?_ ?_
  ·exact ⟨(IntKind.i64.wrap (((p0.length : Nat) : Int) - 1)), selfA_i (by kernel_rfl), hE7, hS0⟩
  ·rintro k15 _ w11 ⟨x14, hq45, hL16, hS12⟩
   obtain ⟨u13, rfl⟩ := selfA_u hq45
   cases k15 with
   | zero => cases hL16
   | succ k15 =>
    first | rw [rAhead_L1] at hL16 | unfold rAhead_L1 at hL16
    refine gx_seq (fun K17 hK18 => ?_)
    refine gx_seq (fun K19 hK20 => ?_)
    refine gx_region ?_
    refine gx_k (.int .i64 x14) w11 ?_
    rcases if_in hL16 with ⟨h21, hL16⟩ | ⟨h21, hL16⟩
    ·refine gx_v (.bool true) w11 (run_boolE (decide_eq_true h21) (by kernel_rfl)) ?_
     refine gx_nil ?_
     refine gx_thenN ?_
     refine hK20 _ _ ?_
     refine gx_yes (by kernel_rfl) ?_
     refine gx_pass ?_
     refine gx_thenN ?_
     refine hK18 _ _ ?_
     refine gx_seq (fun K22 hK23 => ?_)
     refine gx_block ?_
     refine gx_seq (fun K24 hK25 => ?_)
     refine gx_region ?_
     refine gx_k (.slice A0 p0.length c0) w11 (gx_k (.int .i64 x14) w11 ?_)
     obtain ⟨x26, hx27, hL16⟩ := bind_in hL16
     refine gx_v (.pointer (Option.map (fun (p : Addr) => p.add (Int.toNat x14 * 1)) A0)) w11 (run_ixaddr (E := 33) (s := 1) (k := .i64) (c := c0) rfl (by kernel_rfl) (by kernel_rfl) (by kernel_rfl) (fun _ => by kernel_rfl) (ix_in hx27).1 (ix_in hx27).2.1 (num_nil (hS12.view hv0))) ?_
     refine gx_v (.int .u8 x26) w11 (run_loadix rfl (by kernel_rfl) (fun _ => by kernel_rfl) (hS12.view hv0) hx27) ?_
     have hP28 : St _ _ w11 ([] ++ []) := hS12
     obtain ⟨x30, hc29, hL16⟩ := bind_in hL16
     try dsimp only at hL16
     refine gx_c (rSide_R x30 w11) (rSide_ok N x26 _ hc29 w11 ) ?_
     rintro _ w31 ⟨rfl, hT33⟩
     have hS32 : St _ _ w31 [] := hS12.take _ hT33
     rcases if_in hL16 with ⟨h34, hL16⟩ | ⟨h34, hL16⟩
     ·refine gx_v (.bool true) w31 (run_boolE (ne_yes h34) (by kernel_rfl)) ?_
      refine gx_nil ?_
      refine gx_thenN ?_
      refine hK25 _ _ ?_
      refine gx_yes (by kernel_rfl) ?_
      refine gx_seq (fun K35 hK36 => ?_)
      refine gx_region ?_
      refine gx_k (.slice A0 p0.length c0) w31 (gx_k (.int .i64 x14) w31 ?_)
      obtain ⟨x37, hx38, hL16⟩ := bind_in hL16
      refine gx_v (.pointer (Option.map (fun (p : Addr) => p.add (Int.toNat x14 * 1)) A0)) w31 (run_ixaddr (E := 33) (s := 1) (k := .i64) (c := c0) rfl (by kernel_rfl) (by kernel_rfl) (by kernel_rfl) (fun _ => by kernel_rfl) (ix_in hx38).1 (ix_in hx38).2.1 (num_nil (hS32.view hv0))) ?_
      refine gx_v (.int .u8 x37) w31 (run_loadix rfl (by kernel_rfl) (fun _ => by kernel_rfl) (hS32.view hv0) hx38) ?_
      have hP39 : St _ _ w31 ([] ++ []) := hS32
      obtain ⟨x41, hc40, hL16⟩ := bind_in hL16
      try dsimp only at hL16
      refine gx_c (rSide_R x41 w31) (rSide_ok N x37 _ hc40 w31 ) ?_
      rintro _ w42 ⟨rfl, hT44⟩
      have hS43 : St _ _ w42 [] := hS32.take _ hT44
      refine gx_k (.int .u8 x41) w42 ?_
      refine gx_nil ?_
      refine gx_thenN ?_
      refine hK36 _ _ ?_
      refine gx_ret ?_
      refine gx_blkR ?_
      refine gx_thenR ?_
      refine gx_thenR ?_
      refine gx_blkR ?_
      refine gx_thenR ?_
      obtain rfl := Option.some.inj hL16
      try dsimp only at hO8
      obtain rfl := Option.some.inj hO8
      exact gx_fin (.int .u8 x41) (by kernel_rfl) (by kernel_rfl) ⟨_, rfl, rfl, hS43⟩
     ·refine gx_v (.bool false) w31 (run_boolE (ne_no h34) (by kernel_rfl)) ?_
      refine gx_nil ?_
      refine gx_thenN ?_
      refine hK25 _ _ ?_
      refine gx_no (by kernel_rfl) ?_
      refine gx_pass ?_
      refine gx_blkN ?_
      refine gx_thenN ?_
      refine hK23 _ _ ?_
      refine gx_region ?_
      refine gx_k (.int .i64 x14) w31 (gx_k (.int .i64 (IntKind.i64.wrap (x14 - 1))) w31 (gx_k (.int .i64 (IntKind.i64.wrap (x14 - 1))) w31 ?_))
      refine gx_nil ?_
      refine gx_thenN ?_
      exact ⟨k15, Nat.lt_succ_self k15, (IntKind.i64.wrap (x14 - 1)), selfA_i (by kernel_rfl), hL16, hS32⟩
    ·refine gx_v (.bool false) w11 (run_boolE (decide_eq_false h21) (by kernel_rfl)) ?_
     refine gx_nil ?_
     refine gx_thenN ?_
     refine hK20 _ _ ?_
     refine gx_no (by kernel_rfl) ?_
     refine gx_exit ?_
     refine gx_thenE ?_
     refine gx_thenE ?_
     refine gx_blkE ?_
     refine gx_thenN ?_
     exact ⟨selfA_i (by kernel_rfl), (Option.some.inj hL16), hS12⟩
 ·rintro _ w3 ⟨hq55, rfl, hS4⟩
  obtain ⟨u5, rfl⟩ := selfA_u hq55
  try dsimp only at hO8
  refine gx_seq (fun K46 hK47 => ?_)
  refine gx_seq (fun K48 hK49 => ?_)
  refine gx_region ?_
  refine gx_k (.int .u8 p1) w3 ?_
  rcases if_in hO8 with ⟨h50, hO8⟩ | ⟨h50, hO8⟩
  ·refine gx_v (.bool true) w3 (run_boolE (decide_eq_true h50) (by kernel_rfl)) ?_
   refine gx_nil ?_
   refine gx_thenN ?_
   refine hK49 _ _ ?_
   refine gx_yes (by kernel_rfl) ?_
   refine gx_seq (fun K51 hK52 => ?_)
   refine gx_region ?_
   refine gx_k (.int .u8 2) w3 ?_
   refine gx_nil ?_
   refine gx_thenN ?_
   refine hK52 _ _ ?_
   refine gx_ret ?_
   refine gx_thenR ?_
   obtain rfl := Option.some.inj hO8
   exact gx_fin (.int .u8 2) (by kernel_rfl) (by kernel_rfl) ⟨_, rfl, rfl, hS4⟩
  ·refine gx_v (.bool false) w3 (run_boolE (decide_eq_false h50) (by kernel_rfl)) ?_
   refine gx_nil ?_
   refine gx_thenN ?_
   refine hK49 _ _ ?_
   refine gx_no (by kernel_rfl) ?_
   refine gx_pass ?_
   refine gx_thenN ?_
   refine hK47 _ _ ?_
   refine gx_seq (fun K53 hK54 => ?_)
   refine gx_region ?_
   refine gx_k (.int .u8 1) w3 ?_
   refine gx_nil ?_
   refine gx_thenN ?_
   refine hK54 _ _ ?_
   refine gx_ret ?_
   obtain rfl := Option.some.inj hO8
   exact gx_fin (.int .u8 1) (by kernel_rfl) (by kernel_rfl) ⟨_, rfl, rfl, hS4⟩

def rSet_L1 (N : Nat) (p0 : List Int) (p1 : List Int) (p3 : Int) : Nat → (List Int) → Int → Option (List Int)
 | 0, _, _ => none
 | k17+1, l15, x16 => (if x16 < ((p0.length : Nat) : Int) then ((ix l15 x16).bind fun x24 => (if x24 = 10 then ((ix l15 x16).bind fun x31 => (if x31 ≠ 10 then ((ix l15 x16).bind fun _x34 => ((setx l15 x16 p3).bind fun l38 => rSet_L1 N p0 p1 p3 k17 l38 (IntKind.i64.wrap (x16 + 1)))) else rSet_L1 N p0 p1 p3 k17 l15 (IntKind.i64.wrap (x16 + 1)))) else ((ix p1 x16).bind fun x40 => (if x40 = 9 then ((ix l15 x16).bind fun x47 => (if x47 ≠ 10 then ((ix l15 x16).bind fun _x50 => ((setx l15 x16 p3).bind fun l54 => rSet_L1 N p0 p1 p3 k17 l54 (IntKind.i64.wrap (x16 + 1)))) else rSet_L1 N p0 p1 p3 k17 l15 (IntKind.i64.wrap (x16 + 1)))) else some l15)))) else some l15)
def rSet (N : Nat) (p0 : List Int) (p1 : List Int) (p2 : Int) (p3 : Int) : Option (List Int) :=
 ((ix p0 p2).bind fun _x3 => ((setx p0 p2 p3).bind fun l7 => rSet_L1 N p0 p1 p3 N l7 (IntKind.i64.wrap (p2 + 1))))

set_option linter.unusedVariables false in
def rSet_R (p0 : List Int) (p1 : List Int) (p2 : Int) (p3 : Int) (A0 : Option Addr) (c0 : Nat) (A1 : Option Addr) (c1 : Nat) (r : List Int) (w0 : World) (v : Value) (w : World) : Prop := v = .tuple #[] ∧ St (foots [rowE .u8 33 A0 c0 p0]) w0 w [rowE .u8 33 A0 c0 r] ∧ r.length = p0.length

set_option maxRecDepth 100000 in
set_option maxHeartbeats 4000000 in
theorem rSet_ok (N : Nat) (p0 : List Int) (p1 : List Int) (p2 : Int) (p3 : Int) (A0 : Option Addr) (c0 : Nat) (A1 : Option Addr) (c1 : Nat) (r : List Int) (hF : rSet N p0 p1 p2 p3 = some r) (w0 : World) (hv1 : Vw (foots [rowE .u8 33 A0 c0 p0]) .u8 w0 A1 c1 p1) (hl : St (foots [rowE .u8 33 A0 c0 p0]) w0 w0 [rowE .u8 33 A0 c0 p0]) :
  Calls Tryd.prog 37 #[.slice A0 p0.length c0, .slice A1 p1.length c1, .int .i64 p2, .int .u8 p3] w0 fun e w => ∃ v, e = .returned v ∧ rSet_R p0 p1 p2 p3 A0 c0 A1 c1 r w0 v w := by
 have hS0 := hl
 unfold rSet at hF
 refine calls_of Tryd.func37 rfl ⟨((.slice A0 p0.length c0) :: (.slice A1 p1.length c1) :: (.int .i64 p2) :: (.int .u8 p3) :: un 40 ([])).toArray, []⟩ (by kernel_rfl) ?_
 refine gx_seq (fun K1 hK2 => ?_)
 refine gx_region ?_
 refine gx_k (.slice A0 p0.length c0) w0 (gx_k (.int .i64 p2) w0 (gx_k (.int .u8 p3) w0 ?_))
 obtain ⟨x3, hx4, hF⟩ := bind_in hF
 refine gx_v (.pointer (Option.map (fun (p : Addr) => p.add (Int.toNat p2 * 1)) A0)) w0 (run_ixaddr (E := 33) (s := 1) (k := .i64) (c := c0) rfl (by kernel_rfl) (by kernel_rfl) (by kernel_rfl) (fun _ => by kernel_rfl) (ix_in hx4).1 (ix_in hx4).2.1 (num_nil (hS0.row 0 rfl).1)) ?_
 obtain ⟨l7, hx8, hF⟩ := bind_in hF
 refine gx_s (st_storeix rfl (by kernel_rfl) (by kernel_rfl) (fun _ => by kernel_rfl) hS0 0 rfl hx8) ?_
 rintro w5 hS6
 have hS6 : St _ _ w5 [rowE .u8 33 A0 c0 l7] := hS6
 refine gx_nil ?_
 refine gx_thenN ?_
 refine hK2 _ _ ?_
 refine gx_seq (fun K9 hK10 => ?_)
 refine gx_region ?_
 refine gx_k (.int .i64 p2) w5 (gx_k (.int .i64 (IntKind.i64.wrap (p2 + 1))) w5 (gx_k (.int .i64 (IntKind.i64.wrap (p2 + 1))) w5 ?_))
 refine gx_nil ?_
 refine gx_thenN ?_
 refine hK10 _ _ ?_
 refine gx_block ?_
 refine gx_loop (fun k a w => ∃ (l15 : List Int) (x16 : Int), selfA (fun u13 => ⟨((.slice A0 p0.length c0) :: (.slice A1 p1.length c1) :: (.int .i64 p2) :: (.int .u8 p3) :: un 4 ((.int .i64 x16) :: (u13 9) :: (.int .i64 p2) :: (.int .u8 p3) :: (.pointer (Option.map (fun (p : Addr) => p.add (Int.toNat p2 * 1)) A0)) :: (.int .i64 p2) :: (.int .i64 (IntKind.i64.wrap (p2 + 1))) :: dd u13 15 29 ([]))).toArray, []⟩) a ∧ rSet_L1 N p0 p1 p3 k l15 x16 = some r ∧ St (foots [rowE .u8 33 A0 c0 p0]) w0 w [rowE .u8 33 A0 c0 l15] ∧ p0.length = l15.length) N ?_ ?_
 ·exact ⟨l7, (IntKind.i64.wrap (p2 + 1)), selfA_i (by kernel_rfl), hF, hS6, (setx_len hx8).symm⟩
 ·rintro k17 _ w11 ⟨l15, x16, hq56, hL18, hS12, hn14⟩
  obtain ⟨u13, rfl⟩ := selfA_u hq56
  cases k17 with
  | zero => cases hL18
  | succ k17 =>
   first | rw [rSet_L1] at hL18 | unfold rSet_L1 at hL18
   refine gx_seq (fun K19 hK20 => ?_)
   refine gx_seq (fun K21 hK22 => ?_)
   refine gx_region ?_
   refine gx_k (.int .i64 x16) w11 (gx_k (.slice A0 p0.length c0) w11 (gx_k (.int .i64 ((p0.length : Nat) : Int)) w11 ?_))
   rcases if_in hL18 with ⟨h23, hL18⟩ | ⟨h23, hL18⟩
   ·refine gx_v (.bool true) w11 (run_boolE (decide_eq_true h23) (by kernel_rfl)) ?_
    refine gx_k (.bool true) w11 (gx_k (.slice A0 p0.length c0) w11 (gx_k (.int .i64 x16) w11 ?_))
    obtain ⟨x24, hx25, hL18⟩ := bind_in hL18
    refine gx_v (.pointer (Option.map (fun (p : Addr) => p.add (Int.toNat x16 * 1)) A0)) w11 (run_ixaddr (E := 33) (s := 1) (k := .i64) (c := c0) rfl (by kernel_rfl) (by kernel_rfl) (by kernel_rfl) (fun _ => by kernel_rfl) (ix_in hx25).1 (lt_len hn14 (ix_in hx25).2.1) (nil_len hn14 (num_nil (hS12.row 0 rfl).1))) ?_
    refine gx_v (.int .u8 x24) w11 (run_loadix rfl (by kernel_rfl) (fun _ => by kernel_rfl) (hS12.row 0 rfl).1 hx25) ?_
    rcases if_in hL18 with ⟨h26, hL18⟩ | ⟨h26, hL18⟩
    ·refine gx_v (.bool true) w11 (run_boolE (decide_eq_true h26) (by kernel_rfl)) ?_
     refine gx_k (.bool true) w11 (gx_o (gx_o (gx_o (gx_o (gx_o (gx_k (.bool true) w11 (gx_k (.bool true) w11 ?_)))))))
     refine gx_nil ?_
     refine gx_thenN ?_
     refine hK22 _ _ ?_
     refine gx_yes (by kernel_rfl) ?_
     refine gx_pass ?_
     refine gx_thenN ?_
     refine hK20 _ _ ?_
     refine gx_seq (fun K27 hK28 => ?_)
     refine gx_block ?_
     refine gx_seq (fun K29 hK30 => ?_)
     refine gx_region ?_
     refine gx_k (.slice A0 p0.length c0) w11 (gx_k (.int .i64 x16) w11 ?_)
     obtain ⟨x31, hx32, hL18⟩ := bind_in hL18
     refine gx_v (.pointer (Option.map (fun (p : Addr) => p.add (Int.toNat x16 * 1)) A0)) w11 (run_ixaddr (E := 33) (s := 1) (k := .i64) (c := c0) rfl (by kernel_rfl) (by kernel_rfl) (by kernel_rfl) (fun _ => by kernel_rfl) (ix_in hx32).1 (lt_len hn14 (ix_in hx32).2.1) (nil_len hn14 (num_nil (hS12.row 0 rfl).1))) ?_
     refine gx_v (.int .u8 x31) w11 (run_loadix rfl (by kernel_rfl) (fun _ => by kernel_rfl) (hS12.row 0 rfl).1 hx32) ?_
     rcases if_in hL18 with ⟨h33, hL18⟩ | ⟨h33, hL18⟩
     ·refine gx_v (.bool true) w11 (run_boolE (ne_yes h33) (by kernel_rfl)) ?_
      refine gx_nil ?_
      refine gx_thenN ?_
      refine hK30 _ _ ?_
      refine gx_yes (by kernel_rfl) ?_
      refine gx_region ?_
      refine gx_k (.slice A0 p0.length c0) w11 (gx_k (.int .i64 x16) w11 (gx_k (.int .u8 p3) w11 ?_))
      obtain ⟨x34, hx35, hL18⟩ := bind_in hL18
      refine gx_v (.pointer (Option.map (fun (p : Addr) => p.add (Int.toNat x16 * 1)) A0)) w11 (run_ixaddr (E := 33) (s := 1) (k := .i64) (c := c0) rfl (by kernel_rfl) (by kernel_rfl) (by kernel_rfl) (fun _ => by kernel_rfl) (ix_in hx35).1 (lt_len hn14 (ix_in hx35).2.1) (nil_len hn14 (num_nil (hS12.row 0 rfl).1))) ?_
      obtain ⟨l38, hx39, hL18⟩ := bind_in hL18
      refine gx_s (st_storeix rfl (by kernel_rfl) (by kernel_rfl) (fun _ => by kernel_rfl) hS12 0 rfl hx39) ?_
      rintro w36 hS37
      have hS37 : St _ _ w36 [rowE .u8 33 A0 c0 l38] := hS37
      refine gx_nil ?_
      refine gx_blkN ?_
      refine gx_thenN ?_
      refine hK28 _ _ ?_
      refine gx_region ?_
      refine gx_k (.int .i64 x16) w36 (gx_k (.int .i64 (IntKind.i64.wrap (x16 + 1))) w36 (gx_k (.int .i64 (IntKind.i64.wrap (x16 + 1))) w36 ?_))
      refine gx_nil ?_
      refine gx_thenN ?_
      exact ⟨k17, Nat.lt_succ_self k17, l38, (IntKind.i64.wrap (x16 + 1)), selfA_i (by kernel_rfl), hL18, hS37, (hn14.trans (setx_len hx39).symm)⟩
     ·refine gx_v (.bool false) w11 (run_boolE (ne_no h33) (by kernel_rfl)) ?_
      refine gx_nil ?_
      refine gx_thenN ?_
      refine hK30 _ _ ?_
      refine gx_no (by kernel_rfl) ?_
      refine gx_pass ?_
      refine gx_blkN ?_
      refine gx_thenN ?_
      refine hK28 _ _ ?_
      refine gx_region ?_
      refine gx_k (.int .i64 x16) w11 (gx_k (.int .i64 (IntKind.i64.wrap (x16 + 1))) w11 (gx_k (.int .i64 (IntKind.i64.wrap (x16 + 1))) w11 ?_))
      refine gx_nil ?_
      refine gx_thenN ?_
      exact ⟨k17, Nat.lt_succ_self k17, l15, (IntKind.i64.wrap (x16 + 1)), selfA_i (by kernel_rfl), hL18, hS12, hn14⟩
    ·refine gx_v (.bool false) w11 (run_boolE (decide_eq_false h26) (by kernel_rfl)) ?_
     refine gx_k (.bool false) w11 (gx_k (.slice A1 p1.length c1) w11 (gx_k (.int .i64 x16) w11 ?_))
     obtain ⟨x40, hx41, hL18⟩ := bind_in hL18
     refine gx_v (.pointer (Option.map (fun (p : Addr) => p.add (Int.toNat x16 * 1)) A1)) w11 (run_ixaddr (E := 33) (s := 1) (k := .i64) (c := c1) rfl (by kernel_rfl) (by kernel_rfl) (by kernel_rfl) (fun _ => by kernel_rfl) (ix_in hx41).1 (ix_in hx41).2.1 (num_nil (hS12.view hv1))) ?_
     refine gx_v (.int .u8 x40) w11 (run_loadix rfl (by kernel_rfl) (fun _ => by kernel_rfl) (hS12.view hv1) hx41) ?_
     rcases if_in hL18 with ⟨h42, hL18⟩ | ⟨h42, hL18⟩
     ·refine gx_v (.bool true) w11 (run_boolE (decide_eq_true h42) (by kernel_rfl)) ?_
      refine gx_k (.bool true) w11 (gx_k (.bool true) w11 ?_)
      refine gx_nil ?_
      refine gx_thenN ?_
      refine hK22 _ _ ?_
      refine gx_yes (by kernel_rfl) ?_
      refine gx_pass ?_
      refine gx_thenN ?_
      refine hK20 _ _ ?_
      refine gx_seq (fun K43 hK44 => ?_)
      refine gx_block ?_
      refine gx_seq (fun K45 hK46 => ?_)
      refine gx_region ?_
      refine gx_k (.slice A0 p0.length c0) w11 (gx_k (.int .i64 x16) w11 ?_)
      obtain ⟨x47, hx48, hL18⟩ := bind_in hL18
      refine gx_v (.pointer (Option.map (fun (p : Addr) => p.add (Int.toNat x16 * 1)) A0)) w11 (run_ixaddr (E := 33) (s := 1) (k := .i64) (c := c0) rfl (by kernel_rfl) (by kernel_rfl) (by kernel_rfl) (fun _ => by kernel_rfl) (ix_in hx48).1 (lt_len hn14 (ix_in hx48).2.1) (nil_len hn14 (num_nil (hS12.row 0 rfl).1))) ?_
      refine gx_v (.int .u8 x47) w11 (run_loadix rfl (by kernel_rfl) (fun _ => by kernel_rfl) (hS12.row 0 rfl).1 hx48) ?_
      rcases if_in hL18 with ⟨h49, hL18⟩ | ⟨h49, hL18⟩
      ·refine gx_v (.bool true) w11 (run_boolE (ne_yes h49) (by kernel_rfl)) ?_
       refine gx_nil ?_
       refine gx_thenN ?_
       refine hK46 _ _ ?_
       refine gx_yes (by kernel_rfl) ?_
       refine gx_region ?_
       refine gx_k (.slice A0 p0.length c0) w11 (gx_k (.int .i64 x16) w11 (gx_k (.int .u8 p3) w11 ?_))
       obtain ⟨x50, hx51, hL18⟩ := bind_in hL18
       refine gx_v (.pointer (Option.map (fun (p : Addr) => p.add (Int.toNat x16 * 1)) A0)) w11 (run_ixaddr (E := 33) (s := 1) (k := .i64) (c := c0) rfl (by kernel_rfl) (by kernel_rfl) (by kernel_rfl) (fun _ => by kernel_rfl) (ix_in hx51).1 (lt_len hn14 (ix_in hx51).2.1) (nil_len hn14 (num_nil (hS12.row 0 rfl).1))) ?_
       obtain ⟨l54, hx55, hL18⟩ := bind_in hL18
       refine gx_s (st_storeix rfl (by kernel_rfl) (by kernel_rfl) (fun _ => by kernel_rfl) hS12 0 rfl hx55) ?_
       rintro w52 hS53
       have hS53 : St _ _ w52 [rowE .u8 33 A0 c0 l54] := hS53
       refine gx_nil ?_
       refine gx_blkN ?_
       refine gx_thenN ?_
       refine hK44 _ _ ?_
       refine gx_region ?_
       refine gx_k (.int .i64 x16) w52 (gx_k (.int .i64 (IntKind.i64.wrap (x16 + 1))) w52 (gx_k (.int .i64 (IntKind.i64.wrap (x16 + 1))) w52 ?_))
       refine gx_nil ?_
       refine gx_thenN ?_
       exact ⟨k17, Nat.lt_succ_self k17, l54, (IntKind.i64.wrap (x16 + 1)), selfA_i (by kernel_rfl), hL18, hS53, (hn14.trans (setx_len hx55).symm)⟩
      ·refine gx_v (.bool false) w11 (run_boolE (ne_no h49) (by kernel_rfl)) ?_
       refine gx_nil ?_
       refine gx_thenN ?_
       refine hK46 _ _ ?_
       refine gx_no (by kernel_rfl) ?_
       refine gx_pass ?_
       refine gx_blkN ?_
       refine gx_thenN ?_
       refine hK44 _ _ ?_
       refine gx_region ?_
       refine gx_k (.int .i64 x16) w11 (gx_k (.int .i64 (IntKind.i64.wrap (x16 + 1))) w11 (gx_k (.int .i64 (IntKind.i64.wrap (x16 + 1))) w11 ?_))
       refine gx_nil ?_
       refine gx_thenN ?_
       exact ⟨k17, Nat.lt_succ_self k17, l15, (IntKind.i64.wrap (x16 + 1)), selfA_i (by kernel_rfl), hL18, hS12, hn14⟩
     ·refine gx_v (.bool false) w11 (run_boolE (decide_eq_false h42) (by kernel_rfl)) ?_
      refine gx_k (.bool false) w11 (gx_k (.bool false) w11 ?_)
      refine gx_nil ?_
      refine gx_thenN ?_
      refine hK22 _ _ ?_
      refine gx_no (by kernel_rfl) ?_
      refine gx_exit ?_
      refine gx_thenE ?_
      refine gx_thenE ?_
      refine gx_blkE ?_
      obtain rfl := Option.some.inj hL18
      exact gx_finN (.tuple #[]) (by kernel_rfl) (by kernel_rfl) ⟨_, rfl, rfl, hS12, (hn14).symm⟩
   ·refine gx_v (.bool false) w11 (run_boolE (decide_eq_false h23) (by kernel_rfl)) ?_
    refine gx_k (.bool false) w11 (gx_o (gx_o (gx_o (gx_o (gx_o (gx_o (gx_o ?_)))))))
    refine gx_o (gx_o (gx_o (gx_o (gx_o (gx_k (.bool false) w11 ?_)))))
    refine gx_nil ?_
    refine gx_thenN ?_
    refine hK22 _ _ ?_
    refine gx_no (by kernel_rfl) ?_
    refine gx_exit ?_
    refine gx_thenE ?_
    refine gx_thenE ?_
    refine gx_blkE ?_
    obtain rfl := Option.some.inj hL18
    exact gx_finN (.tuple #[]) (by kernel_rfl) (by kernel_rfl) ⟨_, rfl, rfl, hS12, (hn14).symm⟩

def rPairs_L1 (N : Nat) (p1 : List Int) (p4 : Int) (x44 : Int) (x45 : Int) (l58 : List (Int × Int)) : Nat → (List Int) → Int → Option (List Int)
 | 0, _, _ => none
 | k91+1, l89, x90 => (if x90 < ((l58.length : Nat) : Int) then ((ixg l58 x90).bind fun x102 => ((cutx l89 (IntKind.i64.wrap (x102.1 + 1)) x102.2).bind fun l121 => ((rAmong N l121 x44).bind fun b135 => (match b135 with | true => ((rSet N l89 p1 x102.1 x44).bind fun l143 => ((rSet N l143 p1 x102.2 x44).bind fun l150 => rPairs_L1 N p1 p4 x44 x45 l58 k91 l150 (IntKind.i64.wrap (x90 + 1)))) | false => ((rAmong N l121 x45).bind fun b161 => (match b161 with | true => ((cutx l89 (0 : Int) x102.1).bind fun l167 => ((rAhead N l167 p4).bind fun x175 => (if x175 = x45 then ((rSet N l89 p1 x102.1 x45).bind fun l184 => ((rSet N l184 p1 x102.2 x45).bind fun l191 => rPairs_L1 N p1 p4 x44 x45 l58 k91 l191 (IntKind.i64.wrap (x90 + 1)))) else ((rSet N l89 p1 x102.1 x44).bind fun l200 => ((rSet N l200 p1 x102.2 x44).bind fun l207 => rPairs_L1 N p1 p4 x44 x45 l58 k91 l207 (IntKind.i64.wrap (x90 + 1))))))) | false => rPairs_L1 N p1 p4 x44 x45 l58 k91 l89 (IntKind.i64.wrap (x90 + 1)))))))) else some (l89))
def rPairs (N : Nat) (p0 : List Int) (p1 : List Int) (p2 : List Int) (p3 : Int) (p4 : Int) : Option (List Int × Int) :=
 (if ((p0.length : Nat) : Int) > 65536 then some ([], 3) else (((if ((p1.length : Nat) : Int) ≠ ((p0.length : Nat) : Int) then some (Ctl.ret ([], 2)) else (if ((p2.length : Nat) : Int) ≠ ((p0.length : Nat) : Int) then some (Ctl.ret ([], 2)) else some (Ctl.go ()))) : Option (Ctl (Unit) (List Int × Int))).bind fun | Ctl.go () => ((apx ([]) p2).bind fun l32 => (((if (Int.tmod p3 2) = 1 then some ((2, 1)) else some ((1, 2))) : Option (Int × Int)).bind fun (x44, x45) => ((rPrs N p0 p2).bind fun l58 => ((rPairs_L1 N p1 p4 x44 x45 l58 N l32 0 : Option (List Int)).bind fun l79 => some (l79, 0))))) | Ctl.ret r => some r))

set_option linter.unusedVariables false in
def rPairs_R (r : List Int × Int) (w0 : World) (v : Value) (w : World) : Prop := ∃ (A0' : Option Addr) (c0' : Nat), v = .tuple #[.slice A0' r.1.length c0', .int .i64 r.2] ∧ St [] w0 w [rowE .u8 33 A0' c0' r.1]

set_option maxRecDepth 100000 in
set_option maxHeartbeats 4000000 in
theorem rPairs_ok (N : Nat) (p0 : List Int) (p1 : List Int) (p2 : List Int) (p3 : Int) (p4 : Int) (A0 : Option Addr) (c0 : Nat) (A1 : Option Addr) (c1 : Nat) (A2 : Option Addr) (c2 : Nat) (r : List Int × Int) (hF : rPairs N p0 p1 p2 p3 p4 = some r) (w0 : World) (hv0 : Vw [] .i32 w0 A0 c0 p0) (hv1 : Vw [] .u8 w0 A1 c1 p1) (hv2 : Vw [] .u8 w0 A2 c2 p2) :
  Calls Tryd.prog 19 #[.slice A0 p0.length c0, .slice A1 p1.length c1, .slice A2 p2.length c2, .int .u8 p3, .int .u8 p4] w0 fun e w => ∃ v, e = .returned v ∧ rPairs_R r w0 v w := by
 have hS0 := (St.start w0).pool0
 unfold rPairs at hF
 refine calls_of Tryd.func19 rfl ⟨((.slice A0 p0.length c0) :: (.slice A1 p1.length c1) :: (.slice A2 p2.length c2) :: (.int .u8 p3) :: (.int .u8 p4) :: un 87 ([])).toArray, []⟩ (by kernel_rfl) ?_
 refine gx_seq (fun K1 hK2 => ?_)
 refine gx_region ?_
 refine gx_k (.slice none 0 0) w0 (gx_k (.int .i64 0) w0 ?_)
 refine gx_nil ?_
 refine gx_thenN ?_
 refine hK2 _ _ ?_
 refine gx_seq (fun K3 hK4 => ?_)
 refine gx_seq (fun K5 hK6 => ?_)
 refine gx_region ?_
 refine gx_k (.slice A0 p0.length c0) w0 (gx_k (.int .i64 ((p0.length : Nat) : Int)) w0 ?_)
 rcases if_in hF with ⟨h7, hF⟩ | ⟨h7, hF⟩
 ·refine gx_v (.bool true) w0 (run_boolE (decide_eq_true h7) (by kernel_rfl)) ?_
  refine gx_nil ?_
  refine gx_thenN ?_
  refine hK6 _ _ ?_
  refine gx_yes (by kernel_rfl) ?_
  refine gx_seq (fun K8 hK9 => ?_)
  refine gx_region ?_
  refine gx_k (.slice none 0 0) w0 (gx_k (.int .i64 3) w0 ?_)
  refine gx_nil ?_
  refine gx_thenN ?_
  refine hK9 _ _ ?_
  refine gx_ret ?_
  refine gx_thenR ?_
  have hS10 : St _ _ w0 [poolE ([]) w0, rowE .u8 33 none 0 ([])] := hS0.nilrow .u8 33
  obtain rfl := Option.some.inj hF
  exact gx_fin (.tuple #[.slice none (([] : List Int).length) 0, .int .i64 3]) (by kernel_rfl) (by kernel_rfl) ⟨_, rfl, none, 0, rfl, (hS10.pick [1] rfl rfl)⟩
 ·refine gx_v (.bool false) w0 (run_boolE (decide_eq_false h7) (by kernel_rfl)) ?_
  refine gx_nil ?_
  refine gx_thenN ?_
  refine hK6 _ _ ?_
  refine gx_no (by kernel_rfl) ?_
  refine gx_pass ?_
  refine gx_thenN ?_
  refine hK4 _ _ ?_
  obtain ⟨c14, hE15, hO16⟩ := bind_in hF
  refine gx_cut (fun a w => selfA (fun u13 => ⟨((.slice A0 p0.length c0) :: (.slice A1 p1.length c1) :: (.slice A2 p2.length c2) :: (.int .u8 p3) :: (.int .u8 p4) :: un 5 (dd u13 10 2 (un 8 ((u13 20) :: (.int .i64 ((p0.length : Nat) : Int)) :: (.bool false) :: dd u13 23 12 (un 57 ([])))))).toArray, []⟩) a ∧ Ctl.go () = c14 ∧ St [] w0 w [poolE ([]) w0]) ?_ ?_
  ·refine gx_seq (fun K17 hK18 => ?_)
   refine gx_region ?_
   refine gx_k (.slice A1 p1.length c1) w0 (gx_k (.int .i64 ((p1.length : Nat) : Int)) w0 (gx_k (.slice A0 p0.length c0) w0 (gx_k (.int .i64 ((p0.length : Nat) : Int)) w0 ?_)))
   rcases if_in hE15 with ⟨h19, hE15⟩ | ⟨h19, hE15⟩
   ·refine gx_v (.bool true) w0 (run_boolE (ne_yes h19) (by kernel_rfl)) ?_
    refine gx_k (.bool true) w0 (gx_o (gx_o (gx_o (gx_o (gx_o (gx_k (.bool true) w0 ?_))))))
    refine gx_nil ?_
    refine gx_thenN ?_
    refine hK18 _ _ ?_
    refine gx_yes (by kernel_rfl) ?_
    refine gx_seq (fun K20 hK21 => ?_)
    refine gx_region ?_
    refine gx_k (.slice none 0 0) w0 (gx_k (.int .i64 2) w0 ?_)
    refine gx_nil ?_
    refine gx_thenN ?_
    refine hK21 _ _ ?_
    refine gx_ret ?_
    refine gx_thenR ?_
    obtain rfl := Option.some.inj hE15
    try dsimp only at hO16
    have hS22 : St _ _ w0 [poolE ([]) w0, rowE .u8 33 none 0 ([])] := hS0.nilrow .u8 33
    obtain rfl := Option.some.inj hO16
    exact gx_fin (.tuple #[.slice none (([] : List Int).length) 0, .int .i64 2]) (by kernel_rfl) (by kernel_rfl) ⟨_, rfl, none, 0, rfl, (hS22.pick [1] rfl rfl)⟩
   ·refine gx_v (.bool false) w0 (run_boolE (ne_no h19) (by kernel_rfl)) ?_
    refine gx_k (.bool false) w0 (gx_k (.slice A2 p2.length c2) w0 (gx_k (.int .i64 ((p2.length : Nat) : Int)) w0 (gx_k (.slice A0 p0.length c0) w0 (gx_k (.int .i64 ((p0.length : Nat) : Int)) w0 ?_))))
    rcases if_in hE15 with ⟨h23, hE15⟩ | ⟨h23, hE15⟩
    ·refine gx_v (.bool true) w0 (run_boolE (ne_yes h23) (by kernel_rfl)) ?_
     refine gx_k (.bool true) w0 ?_
     refine gx_nil ?_
     refine gx_thenN ?_
     refine hK18 _ _ ?_
     refine gx_yes (by kernel_rfl) ?_
     refine gx_seq (fun K24 hK25 => ?_)
     refine gx_region ?_
     refine gx_k (.slice none 0 0) w0 (gx_k (.int .i64 2) w0 ?_)
     refine gx_nil ?_
     refine gx_thenN ?_
     refine hK25 _ _ ?_
     refine gx_ret ?_
     refine gx_thenR ?_
     obtain rfl := Option.some.inj hE15
     try dsimp only at hO16
     have hS26 : St _ _ w0 [poolE ([]) w0, rowE .u8 33 none 0 ([])] := hS0.nilrow .u8 33
     obtain rfl := Option.some.inj hO16
     exact gx_fin (.tuple #[.slice none (([] : List Int).length) 0, .int .i64 2]) (by kernel_rfl) (by kernel_rfl) ⟨_, rfl, none, 0, rfl, (hS26.pick [1] rfl rfl)⟩
    ·refine gx_v (.bool false) w0 (run_boolE (ne_no h23) (by kernel_rfl)) ?_
     refine gx_k (.bool false) w0 ?_
     refine gx_nil ?_
     refine gx_thenN ?_
     refine hK18 _ _ ?_
     refine gx_no (by kernel_rfl) ?_
     refine gx_pass ?_
     refine gx_thenN ?_
     exact ⟨selfA_i (by kernel_rfl), (Option.some.inj hE15), hS0⟩
  ·rintro _ w11 ⟨hq217, rfl, hS12⟩
   obtain ⟨u13, rfl⟩ := selfA_u hq217
   try dsimp only at hO16
   refine gx_seq (fun K27 hK28 => ?_)
   refine gx_region ?_
   refine gx_k (.slice none 0 0) w11 ?_
   refine gx_nil ?_
   refine gx_thenN ?_
   refine hK28 _ _ ?_
   refine gx_seq (fun K29 hK30 => ?_)
   refine gx_region ?_
   refine gx_k (.slice none 0 0) w11 (gx_k (.slice A2 p2.length c2) w11 ?_)
   have hS31 : St _ _ w11 [poolE ([]) w0, rowE .u8 33 none 0 ([])] := hS12.nilrow .u8 33
   obtain ⟨l32, ha33, hO16⟩ := bind_in hO16
   obtain ⟨ha33, hq34⟩ := apx_in ha33
   refine gx_r (st_append rfl (by kernel_rfl) (by kernel_rfl) hS31 1 rfl (hS31.view hv2) hv2.nn ha33 (by kernel_rfl) (by kernel_rfl)) ?_
   rintro _ w37 ⟨A35, c36, rfl, hS38⟩
   rw [← hq34] at hS38 ⊢
   have hS38 : St _ _ w37 [poolE ([]) w0, rowE .u8 33 A35 c36 l32] := hS38
   refine gx_k (.slice A35 l32.length c36) w37 ?_
   refine gx_nil ?_
   refine gx_thenN ?_
   refine hK30 _ _ ?_
   refine gx_seq (fun K39 hK40 => ?_)
   refine gx_region ?_
   refine gx_k (.int .u8 1) w37 (gx_k (.int .u8 2) w37 ?_)
   refine gx_nil ?_
   refine gx_thenN ?_
   refine hK40 _ _ ?_
   obtain ⟨c46, hE47, hO48⟩ := bind_in hO16
   refine gx_cut (fun a w => ∃ (x44 : Int) (x45 : Int), selfA (fun u43 => ⟨((.slice A0 p0.length c0) :: (.slice A1 p1.length c1) :: (.slice A2 p2.length c2) :: (.int .u8 p3) :: (.int .u8 p4) :: un 5 (dd u13 10 2 ((.slice A35 l32.length c36) :: (.int .u8 x44) :: (.int .u8 x45) :: un 5 ((u13 20) :: (.int .i64 ((p0.length : Nat) : Int)) :: (.bool false) :: dd u13 23 12 ((.slice none 0 0) :: dd u43 36 5 (un 51 ([]))))))).toArray, []⟩) a ∧ (x44, x45) = c46 ∧ St [] w0 w [poolE ([]) w0, rowE .u8 33 A35 c36 l32]) ?_ ?_
   ·refine gx_seq (fun K49 hK50 => ?_)
    refine gx_region ?_
    refine gx_k (.int .u8 p3) w37 (gx_k (.int .u8 (Int.tmod p3 2)) w37 ?_)
    rcases if_in hE47 with ⟨h51, hE47⟩ | ⟨h51, hE47⟩
    ·refine gx_v (.bool true) w37 (run_boolE (decide_eq_true h51) (by kernel_rfl)) ?_
     refine gx_nil ?_
     refine gx_thenN ?_
     refine hK50 _ _ ?_
     refine gx_yes (by kernel_rfl) ?_
     refine gx_seq (fun K52 hK53 => ?_)
     refine gx_region ?_
     refine gx_k (.int .u8 2) w37 ?_
     refine gx_nil ?_
     refine gx_thenN ?_
     refine hK53 _ _ ?_
     refine gx_region ?_
     refine gx_k (.int .u8 1) w37 ?_
     refine gx_nil ?_
     refine gx_thenN ?_
     exact ⟨2, 1, selfA_i (by kernel_rfl), (Option.some.inj hE47), hS38⟩
    ·refine gx_v (.bool false) w37 (run_boolE (decide_eq_false h51) (by kernel_rfl)) ?_
     refine gx_nil ?_
     refine gx_thenN ?_
     refine hK50 _ _ ?_
     refine gx_no (by kernel_rfl) ?_
     refine gx_pass ?_
     refine gx_thenN ?_
     exact ⟨1, 2, selfA_i (by kernel_rfl), (Option.some.inj hE47), hS38⟩
   ·rintro _ w41 ⟨x44, x45, hq216, rfl, hS42⟩
    obtain ⟨u43, rfl⟩ := selfA_u hq216
    try dsimp only at hO48
    refine gx_seq (fun K54 hK55 => ?_)
    refine gx_region ?_
    refine gx_k (.slice A0 p0.length c0) w41 (gx_k (.slice A2 p2.length c2) w41 ?_)
    have hP56 : St _ _ w41 ([] ++ [poolE ([]) w0, rowE .u8 33 A35 c36 l32]) := hS42
    obtain ⟨l58, hc57, hO48⟩ := bind_in hO48
    try dsimp only at hO48
    refine gx_c (rPrs_R l58 w41) (rPrs_ok N p0 p2 A0 c0 A2 c2 _ hc57 w41 (hP56.vwA hv0) (hP56.vwA hv2)) ?_
    rintro _ w64 ⟨A59, c60, vs61, ft63, rfl, hT66, hf62⟩
    have hS65 : St _ _ w64 [poolE ([]) w0, rowE .u8 33 A35 c36 l32, rowG 31 2 (.slice A59 l58.length c60) l58.length vs61, poolE ft63 w64] := hS42.take _ hT66
    obtain ⟨ft67, W68, hS69, hT70, hU71⟩ := hS65.merge 3 0 rfl rfl (by decide)
    have hS69 : St _ _ w64 [poolE ft67 W68, rowE .u8 33 A35 c36 l32, rowG 31 2 (.slice A59 l58.length c60) l58.length vs61] := hS69
    have hT70 : Turn [] w0 w0 ([]) W68 ft67 := hT70
    have hf74 : (fEach (pairE (intE .i64) (intE .i64)) vs61 l58).rd W68 ft67 := hU71 _ hf62
    refine gx_k (.slice A59 l58.length c60) w64 ?_
    refine gx_nil ?_
    refine gx_thenN ?_
    refine hK55 _ _ ?_
    obtain ⟨c80, hE81, hO82⟩ := bind_in hO48
    refine gx_cut (fun a w => ∃ (l79 : List Int), selfA (fun u77 => ⟨(dd u77 0 3 ((.int .u8 p3) :: (.int .u8 p4) :: un 5 (dd u13 10 2 ((.slice A35 l32.length c36) :: (.int .u8 x44) :: (.int .u8 x45) :: dd u77 15 5 ((u13 20) :: (.int .i64 ((p0.length : Nat) : Int)) :: (.bool false) :: dd u13 23 12 ((.slice none 0 0) :: dd u43 36 5 (dd u77 41 50 (undef :: [])))))))).toArray, []⟩) a ∧ l79 = c80 ∧ St [] w0 w [poolE ft67 W68, rowE .u8 33 A35 c36 l79] ∧ l32.length = l79.length) ?_ ?_
    ·refine gx_seq (fun K83 hK84 => ?_)
     refine gx_region ?_
     refine gx_k (.int .i64 0) w64 ?_
     refine gx_nil ?_
     refine gx_thenN ?_
     refine hK84 _ _ ?_
     refine gx_block ?_
     refine gx_loop (fun k a w => ∃ (l89 : List Int) (x90 : Int), selfA (fun u87 => ⟨((u87 0) :: (.slice A1 p1.length c1) :: (u87 2) :: (.int .u8 p3) :: (.int .u8 p4) :: un 5 (dd u13 10 2 ((.slice A35 l32.length c36) :: (.int .u8 x44) :: (.int .u8 x45) :: (.slice A59 l58.length c60) :: (.int .i64 x90) :: dd u87 17 3 ((u13 20) :: (.int .i64 ((p0.length : Nat) : Int)) :: (.bool false) :: dd u13 23 12 ((.slice none 0 0) :: dd u43 36 5 (dd u87 41 50 (undef :: []))))))).toArray, []⟩) a ∧ rPairs_L1 N p1 p4 x44 x45 l58 k l89 x90 = some c80 ∧ St [] w0 w [poolE ft67 W68, rowE .u8 33 A35 c36 l89, rowG 31 2 (.slice A59 l58.length c60) l58.length vs61] ∧ l32.length = l89.length) N ?_ ?_
     ·exact ⟨l32, 0, selfA_i (by kernel_rfl), hE81, hS69, rfl⟩
     ·rintro k91 _ w85 ⟨l89, x90, hq212, hL92, hS86, hn88⟩
      obtain ⟨u87, rfl⟩ := selfA_u hq212
      cases k91 with
      | zero => cases hL92
      | succ k91 =>
       first | rw [rPairs_L1] at hL92 | unfold rPairs_L1 at hL92
       refine gx_seq (fun K93 hK94 => ?_)
       refine gx_seq (fun K95 hK96 => ?_)
       refine gx_region ?_
       refine gx_k (.int .i64 x90) w85 (gx_k (.slice A59 l58.length c60) w85 (gx_k (.int .i64 ((l58.length : Nat) : Int)) w85 ?_))
       rcases if_in hL92 with ⟨h97, hL92⟩ | ⟨h97, hL92⟩
       ·refine gx_v (.bool true) w85 (run_boolE (decide_eq_true h97) (by kernel_rfl)) ?_
        refine gx_nil ?_
        refine gx_thenN ?_
        refine hK96 _ _ ?_
        refine gx_yes (by kernel_rfl) ?_
        refine gx_pass ?_
        refine gx_thenN ?_
        refine hK94 _ _ ?_
        refine gx_seq (fun K98 hK99 => ?_)
        refine gx_block ?_
        refine gx_seq (fun K100 hK101 => ?_)
        refine gx_region ?_
        refine gx_k (.slice A59 l58.length c60) w85 (gx_k (.int .i64 x90) w85 ?_)
        obtain ⟨x102, hx103, hL92⟩ := bind_in hL92
        obtain ⟨g104, o105, e106, hA107, he108, h109, ha110⟩ := elem_at (e := (pairE (intE .i64) (intE .i64))) (rowG_lies (e := (pairE (intE .i64) (intE .i64))) rfl (hS86.get 2 rfl)) hf74 hx103 (by decide)
        obtain ⟨e111, e112, rfl, h113, h114⟩ := h109
        obtain rfl := h113
        obtain rfl := h114
        have ha110 : ∀ w', Lies w' A59 vs61 → w'.rangeAt g104 o105 [.int .i64 x102.1, .int .i64 x102.2] := ha110
        refine gx_v (.pointer (some ⟨g104, o105, none⟩)) w85 (run_ixaddrN (E := 31) (s := 2) (k := .i64) (c := c60) rfl (by kernel_rfl) (by kernel_rfl) (by kernel_rfl) (fun _ => by kernel_rfl) (ixg_in hx103).1 (ixg_in hx103).2.1 hA107) ?_
        refine gx_v (.agg #[.int .i64 x102.1, .int .i64 x102.2]) w85 (run_loadNG (d := _) (ec := [.int .i64 x102.1, .int .i64 x102.2]) rfl (by kernel_rfl) (ha110 _ (rowG_lies (e := (pairE (intE .i64) (intE .i64))) rfl (hS86.get 2 rfl))) rfl rfl (by kernel_rfl)) ?_
        refine gx_r (st_boxed [.int .i64 0, .int .i64 0] 31 hS86 (by kernel_rfl)) ?_
        rintro _ w115 ⟨rfl, hS116⟩
        have hS116 : St _ _ w115 [poolE ft67 W68, rowE .u8 33 A35 c36 l89, rowG 31 2 (.slice A59 l58.length c60) l58.length vs61, boxE w85.heap.size [.int .i64 0, .int .i64 0] 31] := hS116
        refine gx_s (st_storeG (cs := [.int .i64 0, .int .i64 0]) (ds := [.int .i64 x102.1, .int .i64 x102.2]) rfl (by kernel_rfl) (by kernel_rfl) (by kernel_rfl) rfl rfl hS116 3 rfl) ?_
        rintro w117 hS118
        have hS118 : St _ _ w117 [poolE ft67 W68, rowE .u8 33 A35 c36 l89, rowG 31 2 (.slice A59 l58.length c60) l58.length vs61, boxE w85.heap.size [.int .i64 x102.1, .int .i64 x102.2] 31] := hS118
        refine gx_nil ?_
        refine gx_thenN ?_
        refine hK101 _ _ ?_
        refine gx_seq (fun K119 hK120 => ?_)
        refine gx_region ?_
        refine gx_k (.slice A35 l32.length c36) w117 (gx_k (.pointer (some ⟨w85.heap.size, 0, none⟩)) w117 ?_)
        refine gx_v (.int .i64 x102.1) w117 (run_load1 rfl (by kernel_rfl) (fun _ => by kernel_rfl) (hS118.box 3 rfl 0 rfl)) ?_
        refine gx_k (.int .i64 (IntKind.i64.wrap (x102.1 + 1))) w117 (gx_k (.pointer (some ⟨w85.heap.size, 1, none⟩)) w117 ?_)
        refine gx_v (.int .i64 x102.2) w117 (run_load1 rfl (by kernel_rfl) (fun _ => by kernel_rfl) (hS118.box 3 rfl 1 rfl)) ?_
        obtain ⟨l121, hx122, hL92⟩ := bind_in hL92
        obtain ⟨A123, c124, hA125⟩ := cut_is A35 (Int.toNat (IntKind.i64.wrap (x102.1 + 1))) (Int.toNat x102.2) c36
        rw [← cutx_len hx122] at hA125
        refine gx_v (.slice A123 l121.length c124) w117 (run_cut (TE := 33) (n := l32.length) (l := Int.toNat (IntKind.i64.wrap (x102.1 + 1))) (h := Int.toNat x102.2) (some (.int .i64 (IntKind.i64.wrap (x102.1 + 1)))) (some (.int .i64 x102.2)) rfl (by kernel_rfl) (by kernel_rfl) (by kernel_rfl) (by kernel_rfl) (fun _ => by kernel_rfl) (bnd_lh (cutx_in hx122).1 (cutx_in hx122).2.1 (Int.le_trans (cutx_in hx122).2.2.1 (by exact_mod_cast num_room (hS118.row 1 rfl).1))) hA125) ?_
        refine gx_k (.slice A123 l121.length c124) w117 ?_
        refine gx_nil ?_
        refine gx_thenN ?_
        refine hK120 _ _ ?_
        refine gx_seq (fun K127 hK128 => ?_)
        refine gx_region ?_
        refine gx_k (.int .u8 x44) w117 (gx_k (.int .u8 x44) w117 ?_)
        refine gx_nil ?_
        refine gx_thenN ?_
        refine hK128 _ _ ?_
        refine gx_seq (fun K129 hK130 => ?_)
        refine gx_seq (fun K131 hK132 => ?_)
        refine gx_region ?_
        refine gx_k (.slice A123 l121.length c124) w117 (gx_k (.int .u8 x44) w117 ?_)
        have hP133 : St _ _ w117 ([] ++ [poolE ft67 W68, rowE .u8 33 A35 c36 l89, rowG 31 2 (.slice A59 l58.length c60) l58.length vs61, boxE w85.heap.size [.int .i64 x102.1, .int .i64 x102.2] 31]) := hS118
        obtain ⟨b135, hc134, hL92⟩ := bind_in hL92
        try dsimp only at hL92
        refine gx_c (rAmong_R b135 w117) (rAmong_ok N l121 x44 A123 c124 _ hc134 w117 (Vw.of (num_cut (hS118.row 1 rfl).1 hx122 hA125) (cut_nn (hS118.row 1 rfl).2 hA125))) ?_
        rintro _ w136 ⟨rfl, hT138⟩
        have hS137 : St _ _ w136 [poolE ft67 W68, rowE .u8 33 A35 c36 l89, rowG 31 2 (.slice A59 l58.length c60) l58.length vs61, boxE w85.heap.size [.int .i64 x102.1, .int .i64 x102.2] 31] := hS118.take _ hT138
        cases b135 with
        | true =>
         try dsimp only at hL92
         refine gx_k (.bool false) w136 ?_
         refine gx_nil ?_
         refine gx_thenN ?_
         refine hK132 _ _ ?_
         refine gx_no (by kernel_rfl) ?_
         refine gx_pass ?_
         refine gx_thenN ?_
         refine hK130 _ _ ?_
         refine gx_seq (fun K139 hK140 => ?_)
         refine gx_region ?_
         refine gx_k (.slice A35 l32.length c36) w136 (gx_k (.slice A1 p1.length c1) w136 (gx_k (.pointer (some ⟨w85.heap.size, 0, none⟩)) w136 ?_))
         refine gx_v (.int .i64 x102.1) w136 (run_load1 rfl (by kernel_rfl) (fun _ => by kernel_rfl) (hS137.box 3 rfl 0 rfl)) ?_
         refine gx_k (.int .u8 x44) w136 ?_
         have hP141 : St _ _ w136 ([rowE .u8 33 A35 c36 l89] ++ [poolE ft67 W68, rowG 31 2 (.slice A59 l58.length c60) l58.length vs61, boxE w85.heap.size [.int .i64 x102.1, .int .i64 x102.2] 31]) := hS137.pick [1, 0, 2, 3] rfl rfl
         obtain ⟨l143, hc142, hL92⟩ := bind_in hL92
         try dsimp only at hL92
         refine gx_call (rSet_R l89 p1 x102.1 x44 A35 c36 A1 c1 l143 w136) (by kernel_rfl) (by rw [← hn88] <;> kernel_rfl) (rSet_ok N l89 p1 x102.1 x44 A35 c36 A1 c1 _ hc142 w136 (hP141.vwA hv1) hP141.part) ?_
         rintro _ w145 ⟨rfl, hT147, hl144⟩
         have hS146 : St _ _ w145 [poolE ft67 W68, rowG 31 2 (.slice A59 l58.length c60) l58.length vs61, boxE w85.heap.size [.int .i64 x102.1, .int .i64 x102.2] 31, rowE .u8 33 A35 c36 l143] := hP141.lendN _ hT147
         refine gx_nil ?_
         refine gx_thenN ?_
         refine hK140 _ _ ?_
         refine gx_region ?_
         refine gx_k (.slice A35 l32.length c36) w145 (gx_k (.slice A1 p1.length c1) w145 (gx_k (.pointer (some ⟨w85.heap.size, 1, none⟩)) w145 ?_))
         refine gx_v (.int .i64 x102.2) w145 (run_load1 rfl (by kernel_rfl) (fun _ => by kernel_rfl) (hS146.box 2 rfl 1 rfl)) ?_
         refine gx_k (.int .u8 x44) w145 ?_
         have hP148 : St _ _ w145 ([rowE .u8 33 A35 c36 l143] ++ [poolE ft67 W68, rowG 31 2 (.slice A59 l58.length c60) l58.length vs61, boxE w85.heap.size [.int .i64 x102.1, .int .i64 x102.2] 31]) := hS146.pick [3, 0, 1, 2] rfl rfl
         obtain ⟨l150, hc149, hL92⟩ := bind_in hL92
         try dsimp only at hL92
         refine gx_call (rSet_R l143 p1 x102.2 x44 A35 c36 A1 c1 l150 w145) (by kernel_rfl) (by rw [← (hn88.trans hl144.symm)] <;> kernel_rfl) (rSet_ok N l143 p1 x102.2 x44 A35 c36 A1 c1 _ hc149 w145 (hP148.vwA hv1) hP148.part) ?_
         rintro _ w152 ⟨rfl, hT154, hl151⟩
         have hS153 : St _ _ w152 [poolE ft67 W68, rowG 31 2 (.slice A59 l58.length c60) l58.length vs61, boxE w85.heap.size [.int .i64 x102.1, .int .i64 x102.2] 31, rowE .u8 33 A35 c36 l150] := hP148.lendN _ hT154
         refine gx_nil ?_
         refine gx_blkN ?_
         refine gx_thenN ?_
         refine hK99 _ _ ?_
         refine gx_region ?_
         refine gx_k (.int .i64 x90) w152 (gx_k (.int .i64 (IntKind.i64.wrap (x90 + 1))) w152 (gx_k (.int .i64 (IntKind.i64.wrap (x90 + 1))) w152 ?_))
         refine gx_nil ?_
         refine gx_thenN ?_
         exact ⟨k91, Nat.lt_succ_self k91, l150, (IntKind.i64.wrap (x90 + 1)), selfA_i (by kernel_rfl), hL92, (hS153.pick [0, 3, 1] rfl rfl), ((hn88.trans hl144.symm).trans hl151.symm)⟩
        | false =>
         try dsimp only at hL92
         refine gx_k (.bool true) w136 ?_
         refine gx_nil ?_
         refine gx_thenN ?_
         refine hK132 _ _ ?_
         refine gx_yes (by kernel_rfl) ?_
         refine gx_seq (fun K155 hK156 => ?_)
         refine gx_seq (fun K157 hK158 => ?_)
         refine gx_region ?_
         refine gx_k (.slice A123 l121.length c124) w136 (gx_k (.int .u8 x45) w136 ?_)
         have hP159 : St _ _ w136 ([] ++ [poolE ft67 W68, rowE .u8 33 A35 c36 l89, rowG 31 2 (.slice A59 l58.length c60) l58.length vs61, boxE w85.heap.size [.int .i64 x102.1, .int .i64 x102.2] 31]) := hS137
         obtain ⟨b161, hc160, hL92⟩ := bind_in hL92
         try dsimp only at hL92
         refine gx_c (rAmong_R b161 w136) (rAmong_ok N l121 x45 A123 c124 _ hc160 w136 (Vw.of (num_cut (hS137.row 1 rfl).1 hx122 hA125) (cut_nn (hS137.row 1 rfl).2 hA125))) ?_
         rintro _ w162 ⟨rfl, hT164⟩
         have hS163 : St _ _ w162 [poolE ft67 W68, rowE .u8 33 A35 c36 l89, rowG 31 2 (.slice A59 l58.length c60) l58.length vs61, boxE w85.heap.size [.int .i64 x102.1, .int .i64 x102.2] 31] := hS137.take _ hT164
         cases b161 with
         | true =>
          try dsimp only at hL92
          refine gx_k (.bool false) w162 ?_
          refine gx_nil ?_
          refine gx_thenN ?_
          refine hK158 _ _ ?_
          refine gx_no (by kernel_rfl) ?_
          refine gx_pass ?_
          refine gx_thenN ?_
          refine hK156 _ _ ?_
          refine gx_seq (fun K165 hK166 => ?_)
          refine gx_region ?_
          refine gx_k (.slice A35 l32.length c36) w162 (gx_k (.pointer (some ⟨w85.heap.size, 0, none⟩)) w162 ?_)
          refine gx_v (.int .i64 x102.1) w162 (run_load1 rfl (by kernel_rfl) (fun _ => by kernel_rfl) (hS163.box 3 rfl 0 rfl)) ?_
          obtain ⟨l167, hx168, hL92⟩ := bind_in hL92
          obtain ⟨A169, c170, hA171⟩ := cut_is A35 (Int.toNat (0 : Int)) (Int.toNat x102.1) c36
          rw [← cutx_len hx168] at hA171
          refine gx_v (.slice A169 l167.length c170) w162 (run_cut (TE := 33) (n := l32.length) (l := Int.toNat (0 : Int)) (h := Int.toNat x102.1) none (some (.int .i64 x102.1)) rfl (by kernel_rfl) (by kernel_rfl) (by kernel_rfl) (by kernel_rfl) (fun _ => by kernel_rfl) (bnd_h (cutx_in hx168).2.1 (Int.le_trans (cutx_in hx168).2.2.1 (by exact_mod_cast num_room (hS163.row 1 rfl).1))) hA171) ?_
          refine gx_k (.int .u8 p4) w162 ?_
          have hP173 : St _ _ w162 ([] ++ [poolE ft67 W68, rowE .u8 33 A35 c36 l89, rowG 31 2 (.slice A59 l58.length c60) l58.length vs61, boxE w85.heap.size [.int .i64 x102.1, .int .i64 x102.2] 31]) := hS163
          obtain ⟨x175, hc174, hL92⟩ := bind_in hL92
          try dsimp only at hL92
          refine gx_c (rAhead_R x175 w162) (rAhead_ok N l167 p4 A169 c170 _ hc174 w162 (Vw.of (num_cut (hS163.row 1 rfl).1 hx168 hA171) (cut_nn (hS163.row 1 rfl).2 hA171))) ?_
          rintro _ w176 ⟨rfl, hT178⟩
          have hS177 : St _ _ w176 [poolE ft67 W68, rowE .u8 33 A35 c36 l89, rowG 31 2 (.slice A59 l58.length c60) l58.length vs61, boxE w85.heap.size [.int .i64 x102.1, .int .i64 x102.2] 31] := hS163.take _ hT178
          refine gx_k (.int .u8 x45) w176 ?_
          rcases if_in hL92 with ⟨h179, hL92⟩ | ⟨h179, hL92⟩
          ·refine gx_v (.bool true) w176 (run_boolE (decide_eq_true h179) (by kernel_rfl)) ?_
           refine gx_nil ?_
           refine gx_thenN ?_
           refine hK166 _ _ ?_
           refine gx_yes (by kernel_rfl) ?_
           refine gx_region ?_
           refine gx_k (.int .u8 x45) w176 (gx_k (.int .u8 x45) w176 ?_)
           refine gx_nil ?_
           refine gx_thenN ?_
           refine hK130 _ _ ?_
           refine gx_seq (fun K180 hK181 => ?_)
           refine gx_region ?_
           refine gx_k (.slice A35 l32.length c36) w176 (gx_k (.slice A1 p1.length c1) w176 (gx_k (.pointer (some ⟨w85.heap.size, 0, none⟩)) w176 ?_))
           refine gx_v (.int .i64 x102.1) w176 (run_load1 rfl (by kernel_rfl) (fun _ => by kernel_rfl) (hS177.box 3 rfl 0 rfl)) ?_
           refine gx_k (.int .u8 x45) w176 ?_
           have hP182 : St _ _ w176 ([rowE .u8 33 A35 c36 l89] ++ [poolE ft67 W68, rowG 31 2 (.slice A59 l58.length c60) l58.length vs61, boxE w85.heap.size [.int .i64 x102.1, .int .i64 x102.2] 31]) := hS177.pick [1, 0, 2, 3] rfl rfl
           obtain ⟨l184, hc183, hL92⟩ := bind_in hL92
           try dsimp only at hL92
           refine gx_call (rSet_R l89 p1 x102.1 x45 A35 c36 A1 c1 l184 w176) (by kernel_rfl) (by rw [← hn88] <;> kernel_rfl) (rSet_ok N l89 p1 x102.1 x45 A35 c36 A1 c1 _ hc183 w176 (hP182.vwA hv1) hP182.part) ?_
           rintro _ w186 ⟨rfl, hT188, hl185⟩
           have hS187 : St _ _ w186 [poolE ft67 W68, rowG 31 2 (.slice A59 l58.length c60) l58.length vs61, boxE w85.heap.size [.int .i64 x102.1, .int .i64 x102.2] 31, rowE .u8 33 A35 c36 l184] := hP182.lendN _ hT188
           refine gx_nil ?_
           refine gx_thenN ?_
           refine hK181 _ _ ?_
           refine gx_region ?_
           refine gx_k (.slice A35 l32.length c36) w186 (gx_k (.slice A1 p1.length c1) w186 (gx_k (.pointer (some ⟨w85.heap.size, 1, none⟩)) w186 ?_))
           refine gx_v (.int .i64 x102.2) w186 (run_load1 rfl (by kernel_rfl) (fun _ => by kernel_rfl) (hS187.box 2 rfl 1 rfl)) ?_
           refine gx_k (.int .u8 x45) w186 ?_
           have hP189 : St _ _ w186 ([rowE .u8 33 A35 c36 l184] ++ [poolE ft67 W68, rowG 31 2 (.slice A59 l58.length c60) l58.length vs61, boxE w85.heap.size [.int .i64 x102.1, .int .i64 x102.2] 31]) := hS187.pick [3, 0, 1, 2] rfl rfl
           obtain ⟨l191, hc190, hL92⟩ := bind_in hL92
           try dsimp only at hL92
           refine gx_call (rSet_R l184 p1 x102.2 x45 A35 c36 A1 c1 l191 w186) (by kernel_rfl) (by rw [← (hn88.trans hl185.symm)] <;> kernel_rfl) (rSet_ok N l184 p1 x102.2 x45 A35 c36 A1 c1 _ hc190 w186 (hP189.vwA hv1) hP189.part) ?_
           rintro _ w193 ⟨rfl, hT195, hl192⟩
           have hS194 : St _ _ w193 [poolE ft67 W68, rowG 31 2 (.slice A59 l58.length c60) l58.length vs61, boxE w85.heap.size [.int .i64 x102.1, .int .i64 x102.2] 31, rowE .u8 33 A35 c36 l191] := hP189.lendN _ hT195
           refine gx_nil ?_
           refine gx_blkN ?_
           refine gx_thenN ?_
           refine hK99 _ _ ?_
           refine gx_region ?_
           refine gx_k (.int .i64 x90) w193 (gx_k (.int .i64 (IntKind.i64.wrap (x90 + 1))) w193 (gx_k (.int .i64 (IntKind.i64.wrap (x90 + 1))) w193 ?_))
           refine gx_nil ?_
           refine gx_thenN ?_
           exact ⟨k91, Nat.lt_succ_self k91, l191, (IntKind.i64.wrap (x90 + 1)), selfA_i (by kernel_rfl), hL92, (hS194.pick [0, 3, 1] rfl rfl), ((hn88.trans hl185.symm).trans hl192.symm)⟩
          ·refine gx_v (.bool false) w176 (run_boolE (decide_eq_false h179) (by kernel_rfl)) ?_
           refine gx_nil ?_
           refine gx_thenN ?_
           refine hK166 _ _ ?_
           refine gx_no (by kernel_rfl) ?_
           refine gx_pass ?_
           refine gx_thenN ?_
           refine hK130 _ _ ?_
           refine gx_seq (fun K196 hK197 => ?_)
           refine gx_region ?_
           refine gx_k (.slice A35 l32.length c36) w176 (gx_k (.slice A1 p1.length c1) w176 (gx_k (.pointer (some ⟨w85.heap.size, 0, none⟩)) w176 ?_))
           refine gx_v (.int .i64 x102.1) w176 (run_load1 rfl (by kernel_rfl) (fun _ => by kernel_rfl) (hS177.box 3 rfl 0 rfl)) ?_
           refine gx_k (.int .u8 x44) w176 ?_
           have hP198 : St _ _ w176 ([rowE .u8 33 A35 c36 l89] ++ [poolE ft67 W68, rowG 31 2 (.slice A59 l58.length c60) l58.length vs61, boxE w85.heap.size [.int .i64 x102.1, .int .i64 x102.2] 31]) := hS177.pick [1, 0, 2, 3] rfl rfl
           obtain ⟨l200, hc199, hL92⟩ := bind_in hL92
           try dsimp only at hL92
           refine gx_call (rSet_R l89 p1 x102.1 x44 A35 c36 A1 c1 l200 w176) (by kernel_rfl) (by rw [← hn88] <;> kernel_rfl) (rSet_ok N l89 p1 x102.1 x44 A35 c36 A1 c1 _ hc199 w176 (hP198.vwA hv1) hP198.part) ?_
           rintro _ w202 ⟨rfl, hT204, hl201⟩
           have hS203 : St _ _ w202 [poolE ft67 W68, rowG 31 2 (.slice A59 l58.length c60) l58.length vs61, boxE w85.heap.size [.int .i64 x102.1, .int .i64 x102.2] 31, rowE .u8 33 A35 c36 l200] := hP198.lendN _ hT204
           refine gx_nil ?_
           refine gx_thenN ?_
           refine hK197 _ _ ?_
           refine gx_region ?_
           refine gx_k (.slice A35 l32.length c36) w202 (gx_k (.slice A1 p1.length c1) w202 (gx_k (.pointer (some ⟨w85.heap.size, 1, none⟩)) w202 ?_))
           refine gx_v (.int .i64 x102.2) w202 (run_load1 rfl (by kernel_rfl) (fun _ => by kernel_rfl) (hS203.box 2 rfl 1 rfl)) ?_
           refine gx_k (.int .u8 x44) w202 ?_
           have hP205 : St _ _ w202 ([rowE .u8 33 A35 c36 l200] ++ [poolE ft67 W68, rowG 31 2 (.slice A59 l58.length c60) l58.length vs61, boxE w85.heap.size [.int .i64 x102.1, .int .i64 x102.2] 31]) := hS203.pick [3, 0, 1, 2] rfl rfl
           obtain ⟨l207, hc206, hL92⟩ := bind_in hL92
           try dsimp only at hL92
           refine gx_call (rSet_R l200 p1 x102.2 x44 A35 c36 A1 c1 l207 w202) (by kernel_rfl) (by rw [← (hn88.trans hl201.symm)] <;> kernel_rfl) (rSet_ok N l200 p1 x102.2 x44 A35 c36 A1 c1 _ hc206 w202 (hP205.vwA hv1) hP205.part) ?_
           rintro _ w209 ⟨rfl, hT211, hl208⟩
           have hS210 : St _ _ w209 [poolE ft67 W68, rowG 31 2 (.slice A59 l58.length c60) l58.length vs61, boxE w85.heap.size [.int .i64 x102.1, .int .i64 x102.2] 31, rowE .u8 33 A35 c36 l207] := hP205.lendN _ hT211
           refine gx_nil ?_
           refine gx_blkN ?_
           refine gx_thenN ?_
           refine hK99 _ _ ?_
           refine gx_region ?_
           refine gx_k (.int .i64 x90) w209 (gx_k (.int .i64 (IntKind.i64.wrap (x90 + 1))) w209 (gx_k (.int .i64 (IntKind.i64.wrap (x90 + 1))) w209 ?_))
           refine gx_nil ?_
           refine gx_thenN ?_
           exact ⟨k91, Nat.lt_succ_self k91, l207, (IntKind.i64.wrap (x90 + 1)), selfA_i (by kernel_rfl), hL92, (hS210.pick [0, 3, 1] rfl rfl), ((hn88.trans hl201.symm).trans hl208.symm)⟩
         | false =>
          try dsimp only at hL92
          refine gx_k (.bool true) w162 ?_
          refine gx_nil ?_
          refine gx_thenN ?_
          refine hK158 _ _ ?_
          refine gx_yes (by kernel_rfl) ?_
          refine gx_exit ?_
          refine gx_thenE ?_
          refine gx_thenE ?_
          refine gx_blkE ?_
          refine gx_thenN ?_
          refine hK99 _ _ ?_
          refine gx_region ?_
          refine gx_k (.int .i64 x90) w162 (gx_k (.int .i64 (IntKind.i64.wrap (x90 + 1))) w162 (gx_k (.int .i64 (IntKind.i64.wrap (x90 + 1))) w162 ?_))
          refine gx_nil ?_
          refine gx_thenN ?_
          exact ⟨k91, Nat.lt_succ_self k91, l89, (IntKind.i64.wrap (x90 + 1)), selfA_i (by kernel_rfl), hL92, (hS163.pick [0, 1, 2] rfl rfl), hn88⟩
       ·refine gx_v (.bool false) w85 (run_boolE (decide_eq_false h97) (by kernel_rfl)) ?_
        refine gx_nil ?_
        refine gx_thenN ?_
        refine hK96 _ _ ?_
        refine gx_no (by kernel_rfl) ?_
        refine gx_exit ?_
        refine gx_thenE ?_
        refine gx_thenE ?_
        refine gx_blkE ?_
        refine gx_thenN ?_
        exact ⟨l89, selfA_i (by kernel_rfl), (Option.some.inj hL92), (hS86.pick [0, 1] rfl rfl), hn88⟩
    ·rintro _ w75 ⟨l79, hq215, rfl, hS76, hn78⟩
     obtain ⟨u77, rfl⟩ := selfA_u hq215
     try dsimp only at hO82
     refine gx_seq (fun K213 hK214 => ?_)
     refine gx_region ?_
     refine gx_k (.slice A35 l32.length c36) w75 (gx_k (.slice A35 l32.length c36) w75 (gx_k (.int .i64 0) w75 ?_))
     refine gx_nil ?_
     refine gx_thenN ?_
     refine hK214 _ _ ?_
     refine gx_ret ?_
     obtain rfl := Option.some.inj hO82
     exact gx_fin (.tuple #[.slice A35 l32.length c36, .int .i64 0]) (by kernel_rfl) (by kernel_rfl) ⟨_, rfl, A35, c36, by rw [← hn78] <;> kernel_rfl, (hS76.pick [1] rfl rfl)⟩

end Go.Proofs.YtdfgecndbfmgnaaDoor
