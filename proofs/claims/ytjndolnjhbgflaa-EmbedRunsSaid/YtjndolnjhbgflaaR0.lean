/-
  The document's levels, walked.
-/
import Derived.Test.YtjndolnjhbgflaaGu
namespace Go.Proofs.Ytjndolnjhbgflaa
open Go Go.RowKit
set_option linter.unusedVariables false

def rInit (_N : Nat) (p0 : Int) : Option (Bool) :=
 (if p0 = 20 then some true else (if p0 = 21 then some true else some (decide (p0 = 22))))

set_option linter.unusedVariables false in
def rInit_R (r : Bool) (w0 : World) (v : Value) (w : World) : Prop := v = .bool r ∧ St [] w0 w []

set_option maxRecDepth 100000 in
set_option maxHeartbeats 4000000 in
theorem rInit_ok (N : Nat) (p0 : Int)  (r : Bool) (hF : rInit N p0 = some r) (w0 : World)  :
  Calls Try.prog 17 #[.int .u8 p0] w0 fun e w => ∃ v, e = .returned v ∧ rInit_R r w0 v w := by
 have hS0 := St.start w0
 unfold rInit at hF
 refine calls_of Try.func17 rfl ⟨((.int .u8 p0) :: un 12 ([])).toArray, []⟩ (by kernel_rfl) ?_
 refine gx_seq (fun K1 hK2 => ?_)
 refine gx_region ?_
 refine gx_k (.bool false) w0 ?_
 refine gx_nil ?_
 refine gx_thenN ?_
 refine hK2 _ _ ?_
 refine gx_seq (fun K3 hK4 => ?_)
 refine gx_region ?_
 refine gx_k (.int .u8 p0) w0 ?_
 rcases if_in hF with ⟨h5, hF⟩ | ⟨h5, hF⟩
 ·refine gx_v (.bool true) w0 (run_boolE (decide_eq_true h5) (by kernel_rfl)) ?_
  refine gx_k (.bool true) w0 (gx_o (gx_o (gx_k (.bool true) w0 (gx_k (.bool true) w0 (gx_o (gx_o (gx_k (.bool true) w0 ?_)))))))
  refine gx_k (.bool true) w0 ?_
  refine gx_nil ?_
  refine gx_thenN ?_
  refine hK4 _ _ ?_
  refine gx_ret ?_
  obtain rfl := Option.some.inj hF
  exact gx_fin (.bool true) (by kernel_rfl) (by kernel_rfl) ⟨_, rfl, rfl, hS0⟩
 ·refine gx_v (.bool false) w0 (run_boolE (decide_eq_false h5) (by kernel_rfl)) ?_
  refine gx_k (.bool false) w0 (gx_k (.int .u8 p0) w0 ?_)
  rcases if_in hF with ⟨h6, hF⟩ | ⟨h6, hF⟩
  ·refine gx_v (.bool true) w0 (run_boolE (decide_eq_true h6) (by kernel_rfl)) ?_
   refine gx_k (.bool true) w0 (gx_k (.bool true) w0 (gx_o (gx_o (gx_k (.bool true) w0 (gx_k (.bool true) w0 ?_)))))
   refine gx_nil ?_
   refine gx_thenN ?_
   refine hK4 _ _ ?_
   refine gx_ret ?_
   obtain rfl := Option.some.inj hF
   exact gx_fin (.bool true) (by kernel_rfl) (by kernel_rfl) ⟨_, rfl, rfl, hS0⟩
  ·refine gx_v (.bool false) w0 (run_boolE (decide_eq_false h6) (by kernel_rfl)) ?_
   refine gx_k (.bool false) w0 (gx_k (.bool false) w0 (gx_k (.int .u8 p0) w0 (gx_k (.bool (decide (p0 = 22))) w0 (gx_k (.bool (decide (p0 = 22))) w0 (gx_k (.bool (decide (p0 = 22))) w0 ?_)))))
   refine gx_nil ?_
   refine gx_thenN ?_
   refine hK4 _ _ ?_
   refine gx_ret ?_
   obtain rfl := Option.some.inj hF
   exact gx_fin (.bool (decide (p0 = 22))) (by kernel_rfl) (by kernel_rfl) ⟨_, rfl, rfl, hS0⟩

def rRem (_N : Nat) (p0 : Int) : Option (Bool) :=
 (((if p0 = 15 then some (true) else (if p0 = 16 then some (true) else some (false))) : Option (Bool)).bind fun b8 => (((match b8 with | true => some (true) | false => (if p0 = 17 then some (true) else some (false))) : Option (Bool)).bind fun b18 => (((match b18 with | true => some (true) | false => (if p0 = 18 then some (true) else some (false))) : Option (Bool)).bind fun b27 => (match b27 with | true => some true | false => (if p0 = 19 then some true else some (decide (p0 = 10)))))))

set_option linter.unusedVariables false in
def rRem_R (r : Bool) (w0 : World) (v : Value) (w : World) : Prop := v = .bool r ∧ St [] w0 w []

set_option maxRecDepth 100000 in
set_option maxHeartbeats 4000000 in
theorem rRem_ok (N : Nat) (p0 : Int)  (r : Bool) (hF : rRem N p0 = some r) (w0 : World)  :
  Calls Try.prog 14 #[.int .u8 p0] w0 fun e w => ∃ v, e = .returned v ∧ rRem_R r w0 v w := by
 have hS0 := St.start w0
 unfold rRem at hF
 refine calls_of Try.func14 rfl ⟨((.int .u8 p0) :: un 24 ([])).toArray, []⟩ (by kernel_rfl) ?_
 refine gx_seq (fun K1 hK2 => ?_)
 refine gx_region ?_
 refine gx_k (.bool false) w0 ?_
 refine gx_nil ?_
 refine gx_thenN ?_
 refine hK2 _ _ ?_
 refine gx_seq (fun K3 hK4 => ?_)
 refine gx_region ?_
 refine gx_k (.int .u8 p0) w0 ?_
 obtain ⟨c9, hE10, hO11⟩ := bind_in hF
 refine gx_part (l1 := [_, _, _, _, _]) (fun a w => ∃ (b8 : Bool), selfA (fun u7 => ⟨((.int .u8 p0) :: undef :: (.bool false) :: (.int .u8 p0) :: dd u7 4 4 ((.bool b8) :: un 16 ([]))).toArray, []⟩) a ∧ b8 = c9 ∧ St [] w0 w []) rfl ?_ ?_
 ·rcases if_in hE10 with ⟨h13, hE10⟩ | ⟨h13, hE10⟩
  ·refine gx_v (.bool true) w0 (run_boolE (decide_eq_true h13) (by kernel_rfl)) ?_
   refine gx_k (.bool true) w0 (gx_o (gx_o (gx_k (.bool true) w0 ?_)))
   refine gx_nil ?_
   refine gx_thenN ?_
   exact ⟨true, selfA_i (by kernel_rfl), (Option.some.inj hE10), hS0⟩
  ·refine gx_v (.bool false) w0 (run_boolE (decide_eq_false h13) (by kernel_rfl)) ?_
   refine gx_k (.bool false) w0 (gx_k (.int .u8 p0) w0 ?_)
   rcases if_in hE10 with ⟨h14, hE10⟩ | ⟨h14, hE10⟩
   ·refine gx_v (.bool true) w0 (run_boolE (decide_eq_true h14) (by kernel_rfl)) ?_
    refine gx_k (.bool true) w0 ?_
    refine gx_nil ?_
    refine gx_thenN ?_
    exact ⟨true, selfA_i (by kernel_rfl), (Option.some.inj hE10), hS0⟩
   ·refine gx_v (.bool false) w0 (run_boolE (decide_eq_false h14) (by kernel_rfl)) ?_
    refine gx_k (.bool false) w0 ?_
    refine gx_nil ?_
    refine gx_thenN ?_
    exact ⟨false, selfA_i (by kernel_rfl), (Option.some.inj hE10), hS0⟩
 ·rintro _ w5 ⟨b8, hq12, rfl, hS6⟩
  obtain ⟨u7, rfl⟩ := selfA_u hq12
  try dsimp only at hO11
  obtain ⟨c19, hE20, hO21⟩ := bind_in hO11
  refine gx_part (l1 := [_, _, _, _]) (fun a w => ∃ (b18 : Bool), selfA (fun u17 => ⟨((.int .u8 p0) :: undef :: (.bool false) :: (.int .u8 p0) :: dd u7 4 4 ((.bool b8) :: dd u17 9 3 ((.bool b18) :: un 12 ([])))).toArray, []⟩) a ∧ b18 = c19 ∧ St [] w0 w []) rfl ?_ ?_
  ·refine gx_k (.bool b8) w5 ?_
   cases b8 with
   | true =>
    try dsimp only at hE20
    refine gx_o (gx_o (gx_k (.bool true) w5 ?_))
    refine gx_nil ?_
    refine gx_thenN ?_
    exact ⟨true, selfA_i (by kernel_rfl), (Option.some.inj hE20), hS6⟩
   | false =>
    try dsimp only at hE20
    refine gx_k (.int .u8 p0) w5 ?_
    rcases if_in hE20 with ⟨h23, hE20⟩ | ⟨h23, hE20⟩
    ·refine gx_v (.bool true) w5 (run_boolE (decide_eq_true h23) (by kernel_rfl)) ?_
     refine gx_k (.bool true) w5 ?_
     refine gx_nil ?_
     refine gx_thenN ?_
     exact ⟨true, selfA_i (by kernel_rfl), (Option.some.inj hE20), hS6⟩
    ·refine gx_v (.bool false) w5 (run_boolE (decide_eq_false h23) (by kernel_rfl)) ?_
     refine gx_k (.bool false) w5 ?_
     refine gx_nil ?_
     refine gx_thenN ?_
     exact ⟨false, selfA_i (by kernel_rfl), (Option.some.inj hE20), hS6⟩
  ·rintro _ w15 ⟨b18, hq22, rfl, hS16⟩
   obtain ⟨u17, rfl⟩ := selfA_u hq22
   try dsimp only at hO21
   obtain ⟨c28, hE29, hO30⟩ := bind_in hO21
   refine gx_part (l1 := [_, _, _, _]) (fun a w => ∃ (b27 : Bool), selfA (fun u26 => ⟨((.int .u8 p0) :: undef :: (.bool false) :: (.int .u8 p0) :: dd u7 4 4 ((.bool b8) :: dd u17 9 3 ((.bool b18) :: dd u26 13 3 ((.bool b27) :: un 8 ([]))))).toArray, []⟩) a ∧ b27 = c28 ∧ St [] w0 w []) rfl ?_ ?_
   ·refine gx_k (.bool b18) w15 ?_
    cases b18 with
    | true =>
     try dsimp only at hE29
     refine gx_o (gx_o (gx_k (.bool true) w15 ?_))
     refine gx_nil ?_
     refine gx_thenN ?_
     exact ⟨true, selfA_i (by kernel_rfl), (Option.some.inj hE29), hS16⟩
    | false =>
     try dsimp only at hE29
     refine gx_k (.int .u8 p0) w15 ?_
     rcases if_in hE29 with ⟨h32, hE29⟩ | ⟨h32, hE29⟩
     ·refine gx_v (.bool true) w15 (run_boolE (decide_eq_true h32) (by kernel_rfl)) ?_
      refine gx_k (.bool true) w15 ?_
      refine gx_nil ?_
      refine gx_thenN ?_
      exact ⟨true, selfA_i (by kernel_rfl), (Option.some.inj hE29), hS16⟩
     ·refine gx_v (.bool false) w15 (run_boolE (decide_eq_false h32) (by kernel_rfl)) ?_
      refine gx_k (.bool false) w15 ?_
      refine gx_nil ?_
      refine gx_thenN ?_
      exact ⟨false, selfA_i (by kernel_rfl), (Option.some.inj hE29), hS16⟩
   ·rintro _ w24 ⟨b27, hq31, rfl, hS25⟩
    obtain ⟨u26, rfl⟩ := selfA_u hq31
    try dsimp only at hO30
    refine gx_k (.bool b27) w24 ?_
    cases b27 with
    | true =>
     try dsimp only at hO30
     refine gx_o (gx_o (gx_k (.bool true) w24 (gx_k (.bool true) w24 (gx_o (gx_o (gx_k (.bool true) w24 (gx_k (.bool true) w24 ?_)))))))
     refine gx_nil ?_
     refine gx_thenN ?_
     refine hK4 _ _ ?_
     refine gx_ret ?_
     obtain rfl := Option.some.inj hO30
     exact gx_fin (.bool true) (by kernel_rfl) (by kernel_rfl) ⟨_, rfl, rfl, hS25⟩
    | false =>
     try dsimp only at hO30
     refine gx_k (.int .u8 p0) w24 ?_
     rcases if_in hO30 with ⟨h33, hO30⟩ | ⟨h33, hO30⟩
     ·refine gx_v (.bool true) w24 (run_boolE (decide_eq_true h33) (by kernel_rfl)) ?_
      refine gx_k (.bool true) w24 (gx_k (.bool true) w24 (gx_o (gx_o (gx_k (.bool true) w24 (gx_k (.bool true) w24 ?_)))))
      refine gx_nil ?_
      refine gx_thenN ?_
      refine hK4 _ _ ?_
      refine gx_ret ?_
      obtain rfl := Option.some.inj hO30
      exact gx_fin (.bool true) (by kernel_rfl) (by kernel_rfl) ⟨_, rfl, rfl, hS25⟩
     ·refine gx_v (.bool false) w24 (run_boolE (decide_eq_false h33) (by kernel_rfl)) ?_
      refine gx_k (.bool false) w24 (gx_k (.bool false) w24 (gx_k (.int .u8 p0) w24 (gx_k (.bool (decide (p0 = 10))) w24 (gx_k (.bool (decide (p0 = 10))) w24 (gx_k (.bool (decide (p0 = 10))) w24 ?_)))))
      refine gx_nil ?_
      refine gx_thenN ?_
      refine hK4 _ _ ?_
      refine gx_ret ?_
      obtain rfl := Option.some.inj hO30
      exact gx_fin (.bool (decide (p0 = 10))) (by kernel_rfl) (by kernel_rfl) ⟨_, rfl, rfl, hS25⟩

def rMatch_L1 (N : Nat) (p0 : List Int) : Nat → (List Int) → Int → Option (List Int)
 | 0, _, _ => none
 | k27+1, l25, x26 => (if x26 < ((p0.length : Nat) : Int) then ((ix l25 x26).bind fun _x36 => ((setx l25 x26 (-1)).bind fun l40 => rMatch_L1 N p0 k27 l40 (IntKind.i64.wrap (x26 + 1)))) else some (l25))
def rMatch_L3 (N : Nat) (p0 : List Int) (x58 : Int) : Nat → (List Int) → Int → Int → Option (List Int)
 | 0, _, _, _ => none
 | k85+1, l82, x83, x84 => ((ix p0 x58).bind fun x91 => ((((rInit N x91).bind fun b103 => (match b103 with | true => ((ix l82 x58).bind fun x107 => (if x107 < 0 then some (true) else some (false))) | false => some (false))) : Option (Bool)).bind fun b96 => (((match b96 with | true => (if x84 < ((p0.length : Nat) : Int) then some (true) else some (false)) | false => some (false)) : Option (Bool)).bind fun b113 => (match b113 with | true => ((ix p0 x84).bind fun x119 => (if x119 ≠ 11 then ((((ix p0 x84).bind fun x133 => ((rInit N x133).bind fun b137 => (match b137 with | true => some ((IntKind.i64.wrap (x83 + 1))) | false => some (x83)))) : Option (Int)).bind fun x127 => ((((ix p0 x84).bind fun x150 => (if x150 = 23 then some ((IntKind.i64.wrap (x127 - 1))) else some (x127))) : Option (Int)).bind fun x144 => (if x144 = 0 then ((ix l82 x58).bind fun _x158 => ((setx l82 x58 x84).bind fun l162 => ((ix l162 x84).bind fun _x164 => ((setx l162 x84 x58).bind fun l168 => rMatch_L3 N p0 x58 k85 l168 x144 (IntKind.i64.wrap (x84 + 1)))))) else rMatch_L3 N p0 x58 k85 l82 x144 (IntKind.i64.wrap (x84 + 1))))) else some (l82))) | false => some (l82)))))
def rMatch_L2 (N : Nat) (p0 : List Int) : Nat → (List Int) → Int → Option (List Int)
 | 0, _, _ => none
 | k59+1, l57, x58 => (if x58 < ((p0.length : Nat) : Int) then ((rMatch_L3 N p0 x58 N l57 0 x58 : Option (List Int)).bind fun l70 => rMatch_L2 N p0 k59 l70 (IntKind.i64.wrap (x58 + 1))) else some (l57))
def rMatch (N : Nat) (p0 : List Int) : Option (List Int) :=
 ((mkx ((p0.length : Nat) : Int)).bind fun l5 => ((rMatch_L1 N p0 N l5 0 : Option (List Int)).bind fun l15 => ((rMatch_L2 N p0 N l15 0 : Option (List Int)).bind fun l47 => some l47)))

set_option linter.unusedVariables false in
def rMatch_R (r : List Int) (w0 : World) (v : Value) (w : World) : Prop := ∃ (A0' : Option Addr) (c0' : Nat), v = .slice A0' r.length c0' ∧ St [] w0 w [rowE .i64 3 A0' c0' r]

set_option maxRecDepth 100000 in
set_option maxHeartbeats 4000000 in
theorem rMatch_ok (N : Nat) (p0 : List Int) (A0 : Option Addr) (c0 : Nat) (r : List Int) (hF : rMatch N p0 = some r) (w0 : World) (hv0 : Vw [] .u8 w0 A0 c0 p0) :
  Calls Try.prog 13 #[.slice A0 p0.length c0] w0 fun e w => ∃ v, e = .returned v ∧ rMatch_R r w0 v w := by
 have hS0 := St.start w0
 unfold rMatch at hF
 refine calls_of Try.func13 rfl ⟨((.slice A0 p0.length c0) :: un 78 ([])).toArray, []⟩ (by kernel_rfl) ?_
 refine gx_seq (fun K1 hK2 => ?_)
 refine gx_region ?_
 refine gx_k (.slice none 0 0) w0 ?_
 refine gx_nil ?_
 refine gx_thenN ?_
 refine hK2 _ _ ?_
 refine gx_seq (fun K3 hK4 => ?_)
 refine gx_region ?_
 refine gx_k (.slice A0 p0.length c0) w0 (gx_k (.int .i64 ((p0.length : Nat) : Int)) w0 ?_)
 obtain ⟨l5, hm6, hF⟩ := bind_in hF
 refine gx_r (st_make (T := 3) (k := .i64) (by_ := 8) rfl (by kernel_rfl) (by kernel_rfl) (by kernel_rfl) (by kernel_rfl) (by kernel_rfl) hS0 hm6) ?_
 rintro _ w7 ⟨A9, c10, rfl, hS8⟩
 have hS8 : St _ _ w7 [rowE .i64 3 A9 c10 l5] := hS8
 refine gx_k (.slice A9 l5.length c10) w7 ?_
 refine gx_nil ?_
 refine gx_thenN ?_
 refine hK4 _ _ ?_
 obtain ⟨c16, hE17, hO18⟩ := bind_in hF
 refine gx_cut (fun a w => ∃ (l15 : List Int), selfA (fun u13 => ⟨((.slice A0 p0.length c0) :: undef :: (.slice none 0 0) :: (.slice A9 l5.length c10) :: (u13 4) :: un 3 ((u13 8) :: (.int .i64 ((p0.length : Nat) : Int)) :: dd u13 10 10 (un 59 ([])))).toArray, []⟩) a ∧ l15 = c16 ∧ St [] w0 w [rowE .i64 3 A9 c10 l15] ∧ l5.length = l15.length) ?_ ?_
 ·refine gx_seq (fun K19 hK20 => ?_)
  refine gx_region ?_
  refine gx_k (.int .i64 0) w7 ?_
  refine gx_nil ?_
  refine gx_thenN ?_
  refine hK20 _ _ ?_
  refine gx_block ?_
  refine gx_loop (fun k a w => ∃ (l25 : List Int) (x26 : Int), selfA (fun u23 => ⟨((.slice A0 p0.length c0) :: undef :: (.slice none 0 0) :: (.slice A9 l5.length c10) :: (.int .i64 x26) :: un 3 ((u23 8) :: (.int .i64 ((p0.length : Nat) : Int)) :: dd u23 10 10 (un 59 ([])))).toArray, []⟩) a ∧ rMatch_L1 N p0 k l25 x26 = some c16 ∧ St [] w0 w [rowE .i64 3 A9 c10 l25] ∧ l5.length = l25.length) N ?_ ?_
  ·exact ⟨l5, 0, selfA_i (by kernel_rfl), hE17, hS8, rfl⟩
  ·rintro k27 _ w21 ⟨l25, x26, hq42, hL28, hS22, hn24⟩
   obtain ⟨u23, rfl⟩ := selfA_u hq42
   cases k27 with
   | zero => cases hL28
   | succ k27 =>
    first | rw [rMatch_L1] at hL28 | unfold rMatch_L1 at hL28
    refine gx_seq (fun K29 hK30 => ?_)
    refine gx_seq (fun K31 hK32 => ?_)
    refine gx_region ?_
    refine gx_k (.int .i64 x26) w21 (gx_k (.slice A0 p0.length c0) w21 (gx_k (.int .i64 ((p0.length : Nat) : Int)) w21 ?_))
    rcases if_in hL28 with ⟨h33, hL28⟩ | ⟨h33, hL28⟩
    ·refine gx_v (.bool true) w21 (run_boolE (decide_eq_true h33) (by kernel_rfl)) ?_
     refine gx_nil ?_
     refine gx_thenN ?_
     refine hK32 _ _ ?_
     refine gx_yes (by kernel_rfl) ?_
     refine gx_pass ?_
     refine gx_thenN ?_
     refine hK30 _ _ ?_
     refine gx_seq (fun K34 hK35 => ?_)
     refine gx_block ?_
     refine gx_region ?_
     refine gx_k (.slice A9 l5.length c10) w21 (gx_k (.int .i64 x26) w21 ?_)
     obtain ⟨x36, hx37, hL28⟩ := bind_in hL28
     refine gx_v (.pointer (Option.map (fun (p : Addr) => p.add (Int.toNat x26 * 1)) A9)) w21 (run_ixaddr (E := 3) (s := 1) (k := .i64) (c := c10) rfl (by kernel_rfl) (by kernel_rfl) (by kernel_rfl) (fun _ => by kernel_rfl) (ix_in hx37).1 (lt_len hn24 (ix_in hx37).2.1) (nil_len hn24 (num_nil (hS22.row 0 rfl).1))) ?_
     obtain ⟨l40, hx41, hL28⟩ := bind_in hL28
     refine gx_s (st_storeix rfl (by kernel_rfl) (by kernel_rfl) (fun _ => by kernel_rfl) hS22 0 rfl hx41) ?_
     rintro w38 hS39
     have hS39 : St _ _ w38 [rowE .i64 3 A9 c10 l40] := hS39
     refine gx_nil ?_
     refine gx_blkN ?_
     refine gx_thenN ?_
     refine hK35 _ _ ?_
     refine gx_region ?_
     refine gx_k (.int .i64 x26) w38 (gx_k (.int .i64 (IntKind.i64.wrap (x26 + 1))) w38 (gx_k (.int .i64 (IntKind.i64.wrap (x26 + 1))) w38 ?_))
     refine gx_nil ?_
     refine gx_thenN ?_
     exact ⟨k27, Nat.lt_succ_self k27, l40, (IntKind.i64.wrap (x26 + 1)), selfA_i (by kernel_rfl), hL28, hS39, (hn24.trans (setx_len hx41).symm)⟩
    ·refine gx_v (.bool false) w21 (run_boolE (decide_eq_false h33) (by kernel_rfl)) ?_
     refine gx_nil ?_
     refine gx_thenN ?_
     refine hK32 _ _ ?_
     refine gx_no (by kernel_rfl) ?_
     refine gx_exit ?_
     refine gx_thenE ?_
     refine gx_thenE ?_
     refine gx_blkE ?_
     refine gx_thenN ?_
     exact ⟨l25, selfA_i (by kernel_rfl), (Option.some.inj hL28), hS22, hn24⟩
 ·rintro _ w11 ⟨l15, hq178, rfl, hS12, hn14⟩
  obtain ⟨u13, rfl⟩ := selfA_u hq178
  try dsimp only at hO18
  obtain ⟨c48, hE49, hO50⟩ := bind_in hO18
  refine gx_cut (fun a w => ∃ (l47 : List Int), selfA (fun u45 => ⟨((u45 0) :: undef :: (.slice none 0 0) :: (.slice A9 l5.length c10) :: (u13 4) :: dd u45 5 3 ((u13 8) :: (.int .i64 ((p0.length : Nat) : Int)) :: dd u13 10 10 (dd u45 20 58 (undef :: [])))).toArray, []⟩) a ∧ l47 = c48 ∧ St [] w0 w [rowE .i64 3 A9 c10 l47] ∧ l5.length = l47.length) ?_ ?_
  ·refine gx_seq (fun K51 hK52 => ?_)
   refine gx_region ?_
   refine gx_k (.int .i64 0) w11 ?_
   refine gx_nil ?_
   refine gx_thenN ?_
   refine hK52 _ _ ?_
   refine gx_block ?_
   refine gx_loop (fun k a w => ∃ (l57 : List Int) (x58 : Int), selfA (fun u55 => ⟨((.slice A0 p0.length c0) :: undef :: (.slice none 0 0) :: (.slice A9 l5.length c10) :: (u13 4) :: (.int .i64 x58) :: dd u55 6 2 ((u13 8) :: (.int .i64 ((p0.length : Nat) : Int)) :: dd u13 10 10 (dd u55 20 58 (undef :: [])))).toArray, []⟩) a ∧ rMatch_L2 N p0 k l57 x58 = some c48 ∧ St [] w0 w [rowE .i64 3 A9 c10 l57] ∧ l5.length = l57.length) N ?_ ?_
   ·exact ⟨l15, 0, selfA_i (by kernel_rfl), hE49, hS12, hn14⟩
   ·rintro k59 _ w53 ⟨l57, x58, hq174, hL60, hS54, hn56⟩
    obtain ⟨u55, rfl⟩ := selfA_u hq174
    cases k59 with
    | zero => cases hL60
    | succ k59 =>
     first | rw [rMatch_L2] at hL60 | unfold rMatch_L2 at hL60
     refine gx_seq (fun K61 hK62 => ?_)
     refine gx_seq (fun K63 hK64 => ?_)
     refine gx_region ?_
     refine gx_k (.int .i64 x58) w53 (gx_k (.slice A0 p0.length c0) w53 (gx_k (.int .i64 ((p0.length : Nat) : Int)) w53 ?_))
     rcases if_in hL60 with ⟨h65, hL60⟩ | ⟨h65, hL60⟩
     ·refine gx_v (.bool true) w53 (run_boolE (decide_eq_true h65) (by kernel_rfl)) ?_
      refine gx_nil ?_
      refine gx_thenN ?_
      refine hK64 _ _ ?_
      refine gx_yes (by kernel_rfl) ?_
      refine gx_pass ?_
      refine gx_thenN ?_
      refine hK62 _ _ ?_
      obtain ⟨c71, hE72, hO73⟩ := bind_in hL60
      refine gx_cut (fun a w => ∃ (l70 : List Int), selfA (fun u68 => ⟨((.slice A0 p0.length c0) :: undef :: (.slice none 0 0) :: (.slice A9 l5.length c10) :: (u13 4) :: (.int .i64 x58) :: dd u68 6 2 ((u13 8) :: (.int .i64 ((p0.length : Nat) : Int)) :: dd u13 10 10 ((.int .i64 x58) :: (u68 21) :: (.int .i64 ((p0.length : Nat) : Int)) :: (.bool true) :: dd u55 24 2 (dd u68 26 52 (undef :: []))))).toArray, []⟩) a ∧ l70 = c71 ∧ St [] w0 w [rowE .i64 3 A9 c10 l70] ∧ l5.length = l70.length) ?_ ?_
      ·refine gx_block ?_
       refine gx_seq (fun K74 hK75 => ?_)
       refine gx_region ?_
       refine gx_k (.int .i64 0) w53 ?_
       refine gx_nil ?_
       refine gx_thenN ?_
       refine hK75 _ _ ?_
       refine gx_seq (fun K76 hK77 => ?_)
       refine gx_region ?_
       refine gx_k (.int .i64 x58) w53 (gx_k (.int .i64 x58) w53 ?_)
       refine gx_nil ?_
       refine gx_thenN ?_
       refine hK77 _ _ ?_
       refine gx_block ?_
       refine gx_loop (fun k a w => ∃ (l82 : List Int) (x83 : Int) (x84 : Int), selfA (fun u80 => ⟨((.slice A0 p0.length c0) :: undef :: (.slice none 0 0) :: (.slice A9 l5.length c10) :: (u13 4) :: (.int .i64 x58) :: (.int .i64 x83) :: (.int .i64 x84) :: (u13 8) :: (.int .i64 ((p0.length : Nat) : Int)) :: dd u13 10 10 ((.int .i64 x58) :: (u80 21) :: (.int .i64 ((p0.length : Nat) : Int)) :: (.bool true) :: dd u55 24 2 ((.int .i64 x58) :: dd u80 27 51 (undef :: [])))).toArray, []⟩) a ∧ rMatch_L3 N p0 x58 k l82 x83 x84 = some c71 ∧ St [] w0 w [rowE .i64 3 A9 c10 l82] ∧ l5.length = l82.length) N ?_ ?_
       ·exact ⟨l57, 0, x58, selfA_i (by kernel_rfl), hE72, hS54, hn56⟩
       ·rintro k85 _ w78 ⟨l82, x83, x84, hq172, hL86, hS79, hn81⟩
        obtain ⟨u80, rfl⟩ := selfA_u hq172
        cases k85 with
        | zero => cases hL86
        | succ k85 =>
         first | rw [rMatch_L3] at hL86 | unfold rMatch_L3 at hL86
         refine gx_seq (fun K87 hK88 => ?_)
         refine gx_seq (fun K89 hK90 => ?_)
         refine gx_region ?_
         refine gx_k (.slice A0 p0.length c0) w78 (gx_k (.int .i64 x58) w78 ?_)
         obtain ⟨x91, hx92, hL86⟩ := bind_in hL86
         refine gx_v (.pointer (Option.map (fun (p : Addr) => p.add (Int.toNat x58 * 1)) A0)) w78 (run_ixaddr (E := 34) (s := 1) (k := .i64) (c := c0) rfl (by kernel_rfl) (by kernel_rfl) (by kernel_rfl) (fun _ => by kernel_rfl) (ix_in hx92).1 (ix_in hx92).2.1 (num_nil (hS79.view hv0))) ?_
         refine gx_v (.int .u8 x91) w78 (run_loadix rfl (by kernel_rfl) (fun _ => by kernel_rfl) (hS79.view hv0) hx92) ?_
         obtain ⟨c97, hE98, hO99⟩ := bind_in hL86
         refine gx_part (l1 := [_, _, _, _, _, _, _, _]) (fun a w => ∃ (b96 : Bool), selfA (fun u95 => ⟨((.slice A0 p0.length c0) :: undef :: (.slice none 0 0) :: (.slice A9 l5.length c10) :: (u13 4) :: (.int .i64 x58) :: (.int .i64 x83) :: (.int .i64 x84) :: (u13 8) :: (.int .i64 ((p0.length : Nat) : Int)) :: dd u13 10 10 ((.int .i64 x58) :: (u80 21) :: (.int .i64 ((p0.length : Nat) : Int)) :: (.bool true) :: dd u55 24 2 ((.int .i64 x58) :: (u95 27) :: (.int .i64 x58) :: (.pointer (Option.map (fun (p : Addr) => p.add (Int.toNat x58 * 1)) A0)) :: (.int .u8 x91) :: dd u95 31 7 ((.bool b96) :: dd u80 39 39 (undef :: []))))).toArray, []⟩) a ∧ b96 = c97 ∧ St [] w0 w [rowE .i64 3 A9 c10 l82]) rfl ?_ ?_
         ·have hP101 : St _ _ w78 ([] ++ [rowE .i64 3 A9 c10 l82]) := hS79
          obtain ⟨b103, hc102, hE98⟩ := bind_in hE98
          try dsimp only at hE98
          refine gx_c (rInit_R b103 w78) (rInit_ok N x91 _ hc102 w78 ) ?_
          rintro _ w104 ⟨rfl, hT106⟩
          have hS105 : St _ _ w104 [rowE .i64 3 A9 c10 l82] := hS79.take _ hT106
          refine gx_k (.bool b103) w104 ?_
          cases b103 with
          | true =>
           try dsimp only at hE98
           refine gx_k (.slice A9 l5.length c10) w104 (gx_k (.int .i64 x58) w104 ?_)
           obtain ⟨x107, hx108, hE98⟩ := bind_in hE98
           refine gx_v (.pointer (Option.map (fun (p : Addr) => p.add (Int.toNat x58 * 1)) A9)) w104 (run_ixaddr (E := 3) (s := 1) (k := .i64) (c := c10) rfl (by kernel_rfl) (by kernel_rfl) (by kernel_rfl) (fun _ => by kernel_rfl) (ix_in hx108).1 (lt_len hn81 (ix_in hx108).2.1) (nil_len hn81 (num_nil (hS105.row 0 rfl).1))) ?_
           refine gx_v (.int .i64 x107) w104 (run_loadix rfl (by kernel_rfl) (fun _ => by kernel_rfl) (hS105.row 0 rfl).1 hx108) ?_
           rcases if_in hE98 with ⟨h109, hE98⟩ | ⟨h109, hE98⟩
           ·refine gx_v (.bool true) w104 (run_boolE (decide_eq_true h109) (by kernel_rfl)) ?_
            refine gx_k (.bool true) w104 ?_
            refine gx_nil ?_
            refine gx_thenN ?_
            exact ⟨true, selfA_i (by kernel_rfl), (Option.some.inj hE98), hS105⟩
           ·refine gx_v (.bool false) w104 (run_boolE (decide_eq_false h109) (by kernel_rfl)) ?_
            refine gx_k (.bool false) w104 ?_
            refine gx_nil ?_
            refine gx_thenN ?_
            exact ⟨false, selfA_i (by kernel_rfl), (Option.some.inj hE98), hS105⟩
          | false =>
           try dsimp only at hE98
           refine gx_o (gx_o (gx_o (gx_o (gx_o (gx_k (.bool false) w104 ?_)))))
           refine gx_nil ?_
           refine gx_thenN ?_
           exact ⟨false, selfA_i (by kernel_rfl), (Option.some.inj hE98), hS105⟩
         ·rintro _ w93 ⟨b96, hq100, rfl, hS94⟩
          obtain ⟨u95, rfl⟩ := selfA_u hq100
          try dsimp only at hO99
          obtain ⟨c114, hE115, hO116⟩ := bind_in hO99
          refine gx_part (l1 := [_, _, _, _, _, _]) (fun a w => ∃ (b113 : Bool), selfA (fun u112 => ⟨((.slice A0 p0.length c0) :: undef :: (.slice none 0 0) :: (.slice A9 l5.length c10) :: (u13 4) :: (.int .i64 x58) :: (.int .i64 x83) :: (.int .i64 x84) :: (u13 8) :: (.int .i64 ((p0.length : Nat) : Int)) :: dd u13 10 10 ((.int .i64 x58) :: (u80 21) :: (.int .i64 ((p0.length : Nat) : Int)) :: (.bool true) :: dd u55 24 2 ((.int .i64 x58) :: (u95 27) :: (.int .i64 x58) :: (.pointer (Option.map (fun (p : Addr) => p.add (Int.toNat x58 * 1)) A0)) :: (.int .u8 x91) :: dd u95 31 7 ((.bool b96) :: dd u112 39 5 ((.bool b113) :: dd u80 45 33 (undef :: [])))))).toArray, []⟩) a ∧ b113 = c114 ∧ St [] w0 w [rowE .i64 3 A9 c10 l82]) rfl ?_ ?_
          ·refine gx_k (.bool b96) w93 ?_
           cases b96 with
           | true =>
            try dsimp only at hE115
            refine gx_k (.int .i64 x84) w93 (gx_k (.slice A0 p0.length c0) w93 (gx_k (.int .i64 ((p0.length : Nat) : Int)) w93 ?_))
            rcases if_in hE115 with ⟨h118, hE115⟩ | ⟨h118, hE115⟩
            ·refine gx_v (.bool true) w93 (run_boolE (decide_eq_true h118) (by kernel_rfl)) ?_
             refine gx_k (.bool true) w93 ?_
             refine gx_nil ?_
             refine gx_thenN ?_
             exact ⟨true, selfA_i (by kernel_rfl), (Option.some.inj hE115), hS94⟩
            ·refine gx_v (.bool false) w93 (run_boolE (decide_eq_false h118) (by kernel_rfl)) ?_
             refine gx_k (.bool false) w93 ?_
             refine gx_nil ?_
             refine gx_thenN ?_
             exact ⟨false, selfA_i (by kernel_rfl), (Option.some.inj hE115), hS94⟩
           | false =>
            try dsimp only at hE115
            refine gx_o (gx_o (gx_o (gx_o (gx_k (.bool false) w93 ?_))))
            refine gx_nil ?_
            refine gx_thenN ?_
            exact ⟨false, selfA_i (by kernel_rfl), (Option.some.inj hE115), hS94⟩
          ·rintro _ w110 ⟨b113, hq117, rfl, hS111⟩
           obtain ⟨u112, rfl⟩ := selfA_u hq117
           try dsimp only at hO116
           refine gx_k (.bool b113) w110 ?_
           cases b113 with
           | true =>
            try dsimp only at hO116
            refine gx_k (.slice A0 p0.length c0) w110 (gx_k (.int .i64 x84) w110 ?_)
            obtain ⟨x119, hx120, hO116⟩ := bind_in hO116
            refine gx_v (.pointer (Option.map (fun (p : Addr) => p.add (Int.toNat x84 * 1)) A0)) w110 (run_ixaddr (E := 34) (s := 1) (k := .i64) (c := c0) rfl (by kernel_rfl) (by kernel_rfl) (by kernel_rfl) (fun _ => by kernel_rfl) (ix_in hx120).1 (ix_in hx120).2.1 (num_nil (hS111.view hv0))) ?_
            refine gx_v (.int .u8 x119) w110 (run_loadix rfl (by kernel_rfl) (fun _ => by kernel_rfl) (hS111.view hv0) hx120) ?_
            rcases if_in hO116 with ⟨h121, hO116⟩ | ⟨h121, hO116⟩
            ·refine gx_v (.bool true) w110 (run_boolE (ne_yes h121) (by kernel_rfl)) ?_
             refine gx_k (.bool true) w110 ?_
             refine gx_nil ?_
             refine gx_thenN ?_
             refine hK90 _ _ ?_
             refine gx_yes (by kernel_rfl) ?_
             refine gx_pass ?_
             refine gx_thenN ?_
             refine hK88 _ _ ?_
             refine gx_seq (fun K122 hK123 => ?_)
             refine gx_block ?_
             obtain ⟨c128, hE129, hO130⟩ := bind_in hO116
             refine gx_cut (fun a w => ∃ (x127 : Int), selfA (fun u126 => ⟨((.slice A0 p0.length c0) :: undef :: (.slice none 0 0) :: (.slice A9 l5.length c10) :: (u13 4) :: (.int .i64 x58) :: (.int .i64 x127) :: (.int .i64 x84) :: (u13 8) :: (.int .i64 ((p0.length : Nat) : Int)) :: dd u13 10 10 ((.int .i64 x58) :: (u80 21) :: (.int .i64 ((p0.length : Nat) : Int)) :: (.bool true) :: dd u55 24 2 ((.int .i64 x58) :: (u95 27) :: (.int .i64 x58) :: (.pointer (Option.map (fun (p : Addr) => p.add (Int.toNat x58 * 1)) A0)) :: (.int .u8 x91) :: dd u95 31 7 ((.bool b96) :: dd u112 39 5 ((.bool true) :: (.bool true) :: (u126 46) :: (.int .i64 x84) :: (.pointer (Option.map (fun (p : Addr) => p.add (Int.toNat x84 * 1)) A0)) :: (.int .u8 x119) :: (.bool true) :: (.bool true) :: dd u80 52 2 (dd u126 54 7 (dd u80 61 17 (undef :: [])))))))).toArray, []⟩) a ∧ x127 = c128 ∧ St [] w0 w [rowE .i64 3 A9 c10 l82]) ?_ ?_
             ·refine gx_seq (fun K131 hK132 => ?_)
              refine gx_region ?_
              refine gx_k (.slice A0 p0.length c0) w110 (gx_k (.int .i64 x84) w110 ?_)
              obtain ⟨x133, hx134, hE129⟩ := bind_in hE129
              refine gx_v (.pointer (Option.map (fun (p : Addr) => p.add (Int.toNat x84 * 1)) A0)) w110 (run_ixaddr (E := 34) (s := 1) (k := .i64) (c := c0) rfl (by kernel_rfl) (by kernel_rfl) (by kernel_rfl) (fun _ => by kernel_rfl) (ix_in hx134).1 (ix_in hx134).2.1 (num_nil (hS111.view hv0))) ?_
              refine gx_v (.int .u8 x133) w110 (run_loadix rfl (by kernel_rfl) (fun _ => by kernel_rfl) (hS111.view hv0) hx134) ?_
              have hP135 : St _ _ w110 ([] ++ [rowE .i64 3 A9 c10 l82]) := hS111
              obtain ⟨b137, hc136, hE129⟩ := bind_in hE129
              try dsimp only at hE129
              refine gx_c (rInit_R b137 w110) (rInit_ok N x133 _ hc136 w110 ) ?_
              rintro _ w138 ⟨rfl, hT140⟩
              have hS139 : St _ _ w138 [rowE .i64 3 A9 c10 l82] := hS111.take _ hT140
              refine gx_nil ?_
              refine gx_thenN ?_
              refine hK132 _ _ ?_
              cases b137 with
              | true =>
               try dsimp only at hE129
               refine gx_yes (by kernel_rfl) ?_
               refine gx_region ?_
               refine gx_k (.int .i64 x83) w138 (gx_k (.int .i64 (IntKind.i64.wrap (x83 + 1))) w138 (gx_k (.int .i64 (IntKind.i64.wrap (x83 + 1))) w138 ?_))
               refine gx_nil ?_
               refine gx_thenN ?_
               exact ⟨(IntKind.i64.wrap (x83 + 1)), selfA_i (by kernel_rfl), (Option.some.inj hE129), hS139⟩
              | false =>
               try dsimp only at hE129
               refine gx_no (by kernel_rfl) ?_
               refine gx_pass ?_
               refine gx_thenN ?_
               exact ⟨x83, selfA_i (by kernel_rfl), (Option.some.inj hE129), hS139⟩
             ·rintro _ w124 ⟨x127, hq171, rfl, hS125⟩
              obtain ⟨u126, rfl⟩ := selfA_u hq171
              try dsimp only at hO130
              obtain ⟨c145, hE146, hO147⟩ := bind_in hO130
              refine gx_cut (fun a w => ∃ (x144 : Int), selfA (fun u143 => ⟨((.slice A0 p0.length c0) :: undef :: (.slice none 0 0) :: (.slice A9 l5.length c10) :: (u13 4) :: (.int .i64 x58) :: (.int .i64 x144) :: (.int .i64 x84) :: (u13 8) :: (.int .i64 ((p0.length : Nat) : Int)) :: dd u13 10 10 ((.int .i64 x58) :: (u80 21) :: (.int .i64 ((p0.length : Nat) : Int)) :: (.bool true) :: dd u55 24 2 ((.int .i64 x58) :: (u95 27) :: (.int .i64 x58) :: (.pointer (Option.map (fun (p : Addr) => p.add (Int.toNat x58 * 1)) A0)) :: (.int .u8 x91) :: dd u95 31 7 ((.bool b96) :: dd u112 39 5 ((.bool true) :: (.bool true) :: (u126 46) :: (.int .i64 x84) :: (.pointer (Option.map (fun (p : Addr) => p.add (Int.toNat x84 * 1)) A0)) :: (.int .u8 x119) :: (.bool true) :: (.bool true) :: dd u80 52 2 (dd u126 54 7 (dd u143 61 7 (dd u80 68 10 (undef :: []))))))))).toArray, []⟩) a ∧ x144 = c145 ∧ St [] w0 w [rowE .i64 3 A9 c10 l82]) ?_ ?_
              ·refine gx_seq (fun K148 hK149 => ?_)
               refine gx_region ?_
               refine gx_k (.slice A0 p0.length c0) w124 (gx_k (.int .i64 x84) w124 ?_)
               obtain ⟨x150, hx151, hE146⟩ := bind_in hE146
               refine gx_v (.pointer (Option.map (fun (p : Addr) => p.add (Int.toNat x84 * 1)) A0)) w124 (run_ixaddr (E := 34) (s := 1) (k := .i64) (c := c0) rfl (by kernel_rfl) (by kernel_rfl) (by kernel_rfl) (fun _ => by kernel_rfl) (ix_in hx151).1 (ix_in hx151).2.1 (num_nil (hS125.view hv0))) ?_
               refine gx_v (.int .u8 x150) w124 (run_loadix rfl (by kernel_rfl) (fun _ => by kernel_rfl) (hS125.view hv0) hx151) ?_
               rcases if_in hE146 with ⟨h152, hE146⟩ | ⟨h152, hE146⟩
               ·refine gx_v (.bool true) w124 (run_boolE (decide_eq_true h152) (by kernel_rfl)) ?_
                refine gx_nil ?_
                refine gx_thenN ?_
                refine hK149 _ _ ?_
                refine gx_yes (by kernel_rfl) ?_
                refine gx_region ?_
                refine gx_k (.int .i64 x127) w124 (gx_k (.int .i64 (IntKind.i64.wrap (x127 - 1))) w124 (gx_k (.int .i64 (IntKind.i64.wrap (x127 - 1))) w124 ?_))
                refine gx_nil ?_
                refine gx_thenN ?_
                exact ⟨(IntKind.i64.wrap (x127 - 1)), selfA_i (by kernel_rfl), (Option.some.inj hE146), hS125⟩
               ·refine gx_v (.bool false) w124 (run_boolE (decide_eq_false h152) (by kernel_rfl)) ?_
                refine gx_nil ?_
                refine gx_thenN ?_
                refine hK149 _ _ ?_
                refine gx_no (by kernel_rfl) ?_
                refine gx_pass ?_
                refine gx_thenN ?_
                exact ⟨x127, selfA_i (by kernel_rfl), (Option.some.inj hE146), hS125⟩
              ·rintro _ w141 ⟨x144, hq170, rfl, hS142⟩
               obtain ⟨u143, rfl⟩ := selfA_u hq170
               try dsimp only at hO147
               refine gx_seq (fun K153 hK154 => ?_)
               refine gx_region ?_
               refine gx_k (.int .i64 x144) w141 ?_
               rcases if_in hO147 with ⟨h155, hO147⟩ | ⟨h155, hO147⟩
               ·refine gx_v (.bool true) w141 (run_boolE (decide_eq_true h155) (by kernel_rfl)) ?_
                refine gx_nil ?_
                refine gx_thenN ?_
                refine hK154 _ _ ?_
                refine gx_yes (by kernel_rfl) ?_
                refine gx_seq (fun K156 hK157 => ?_)
                refine gx_region ?_
                refine gx_k (.slice A9 l5.length c10) w141 (gx_k (.int .i64 x58) w141 (gx_k (.int .i64 x84) w141 ?_))
                obtain ⟨x158, hx159, hO147⟩ := bind_in hO147
                refine gx_v (.pointer (Option.map (fun (p : Addr) => p.add (Int.toNat x58 * 1)) A9)) w141 (run_ixaddr (E := 3) (s := 1) (k := .i64) (c := c10) rfl (by kernel_rfl) (by kernel_rfl) (by kernel_rfl) (fun _ => by kernel_rfl) (ix_in hx159).1 (lt_len hn81 (ix_in hx159).2.1) (nil_len hn81 (num_nil (hS142.row 0 rfl).1))) ?_
                obtain ⟨l162, hx163, hO147⟩ := bind_in hO147
                refine gx_s (st_storeix rfl (by kernel_rfl) (by kernel_rfl) (fun _ => by kernel_rfl) hS142 0 rfl hx163) ?_
                rintro w160 hS161
                have hS161 : St _ _ w160 [rowE .i64 3 A9 c10 l162] := hS161
                refine gx_nil ?_
                refine gx_thenN ?_
                refine hK157 _ _ ?_
                refine gx_region ?_
                refine gx_k (.slice A9 l5.length c10) w160 (gx_k (.int .i64 x84) w160 (gx_k (.int .i64 x58) w160 ?_))
                obtain ⟨x164, hx165, hO147⟩ := bind_in hO147
                refine gx_v (.pointer (Option.map (fun (p : Addr) => p.add (Int.toNat x84 * 1)) A9)) w160 (run_ixaddr (E := 3) (s := 1) (k := .i64) (c := c10) rfl (by kernel_rfl) (by kernel_rfl) (by kernel_rfl) (fun _ => by kernel_rfl) (ix_in hx165).1 (lt_len (hn81.trans (setx_len hx163).symm) (ix_in hx165).2.1) (nil_len (hn81.trans (setx_len hx163).symm) (num_nil (hS161.row 0 rfl).1))) ?_
                obtain ⟨l168, hx169, hO147⟩ := bind_in hO147
                refine gx_s (st_storeix rfl (by kernel_rfl) (by kernel_rfl) (fun _ => by kernel_rfl) hS161 0 rfl hx169) ?_
                rintro w166 hS167
                have hS167 : St _ _ w166 [rowE .i64 3 A9 c10 l168] := hS167
                refine gx_nil ?_
                refine gx_blkN ?_
                refine gx_thenN ?_
                refine hK123 _ _ ?_
                refine gx_region ?_
                refine gx_k (.int .i64 x84) w166 (gx_k (.int .i64 (IntKind.i64.wrap (x84 + 1))) w166 (gx_k (.int .i64 (IntKind.i64.wrap (x84 + 1))) w166 ?_))
                refine gx_nil ?_
                refine gx_thenN ?_
                exact ⟨k85, Nat.lt_succ_self k85, l168, x144, (IntKind.i64.wrap (x84 + 1)), selfA_i (by kernel_rfl), hO147, hS167, ((hn81.trans (setx_len hx163).symm).trans (setx_len hx169).symm)⟩
               ·refine gx_v (.bool false) w141 (run_boolE (decide_eq_false h155) (by kernel_rfl)) ?_
                refine gx_nil ?_
                refine gx_thenN ?_
                refine hK154 _ _ ?_
                refine gx_no (by kernel_rfl) ?_
                refine gx_pass ?_
                refine gx_blkN ?_
                refine gx_thenN ?_
                refine hK123 _ _ ?_
                refine gx_region ?_
                refine gx_k (.int .i64 x84) w141 (gx_k (.int .i64 (IntKind.i64.wrap (x84 + 1))) w141 (gx_k (.int .i64 (IntKind.i64.wrap (x84 + 1))) w141 ?_))
                refine gx_nil ?_
                refine gx_thenN ?_
                exact ⟨k85, Nat.lt_succ_self k85, l82, x144, (IntKind.i64.wrap (x84 + 1)), selfA_i (by kernel_rfl), hO147, hS142, hn81⟩
            ·refine gx_v (.bool false) w110 (run_boolE (ne_no h121) (by kernel_rfl)) ?_
             refine gx_k (.bool false) w110 ?_
             refine gx_nil ?_
             refine gx_thenN ?_
             refine hK90 _ _ ?_
             refine gx_no (by kernel_rfl) ?_
             refine gx_exit ?_
             refine gx_thenE ?_
             refine gx_thenE ?_
             refine gx_blkE ?_
             refine gx_blkN ?_
             refine gx_thenN ?_
             exact ⟨l82, selfA_i (by kernel_rfl), (Option.some.inj hO116), hS111, hn81⟩
           | false =>
            try dsimp only at hO116
            refine gx_o (gx_o (gx_o (gx_o (gx_o (gx_k (.bool false) w110 ?_)))))
            refine gx_nil ?_
            refine gx_thenN ?_
            refine hK90 _ _ ?_
            refine gx_no (by kernel_rfl) ?_
            refine gx_exit ?_
            refine gx_thenE ?_
            refine gx_thenE ?_
            refine gx_blkE ?_
            refine gx_blkN ?_
            refine gx_thenN ?_
            exact ⟨l82, selfA_i (by kernel_rfl), (Option.some.inj hO116), hS111, hn81⟩
      ·rintro _ w66 ⟨l70, hq173, rfl, hS67, hn69⟩
       obtain ⟨u68, rfl⟩ := selfA_u hq173
       try dsimp only at hO73
       refine gx_region ?_
       refine gx_k (.int .i64 x58) w66 (gx_k (.int .i64 (IntKind.i64.wrap (x58 + 1))) w66 (gx_k (.int .i64 (IntKind.i64.wrap (x58 + 1))) w66 ?_))
       refine gx_nil ?_
       refine gx_thenN ?_
       exact ⟨k59, Nat.lt_succ_self k59, l70, (IntKind.i64.wrap (x58 + 1)), selfA_i (by kernel_rfl), hO73, hS67, hn69⟩
     ·refine gx_v (.bool false) w53 (run_boolE (decide_eq_false h65) (by kernel_rfl)) ?_
      refine gx_nil ?_
      refine gx_thenN ?_
      refine hK64 _ _ ?_
      refine gx_no (by kernel_rfl) ?_
      refine gx_exit ?_
      refine gx_thenE ?_
      refine gx_thenE ?_
      refine gx_blkE ?_
      refine gx_thenN ?_
      exact ⟨l57, selfA_i (by kernel_rfl), (Option.some.inj hL60), hS54, hn56⟩
  ·rintro _ w43 ⟨l47, hq177, rfl, hS44, hn46⟩
   obtain ⟨u45, rfl⟩ := selfA_u hq177
   try dsimp only at hO50
   refine gx_seq (fun K175 hK176 => ?_)
   refine gx_region ?_
   refine gx_k (.slice A9 l5.length c10) w43 (gx_k (.slice A9 l5.length c10) w43 ?_)
   refine gx_nil ?_
   refine gx_thenN ?_
   refine hK176 _ _ ?_
   refine gx_ret ?_
   obtain rfl := Option.some.inj hO50
   exact gx_fin (.slice A9 l5.length c10) (by kernel_rfl) (by kernel_rfl) ⟨_, rfl, A9, c10, by rw [← hn46] <;> kernel_rfl, hS44⟩

def rRight_L1 (N : Nat) (p0 : List Int) (p2 : Bool) : Nat → Int → Int → Option (Ctl (Unit) (Bool))
 | 0, _, _ => none
 | k18+1, x16, x17 => (if x17 < ((p0.length : Nat) : Int) then ((ix p0 x17).bind fun x25 => (if x25 ≠ 11 then ((ix p0 x17).bind fun x32 => ((rInit N x32).bind fun b36 => (match b36 with | true => rRight_L1 N p0 p2 k18 (IntKind.i64.wrap (x16 + 1)) (IntKind.i64.wrap (x17 + 1)) | false => ((((ix p0 x17).bind fun x47 => (if x47 = 23 then (if x16 > 0 then some (true) else some (false)) else some (false))) : Option (Bool)).bind fun b43 => (match b43 with | true => rRight_L1 N p0 p2 k18 (IntKind.i64.wrap (x16 - 1)) (IntKind.i64.wrap (x17 + 1)) | false => ((((ix p0 x17).bind fun x58 => (if x58 = 23 then some (p2) else some (false))) : Option (Bool)).bind fun b54 => (match b54 with | true => some (Ctl.ret false) | false => (((if x16 = 0 then ((ix p0 x17).bind fun x71 => (if x71 = 1 then some (true) else some (false))) else some (false)) : Option (Bool)).bind fun b66 => (match b66 with | true => some (Ctl.ret false) | false => (if x16 = 0 then ((ix p0 x17).bind fun x79 => (if x79 = 2 then some (Ctl.ret true) else ((ix p0 x17).bind fun x84 => (if x84 = 3 then some (Ctl.ret true) else rRight_L1 N p0 p2 k18 x16 (IntKind.i64.wrap (x17 + 1)))))) else rRight_L1 N p0 p2 k18 x16 (IntKind.i64.wrap (x17 + 1)))))))))))) else some (Ctl.go ()))) else some (Ctl.go ()))
def rRight (N : Nat) (p0 : List Int) (p1 : Int) (p2 : Bool) : Option (Bool) :=
 ((rRight_L1 N p0 p2 N 0 p1 : Option (Ctl (Unit) (Bool))).bind fun | Ctl.go () => some false | Ctl.ret r => some r)

set_option linter.unusedVariables false in
def rRight_R (r : Bool) (w0 : World) (v : Value) (w : World) : Prop := v = .bool r ∧ St [] w0 w []

set_option maxRecDepth 100000 in
set_option maxHeartbeats 4000000 in
theorem rRight_ok (N : Nat) (p0 : List Int) (p1 : Int) (p2 : Bool) (A0 : Option Addr) (c0 : Nat) (r : Bool) (hF : rRight N p0 p1 p2 = some r) (w0 : World) (hv0 : Vw [] .u8 w0 A0 c0 p0) :
  Calls Try.prog 31 #[.slice A0 p0.length c0, .int .i64 p1, .bool p2] w0 fun e w => ∃ v, e = .returned v ∧ rRight_R r w0 v w := by
 have hS0 := St.start w0
 unfold rRight at hF
 refine calls_of Try.func31 rfl ⟨((.slice A0 p0.length c0) :: (.int .i64 p1) :: (.bool p2) :: un 76 ([])).toArray, []⟩ (by kernel_rfl) ?_
 refine gx_seq (fun K1 hK2 => ?_)
 refine gx_region ?_
 refine gx_k (.bool false) w0 ?_
 refine gx_nil ?_
 refine gx_thenN ?_
 refine hK2 _ _ ?_
 refine gx_seq (fun K3 hK4 => ?_)
 refine gx_region ?_
 refine gx_k (.int .i64 0) w0 ?_
 refine gx_nil ?_
 refine gx_thenN ?_
 refine hK4 _ _ ?_
 obtain ⟨c8, hE9, hO10⟩ := bind_in hF
 refine gx_cut (fun a w => selfA (fun u7 => ⟨((u7 0) :: (.int .i64 p1) :: (.bool p2) :: un 3 (dd u7 6 73 ([]))).toArray, []⟩) a ∧ Ctl.go () = c8 ∧ St [] w0 w []) ?_ ?_
 ·refine gx_seq (fun K11 hK12 => ?_)
  refine gx_region ?_
  refine gx_k (.int .i64 p1) w0 (gx_k (.int .i64 p1) w0 ?_)
  refine gx_nil ?_
  refine gx_thenN ?_
  refine hK12 _ _ ?_
  refine gx_block ?_
  refine gx_loop (fun k a w => ∃ (x16 : Int) (x17 : Int), selfA (fun u15 => ⟨((.slice A0 p0.length c0) :: (.int .i64 p1) :: (.bool p2) :: un 3 ((u15 6) :: (.int .i64 x16) :: (.int .i64 x17) :: (.int .i64 p1) :: dd u15 10 69 ([]))).toArray, []⟩) a ∧ rRight_L1 N p0 p2 k x16 x17 = some c8 ∧ St [] w0 w []) N ?_ ?_
  ·exact ⟨0, p1, selfA_i (by kernel_rfl), hE9, hS0⟩
  ·rintro k18 _ w13 ⟨x16, x17, hq92, hL19, hS14⟩
   obtain ⟨u15, rfl⟩ := selfA_u hq92
   cases k18 with
   | zero => cases hL19
   | succ k18 =>
    first | rw [rRight_L1] at hL19 | unfold rRight_L1 at hL19
    refine gx_seq (fun K20 hK21 => ?_)
    refine gx_seq (fun K22 hK23 => ?_)
    refine gx_region ?_
    refine gx_k (.int .i64 x17) w13 (gx_k (.slice A0 p0.length c0) w13 (gx_k (.int .i64 ((p0.length : Nat) : Int)) w13 ?_))
    rcases if_in hL19 with ⟨h24, hL19⟩ | ⟨h24, hL19⟩
    ·refine gx_v (.bool true) w13 (run_boolE (decide_eq_true h24) (by kernel_rfl)) ?_
     refine gx_k (.bool true) w13 (gx_k (.slice A0 p0.length c0) w13 (gx_k (.int .i64 x17) w13 ?_))
     obtain ⟨x25, hx26, hL19⟩ := bind_in hL19
     refine gx_v (.pointer (Option.map (fun (p : Addr) => p.add (Int.toNat x17 * 1)) A0)) w13 (run_ixaddr (E := 34) (s := 1) (k := .i64) (c := c0) rfl (by kernel_rfl) (by kernel_rfl) (by kernel_rfl) (fun _ => by kernel_rfl) (ix_in hx26).1 (ix_in hx26).2.1 (num_nil (hS14.view hv0))) ?_
     refine gx_v (.int .u8 x25) w13 (run_loadix rfl (by kernel_rfl) (fun _ => by kernel_rfl) (hS14.view hv0) hx26) ?_
     rcases if_in hL19 with ⟨h27, hL19⟩ | ⟨h27, hL19⟩
     ·refine gx_v (.bool true) w13 (run_boolE (ne_yes h27) (by kernel_rfl)) ?_
      refine gx_k (.bool true) w13 ?_
      refine gx_nil ?_
      refine gx_thenN ?_
      refine hK23 _ _ ?_
      refine gx_yes (by kernel_rfl) ?_
      refine gx_pass ?_
      refine gx_thenN ?_
      refine hK21 _ _ ?_
      refine gx_seq (fun K28 hK29 => ?_)
      refine gx_block ?_
      refine gx_block ?_
      refine gx_seq (fun K30 hK31 => ?_)
      refine gx_region ?_
      refine gx_k (.slice A0 p0.length c0) w13 (gx_k (.int .i64 x17) w13 ?_)
      obtain ⟨x32, hx33, hL19⟩ := bind_in hL19
      refine gx_v (.pointer (Option.map (fun (p : Addr) => p.add (Int.toNat x17 * 1)) A0)) w13 (run_ixaddr (E := 34) (s := 1) (k := .i64) (c := c0) rfl (by kernel_rfl) (by kernel_rfl) (by kernel_rfl) (fun _ => by kernel_rfl) (ix_in hx33).1 (ix_in hx33).2.1 (num_nil (hS14.view hv0))) ?_
      refine gx_v (.int .u8 x32) w13 (run_loadix rfl (by kernel_rfl) (fun _ => by kernel_rfl) (hS14.view hv0) hx33) ?_
      have hP34 : St _ _ w13 ([] ++ []) := hS14
      obtain ⟨b36, hc35, hL19⟩ := bind_in hL19
      try dsimp only at hL19
      refine gx_c (rInit_R b36 w13) (rInit_ok N x32 _ hc35 w13 ) ?_
      rintro _ w37 ⟨rfl, hT39⟩
      have hS38 : St _ _ w37 [] := hS14.take _ hT39
      refine gx_k (.bool b36) w37 ?_
      refine gx_nil ?_
      refine gx_thenN ?_
      refine hK31 _ _ ?_
      cases b36 with
      | true =>
       try dsimp only at hL19
       refine gx_yes (by kernel_rfl) ?_
       refine gx_region ?_
       refine gx_k (.int .i64 x16) w37 (gx_k (.int .i64 (IntKind.i64.wrap (x16 + 1))) w37 (gx_k (.int .i64 (IntKind.i64.wrap (x16 + 1))) w37 ?_))
       refine gx_nil ?_
       refine gx_blkN ?_
       refine gx_blkN ?_
       refine gx_thenN ?_
       refine hK29 _ _ ?_
       refine gx_region ?_
       refine gx_k (.int .i64 x17) w37 (gx_k (.int .i64 (IntKind.i64.wrap (x17 + 1))) w37 (gx_k (.int .i64 (IntKind.i64.wrap (x17 + 1))) w37 ?_))
       refine gx_nil ?_
       refine gx_thenN ?_
       exact ⟨k18, Nat.lt_succ_self k18, (IntKind.i64.wrap (x16 + 1)), (IntKind.i64.wrap (x17 + 1)), selfA_i (by kernel_rfl), hL19, hS38⟩
      | false =>
       try dsimp only at hL19
       refine gx_no (by kernel_rfl) ?_
       obtain ⟨c44, hE45, hO46⟩ := bind_in hL19
       refine gx_cut (fun a w => ∃ (b43 : Bool), selfA (fun u42 => ⟨((.slice A0 p0.length c0) :: (.int .i64 p1) :: (.bool p2) :: un 3 ((u15 6) :: (.int .i64 x16) :: (.int .i64 x17) :: (.int .i64 p1) :: (.int .i64 x17) :: (u42 11) :: (.int .i64 ((p0.length : Nat) : Int)) :: (.bool true) :: (.bool true) :: (u42 15) :: (.int .i64 x17) :: (.pointer (Option.map (fun (p : Addr) => p.add (Int.toNat x17 * 1)) A0)) :: (.int .u8 x25) :: (.bool true) :: (.bool true) :: dd u15 21 2 ((.bool false) :: (u42 24) :: (.int .i64 x17) :: (.pointer (Option.map (fun (p : Addr) => p.add (Int.toNat x17 * 1)) A0)) :: (.int .u8 x32) :: (.bool false) :: dd u15 29 2 ((.bool b43) :: dd u42 32 9 (dd u15 41 38 ([])))))).toArray, []⟩) a ∧ b43 = c44 ∧ St [] w0 w []) ?_ ?_
       ·refine gx_region ?_
        refine gx_k (.slice A0 p0.length c0) w37 (gx_k (.int .i64 x17) w37 ?_)
        obtain ⟨x47, hx48, hE45⟩ := bind_in hE45
        refine gx_v (.pointer (Option.map (fun (p : Addr) => p.add (Int.toNat x17 * 1)) A0)) w37 (run_ixaddr (E := 34) (s := 1) (k := .i64) (c := c0) rfl (by kernel_rfl) (by kernel_rfl) (by kernel_rfl) (fun _ => by kernel_rfl) (ix_in hx48).1 (ix_in hx48).2.1 (num_nil (hS38.view hv0))) ?_
        refine gx_v (.int .u8 x47) w37 (run_loadix rfl (by kernel_rfl) (fun _ => by kernel_rfl) (hS38.view hv0) hx48) ?_
        rcases if_in hE45 with ⟨h49, hE45⟩ | ⟨h49, hE45⟩
        ·refine gx_v (.bool true) w37 (run_boolE (decide_eq_true h49) (by kernel_rfl)) ?_
         refine gx_k (.bool true) w37 (gx_k (.int .i64 x16) w37 ?_)
         rcases if_in hE45 with ⟨h50, hE45⟩ | ⟨h50, hE45⟩
         ·refine gx_v (.bool true) w37 (run_boolE (decide_eq_true h50) (by kernel_rfl)) ?_
          refine gx_k (.bool true) w37 (gx_k (.bool true) w37 ?_)
          refine gx_nil ?_
          refine gx_thenN ?_
          exact ⟨true, selfA_i (by kernel_rfl), (Option.some.inj hE45), hS38⟩
         ·refine gx_v (.bool false) w37 (run_boolE (decide_eq_false h50) (by kernel_rfl)) ?_
          refine gx_k (.bool false) w37 (gx_k (.bool false) w37 ?_)
          refine gx_nil ?_
          refine gx_thenN ?_
          exact ⟨false, selfA_i (by kernel_rfl), (Option.some.inj hE45), hS38⟩
        ·refine gx_v (.bool false) w37 (run_boolE (decide_eq_false h49) (by kernel_rfl)) ?_
         refine gx_k (.bool false) w37 (gx_o (gx_o (gx_k (.bool false) w37 (gx_k (.bool false) w37 ?_))))
         refine gx_nil ?_
         refine gx_thenN ?_
         exact ⟨false, selfA_i (by kernel_rfl), (Option.some.inj hE45), hS38⟩
       ·rintro _ w40 ⟨b43, hq91, rfl, hS41⟩
        obtain ⟨u42, rfl⟩ := selfA_u hq91
        try dsimp only at hO46
        cases b43 with
        | true =>
         try dsimp only at hO46
         refine gx_yes (by kernel_rfl) ?_
         refine gx_region ?_
         refine gx_k (.int .i64 x16) w40 (gx_k (.int .i64 (IntKind.i64.wrap (x16 - 1))) w40 (gx_k (.int .i64 (IntKind.i64.wrap (x16 - 1))) w40 ?_))
         refine gx_nil ?_
         refine gx_blkN ?_
         refine gx_blkN ?_
         refine gx_thenN ?_
         refine hK29 _ _ ?_
         refine gx_region ?_
         refine gx_k (.int .i64 x17) w40 (gx_k (.int .i64 (IntKind.i64.wrap (x17 + 1))) w40 (gx_k (.int .i64 (IntKind.i64.wrap (x17 + 1))) w40 ?_))
         refine gx_nil ?_
         refine gx_thenN ?_
         exact ⟨k18, Nat.lt_succ_self k18, (IntKind.i64.wrap (x16 - 1)), (IntKind.i64.wrap (x17 + 1)), selfA_i (by kernel_rfl), hO46, hS41⟩
        | false =>
         try dsimp only at hO46
         refine gx_no (by kernel_rfl) ?_
         obtain ⟨c55, hE56, hO57⟩ := bind_in hO46
         refine gx_cut (fun a w => ∃ (b54 : Bool), selfA (fun u53 => ⟨((.slice A0 p0.length c0) :: (.int .i64 p1) :: (.bool p2) :: un 3 ((u15 6) :: (.int .i64 x16) :: (.int .i64 x17) :: (.int .i64 p1) :: (.int .i64 x17) :: (u42 11) :: (.int .i64 ((p0.length : Nat) : Int)) :: (.bool true) :: (.bool true) :: (u42 15) :: (.int .i64 x17) :: (.pointer (Option.map (fun (p : Addr) => p.add (Int.toNat x17 * 1)) A0)) :: (.int .u8 x25) :: (.bool true) :: (.bool true) :: dd u15 21 2 ((.bool false) :: (u42 24) :: (.int .i64 x17) :: (.pointer (Option.map (fun (p : Addr) => p.add (Int.toNat x17 * 1)) A0)) :: (.int .u8 x32) :: (.bool false) :: dd u15 29 2 ((.bool false) :: dd u42 32 9 (dd u15 41 2 ((.bool b54) :: dd u53 44 8 (dd u15 52 27 ([])))))))).toArray, []⟩) a ∧ b54 = c55 ∧ St [] w0 w []) ?_ ?_
         ·refine gx_region ?_
          refine gx_k (.slice A0 p0.length c0) w40 (gx_k (.int .i64 x17) w40 ?_)
          obtain ⟨x58, hx59, hE56⟩ := bind_in hE56
          refine gx_v (.pointer (Option.map (fun (p : Addr) => p.add (Int.toNat x17 * 1)) A0)) w40 (run_ixaddr (E := 34) (s := 1) (k := .i64) (c := c0) rfl (by kernel_rfl) (by kernel_rfl) (by kernel_rfl) (fun _ => by kernel_rfl) (ix_in hx59).1 (ix_in hx59).2.1 (num_nil (hS41.view hv0))) ?_
          refine gx_v (.int .u8 x58) w40 (run_loadix rfl (by kernel_rfl) (fun _ => by kernel_rfl) (hS41.view hv0) hx59) ?_
          rcases if_in hE56 with ⟨h60, hE56⟩ | ⟨h60, hE56⟩
          ·refine gx_v (.bool true) w40 (run_boolE (decide_eq_true h60) (by kernel_rfl)) ?_
           refine gx_k (.bool true) w40 (gx_k (.bool p2) w40 (gx_k (.bool p2) w40 (gx_k (.bool p2) w40 ?_)))
           refine gx_nil ?_
           refine gx_thenN ?_
           exact ⟨p2, selfA_i (by kernel_rfl), (Option.some.inj hE56), hS41⟩
          ·refine gx_v (.bool false) w40 (run_boolE (decide_eq_false h60) (by kernel_rfl)) ?_
           refine gx_k (.bool false) w40 (gx_o (gx_k (.bool false) w40 (gx_k (.bool false) w40 ?_)))
           refine gx_nil ?_
           refine gx_thenN ?_
           exact ⟨false, selfA_i (by kernel_rfl), (Option.some.inj hE56), hS41⟩
         ·rintro _ w51 ⟨b54, hq90, rfl, hS52⟩
          obtain ⟨u53, rfl⟩ := selfA_u hq90
          try dsimp only at hO57
          cases b54 with
          | true =>
           try dsimp only at hO57
           refine gx_yes (by kernel_rfl) ?_
           refine gx_seq (fun K61 hK62 => ?_)
           refine gx_region ?_
           refine gx_k (.bool false) w51 ?_
           refine gx_nil ?_
           refine gx_thenN ?_
           refine hK62 _ _ ?_
           refine gx_ret ?_
           refine gx_blkR ?_
           refine gx_blkR ?_
           refine gx_thenR ?_
           refine gx_thenR ?_
           refine gx_blkR ?_
           refine gx_thenR ?_
           obtain rfl := Option.some.inj hO57
           try dsimp only at hO10
           obtain rfl := Option.some.inj hO10
           exact gx_fin (.bool false) (by kernel_rfl) (by kernel_rfl) ⟨_, rfl, rfl, hS52⟩
          | false =>
           try dsimp only at hO57
           refine gx_no (by kernel_rfl) ?_
           obtain ⟨c67, hE68, hO69⟩ := bind_in hO57
           refine gx_cut (fun a w => ∃ (b66 : Bool), selfA (fun u65 => ⟨((.slice A0 p0.length c0) :: (.int .i64 p1) :: (.bool p2) :: un 3 ((u15 6) :: (.int .i64 x16) :: (.int .i64 x17) :: (.int .i64 p1) :: (.int .i64 x17) :: (u42 11) :: (.int .i64 ((p0.length : Nat) : Int)) :: (.bool true) :: (.bool true) :: (u42 15) :: (.int .i64 x17) :: (.pointer (Option.map (fun (p : Addr) => p.add (Int.toNat x17 * 1)) A0)) :: (.int .u8 x25) :: (.bool true) :: (.bool true) :: dd u15 21 2 ((.bool false) :: (u42 24) :: (.int .i64 x17) :: (.pointer (Option.map (fun (p : Addr) => p.add (Int.toNat x17 * 1)) A0)) :: (.int .u8 x32) :: (.bool false) :: dd u15 29 2 ((.bool false) :: dd u42 32 9 (dd u15 41 2 ((.bool false) :: dd u53 44 8 ((.bool b66) :: dd u65 53 9 (dd u15 62 17 ([]))))))))).toArray, []⟩) a ∧ b66 = c67 ∧ St [] w0 w []) ?_ ?_
           ·refine gx_region ?_
            refine gx_k (.int .i64 x16) w51 ?_
            rcases if_in hE68 with ⟨h70, hE68⟩ | ⟨h70, hE68⟩
            ·refine gx_v (.bool true) w51 (run_boolE (decide_eq_true h70) (by kernel_rfl)) ?_
             refine gx_k (.bool true) w51 (gx_k (.slice A0 p0.length c0) w51 (gx_k (.int .i64 x17) w51 ?_))
             obtain ⟨x71, hx72, hE68⟩ := bind_in hE68
             refine gx_v (.pointer (Option.map (fun (p : Addr) => p.add (Int.toNat x17 * 1)) A0)) w51 (run_ixaddr (E := 34) (s := 1) (k := .i64) (c := c0) rfl (by kernel_rfl) (by kernel_rfl) (by kernel_rfl) (fun _ => by kernel_rfl) (ix_in hx72).1 (ix_in hx72).2.1 (num_nil (hS52.view hv0))) ?_
             refine gx_v (.int .u8 x71) w51 (run_loadix rfl (by kernel_rfl) (fun _ => by kernel_rfl) (hS52.view hv0) hx72) ?_
             rcases if_in hE68 with ⟨h73, hE68⟩ | ⟨h73, hE68⟩
             ·refine gx_v (.bool true) w51 (run_boolE (decide_eq_true h73) (by kernel_rfl)) ?_
              refine gx_k (.bool true) w51 (gx_k (.bool true) w51 ?_)
              refine gx_nil ?_
              refine gx_thenN ?_
              exact ⟨true, selfA_i (by kernel_rfl), (Option.some.inj hE68), hS52⟩
             ·refine gx_v (.bool false) w51 (run_boolE (decide_eq_false h73) (by kernel_rfl)) ?_
              refine gx_k (.bool false) w51 (gx_k (.bool false) w51 ?_)
              refine gx_nil ?_
              refine gx_thenN ?_
              exact ⟨false, selfA_i (by kernel_rfl), (Option.some.inj hE68), hS52⟩
            ·refine gx_v (.bool false) w51 (run_boolE (decide_eq_false h70) (by kernel_rfl)) ?_
             refine gx_k (.bool false) w51 (gx_o (gx_o (gx_o (gx_o (gx_o (gx_k (.bool false) w51 (gx_k (.bool false) w51 ?_)))))))
             refine gx_nil ?_
             refine gx_thenN ?_
             exact ⟨false, selfA_i (by kernel_rfl), (Option.some.inj hE68), hS52⟩
           ·rintro _ w63 ⟨b66, hq89, rfl, hS64⟩
            obtain ⟨u65, rfl⟩ := selfA_u hq89
            try dsimp only at hO69
            cases b66 with
            | true =>
             try dsimp only at hO69
             refine gx_yes (by kernel_rfl) ?_
             refine gx_seq (fun K74 hK75 => ?_)
             refine gx_region ?_
             refine gx_k (.bool false) w63 ?_
             refine gx_nil ?_
             refine gx_thenN ?_
             refine hK75 _ _ ?_
             refine gx_ret ?_
             refine gx_blkR ?_
             refine gx_blkR ?_
             refine gx_thenR ?_
             refine gx_thenR ?_
             refine gx_blkR ?_
             refine gx_thenR ?_
             obtain rfl := Option.some.inj hO69
             try dsimp only at hO10
             obtain rfl := Option.some.inj hO10
             exact gx_fin (.bool false) (by kernel_rfl) (by kernel_rfl) ⟨_, rfl, rfl, hS64⟩
            | false =>
             try dsimp only at hO69
             refine gx_no (by kernel_rfl) ?_
             refine gx_seq (fun K76 hK77 => ?_)
             refine gx_region ?_
             refine gx_k (.int .i64 x16) w63 ?_
             rcases if_in hO69 with ⟨h78, hO69⟩ | ⟨h78, hO69⟩
             ·refine gx_v (.bool true) w63 (run_boolE (decide_eq_true h78) (by kernel_rfl)) ?_
              refine gx_k (.bool true) w63 (gx_k (.slice A0 p0.length c0) w63 (gx_k (.int .i64 x17) w63 ?_))
              obtain ⟨x79, hx80, hO69⟩ := bind_in hO69
              refine gx_v (.pointer (Option.map (fun (p : Addr) => p.add (Int.toNat x17 * 1)) A0)) w63 (run_ixaddr (E := 34) (s := 1) (k := .i64) (c := c0) rfl (by kernel_rfl) (by kernel_rfl) (by kernel_rfl) (fun _ => by kernel_rfl) (ix_in hx80).1 (ix_in hx80).2.1 (num_nil (hS64.view hv0))) ?_
              refine gx_v (.int .u8 x79) w63 (run_loadix rfl (by kernel_rfl) (fun _ => by kernel_rfl) (hS64.view hv0) hx80) ?_
              rcases if_in hO69 with ⟨h81, hO69⟩ | ⟨h81, hO69⟩
              ·refine gx_v (.bool true) w63 (run_boolE (decide_eq_true h81) (by kernel_rfl)) ?_
               refine gx_k (.bool true) w63 (gx_o (gx_o (gx_o (gx_o (gx_o (gx_k (.bool true) w63 (gx_k (.bool true) w63 ?_)))))))
               refine gx_k (.bool true) w63 ?_
               refine gx_nil ?_
               refine gx_thenN ?_
               refine hK77 _ _ ?_
               refine gx_yes (by kernel_rfl) ?_
               refine gx_seq (fun K82 hK83 => ?_)
               refine gx_region ?_
               refine gx_k (.bool true) w63 ?_
               refine gx_nil ?_
               refine gx_thenN ?_
               refine hK83 _ _ ?_
               refine gx_ret ?_
               refine gx_blkR ?_
               refine gx_blkR ?_
               refine gx_thenR ?_
               refine gx_thenR ?_
               refine gx_blkR ?_
               refine gx_thenR ?_
               obtain rfl := Option.some.inj hO69
               try dsimp only at hO10
               obtain rfl := Option.some.inj hO10
               exact gx_fin (.bool true) (by kernel_rfl) (by kernel_rfl) ⟨_, rfl, rfl, hS64⟩
              ·refine gx_v (.bool false) w63 (run_boolE (decide_eq_false h81) (by kernel_rfl)) ?_
               refine gx_k (.bool false) w63 (gx_k (.slice A0 p0.length c0) w63 (gx_k (.int .i64 x17) w63 ?_))
               obtain ⟨x84, hx85, hO69⟩ := bind_in hO69
               refine gx_v (.pointer (Option.map (fun (p : Addr) => p.add (Int.toNat x17 * 1)) A0)) w63 (run_ixaddr (E := 34) (s := 1) (k := .i64) (c := c0) rfl (by kernel_rfl) (by kernel_rfl) (by kernel_rfl) (fun _ => by kernel_rfl) (ix_in hx85).1 (ix_in hx85).2.1 (num_nil (hS64.view hv0))) ?_
               refine gx_v (.int .u8 x84) w63 (run_loadix rfl (by kernel_rfl) (fun _ => by kernel_rfl) (hS64.view hv0) hx85) ?_
               rcases if_in hO69 with ⟨h86, hO69⟩ | ⟨h86, hO69⟩
               ·refine gx_v (.bool true) w63 (run_boolE (decide_eq_true h86) (by kernel_rfl)) ?_
                refine gx_k (.bool true) w63 (gx_k (.bool true) w63 (gx_k (.bool true) w63 ?_))
                refine gx_nil ?_
                refine gx_thenN ?_
                refine hK77 _ _ ?_
                refine gx_yes (by kernel_rfl) ?_
                refine gx_seq (fun K87 hK88 => ?_)
                refine gx_region ?_
                refine gx_k (.bool true) w63 ?_
                refine gx_nil ?_
                refine gx_thenN ?_
                refine hK88 _ _ ?_
                refine gx_ret ?_
                refine gx_blkR ?_
                refine gx_blkR ?_
                refine gx_thenR ?_
                refine gx_thenR ?_
                refine gx_blkR ?_
                refine gx_thenR ?_
                obtain rfl := Option.some.inj hO69
                try dsimp only at hO10
                obtain rfl := Option.some.inj hO10
                exact gx_fin (.bool true) (by kernel_rfl) (by kernel_rfl) ⟨_, rfl, rfl, hS64⟩
               ·refine gx_v (.bool false) w63 (run_boolE (decide_eq_false h86) (by kernel_rfl)) ?_
                refine gx_k (.bool false) w63 (gx_k (.bool false) w63 (gx_k (.bool false) w63 ?_))
                refine gx_nil ?_
                refine gx_thenN ?_
                refine hK77 _ _ ?_
                refine gx_no (by kernel_rfl) ?_
                refine gx_pass ?_
                refine gx_blkN ?_
                refine gx_blkN ?_
                refine gx_thenN ?_
                refine hK29 _ _ ?_
                refine gx_region ?_
                refine gx_k (.int .i64 x17) w63 (gx_k (.int .i64 (IntKind.i64.wrap (x17 + 1))) w63 (gx_k (.int .i64 (IntKind.i64.wrap (x17 + 1))) w63 ?_))
                refine gx_nil ?_
                refine gx_thenN ?_
                exact ⟨k18, Nat.lt_succ_self k18, x16, (IntKind.i64.wrap (x17 + 1)), selfA_i (by kernel_rfl), hO69, hS64⟩
             ·refine gx_v (.bool false) w63 (run_boolE (decide_eq_false h78) (by kernel_rfl)) ?_
              refine gx_k (.bool false) w63 (gx_o (gx_o (gx_o (gx_o (gx_o (gx_o (gx_o ?_)))))))
              refine gx_o (gx_o (gx_o (gx_o (gx_o (gx_k (.bool false) w63 (gx_k (.bool false) w63 ?_))))))
              refine gx_nil ?_
              refine gx_thenN ?_
              refine hK77 _ _ ?_
              refine gx_no (by kernel_rfl) ?_
              refine gx_pass ?_
              refine gx_blkN ?_
              refine gx_blkN ?_
              refine gx_thenN ?_
              refine hK29 _ _ ?_
              refine gx_region ?_
              refine gx_k (.int .i64 x17) w63 (gx_k (.int .i64 (IntKind.i64.wrap (x17 + 1))) w63 (gx_k (.int .i64 (IntKind.i64.wrap (x17 + 1))) w63 ?_))
              refine gx_nil ?_
              refine gx_thenN ?_
              exact ⟨k18, Nat.lt_succ_self k18, x16, (IntKind.i64.wrap (x17 + 1)), selfA_i (by kernel_rfl), hO69, hS64⟩
     ·refine gx_v (.bool false) w13 (run_boolE (ne_no h27) (by kernel_rfl)) ?_
      refine gx_k (.bool false) w13 ?_
      refine gx_nil ?_
      refine gx_thenN ?_
      refine hK23 _ _ ?_
      refine gx_no (by kernel_rfl) ?_
      refine gx_exit ?_
      refine gx_thenE ?_
      refine gx_thenE ?_
      refine gx_blkE ?_
      refine gx_thenN ?_
      exact ⟨selfA_i (by kernel_rfl), (Option.some.inj hL19), hS14⟩
    ·refine gx_v (.bool false) w13 (run_boolE (decide_eq_false h24) (by kernel_rfl)) ?_
     refine gx_k (.bool false) w13 (gx_o (gx_o (gx_o (gx_o (gx_o (gx_k (.bool false) w13 ?_))))))
     refine gx_nil ?_
     refine gx_thenN ?_
     refine hK23 _ _ ?_
     refine gx_no (by kernel_rfl) ?_
     refine gx_exit ?_
     refine gx_thenE ?_
     refine gx_thenE ?_
     refine gx_blkE ?_
     refine gx_thenN ?_
     exact ⟨selfA_i (by kernel_rfl), (Option.some.inj hL19), hS14⟩
 ·rintro _ w5 ⟨hq95, rfl, hS6⟩
  obtain ⟨u7, rfl⟩ := selfA_u hq95
  try dsimp only at hO10
  refine gx_seq (fun K93 hK94 => ?_)
  refine gx_region ?_
  refine gx_k (.bool false) w5 ?_
  refine gx_nil ?_
  refine gx_thenN ?_
  refine hK94 _ _ ?_
  refine gx_ret ?_
  obtain rfl := Option.some.inj hO10
  exact gx_fin (.bool false) (by kernel_rfl) (by kernel_rfl) ⟨_, rfl, rfl, hS6⟩

def rBase (N : Nat) (p0 : List Int) : Option (Int) :=
 ((rRight N p0 (0 : Int) false).bind fun b9 => (match b9 with | true => some 1 | false => some 0))

set_option linter.unusedVariables false in
def rBase_R (r : Int) (w0 : World) (v : Value) (w : World) : Prop := v = .int .u8 r ∧ St [] w0 w []

set_option maxRecDepth 100000 in
set_option maxHeartbeats 4000000 in
theorem rBase_ok (N : Nat) (p0 : List Int) (A0 : Option Addr) (c0 : Nat) (r : Int) (hF : rBase N p0 = some r) (w0 : World) (hv0 : Vw [] .u8 w0 A0 c0 p0) :
  Calls Try.prog 23 #[.slice A0 p0.length c0] w0 fun e w => ∃ v, e = .returned v ∧ rBase_R r w0 v w := by
 have hS0 := St.start w0
 unfold rBase at hF
 refine calls_of Try.func23 rfl ⟨((.slice A0 p0.length c0) :: un 4 ([])).toArray, []⟩ (by kernel_rfl) ?_
 refine gx_seq (fun K1 hK2 => ?_)
 refine gx_region ?_
 refine gx_k (.int .u8 0) w0 ?_
 refine gx_nil ?_
 refine gx_thenN ?_
 refine hK2 _ _ ?_
 refine gx_seq (fun K3 hK4 => ?_)
 refine gx_seq (fun K5 hK6 => ?_)
 refine gx_region ?_
 refine gx_k (.slice A0 p0.length c0) w0 ?_
 have hP7 : St _ _ w0 ([] ++ []) := hS0
 obtain ⟨b9, hc8, hF⟩ := bind_in hF
 try dsimp only at hF
 refine gx_c (rRight_R b9 w0) (rRight_ok N p0 (0 : Int) false A0 c0 _ hc8 w0 (hP7.vwA hv0)) ?_
 rintro _ w10 ⟨rfl, hT12⟩
 have hS11 : St _ _ w10 [] := hS0.take _ hT12
 refine gx_nil ?_
 refine gx_thenN ?_
 refine hK6 _ _ ?_
 cases b9 with
 | true =>
  try dsimp only at hF
  refine gx_yes (by kernel_rfl) ?_
  refine gx_seq (fun K13 hK14 => ?_)
  refine gx_region ?_
  refine gx_k (.int .u8 1) w10 ?_
  refine gx_nil ?_
  refine gx_thenN ?_
  refine hK14 _ _ ?_
  refine gx_ret ?_
  refine gx_thenR ?_
  obtain rfl := Option.some.inj hF
  exact gx_fin (.int .u8 1) (by kernel_rfl) (by kernel_rfl) ⟨_, rfl, rfl, hS11⟩
 | false =>
  try dsimp only at hF
  refine gx_no (by kernel_rfl) ?_
  refine gx_pass ?_
  refine gx_thenN ?_
  refine hK4 _ _ ?_
  refine gx_seq (fun K15 hK16 => ?_)
  refine gx_region ?_
  refine gx_k (.int .u8 0) w10 ?_
  refine gx_nil ?_
  refine gx_thenN ?_
  refine hK16 _ _ ?_
  refine gx_ret ?_
  obtain rfl := Option.some.inj hF
  exact gx_fin (.int .u8 0) (by kernel_rfl) (by kernel_rfl) ⟨_, rfl, rfl, hS11⟩

def rNext (_N : Nat) (p0_0 : Int) (_p0_1 : Int) (p1 : Bool) : Option (Int) :=
 (if (Int.tmod (IntKind.u8.wrap (p0_0 + 1)) 2) = 1 then (match p1 with | true => some (IntKind.u8.wrap (p0_0 + 1)) | false => some (IntKind.u8.wrap ((IntKind.u8.wrap (p0_0 + 1)) + 1))) else (match p1 with | true => some (IntKind.u8.wrap ((IntKind.u8.wrap (p0_0 + 1)) + 1)) | false => some (IntKind.u8.wrap (p0_0 + 1))))

set_option linter.unusedVariables false in
def rNext_R (r : Int) (w0 : World) (v : Value) (w : World) : Prop := v = .int .u8 r ∧ St [] w0 w []

set_option maxRecDepth 100000 in
set_option maxHeartbeats 4000000 in
theorem rNext_ok (N : Nat) (p0_0 : Int) (p0_1 : Int) (p1 : Bool)  (r : Int) (hF : rNext N p0_0 p0_1 p1 = some r) (w0 : World)  :
  Calls Try.prog 33 #[.agg #[.int .u8 p0_0, .int .u8 p0_1], .bool p1] w0 fun e w => ∃ v, e = .returned v ∧ rNext_R r w0 v w := by
 have hS0 := St.start w0
 unfold rNext at hF
 refine calls_of Try.func33 rfl ⟨((.agg #[.int .u8 p0_0, .int .u8 p0_1]) :: (.bool p1) :: un 15 ([])).toArray, []⟩ (by kernel_rfl) ?_
 refine gx_seq (fun K1 hK2 => ?_)
 refine gx_region ?_
 refine gx_r (st_boxed [.int .u8 p0_0, .int .u8 p0_1] 65 hS0 (by kernel_rfl)) ?_
 rintro _ w3 ⟨rfl, hS4⟩
 have hS4 : St _ _ w3 [boxE w0.heap.size [.int .u8 p0_0, .int .u8 p0_1] 65] := hS4
 refine gx_k (.int .u8 0) w3 ?_
 refine gx_nil ?_
 refine gx_thenN ?_
 refine hK2 _ _ ?_
 refine gx_seq (fun K5 hK6 => ?_)
 refine gx_region ?_
 refine gx_k (.pointer (some ⟨w0.heap.size, 0, none⟩)) w3 ?_
 refine gx_v (.int .u8 p0_0) w3 (run_load1 rfl (by kernel_rfl) (fun _ => by kernel_rfl) (hS4.box 0 rfl 0 rfl)) ?_
 refine gx_k (.int .u8 (IntKind.u8.wrap (p0_0 + 1))) w3 (gx_k (.int .u8 (IntKind.u8.wrap (p0_0 + 1))) w3 ?_)
 refine gx_nil ?_
 refine gx_thenN ?_
 refine hK6 _ _ ?_
 refine gx_seq (fun K7 hK8 => ?_)
 refine gx_seq (fun K9 hK10 => ?_)
 refine gx_region ?_
 refine gx_k (.int .u8 (IntKind.u8.wrap (p0_0 + 1))) w3 (gx_k (.int .u8 (Int.tmod (IntKind.u8.wrap (p0_0 + 1)) 2)) w3 ?_)
 rcases if_in hF with ⟨h11, hF⟩ | ⟨h11, hF⟩
 ·refine gx_v (.bool true) w3 (run_boolE (decide_eq_true h11) (by kernel_rfl)) ?_
  refine gx_k (.bool p1) w3 ?_
  cases p1 with
  | true =>
   try dsimp only at hF
   refine gx_k (.bool false) w3 ?_
   refine gx_nil ?_
   refine gx_thenN ?_
   refine hK10 _ _ ?_
   refine gx_no (by kernel_rfl) ?_
   refine gx_pass ?_
   refine gx_thenN ?_
   refine hK8 _ _ ?_
   refine gx_seq (fun K12 hK13 => ?_)
   refine gx_region ?_
   refine gx_k (.int .u8 (IntKind.u8.wrap (p0_0 + 1))) w3 (gx_k (.int .u8 (IntKind.u8.wrap (p0_0 + 1))) w3 ?_)
   refine gx_nil ?_
   refine gx_thenN ?_
   refine hK13 _ _ ?_
   refine gx_ret ?_
   obtain rfl := Option.some.inj hF
   exact gx_fin (.int .u8 (IntKind.u8.wrap (p0_0 + 1))) (by kernel_rfl) (by kernel_rfl) ⟨_, rfl, rfl, (hS4.pick [] rfl rfl)⟩
  | false =>
   try dsimp only at hF
   refine gx_k (.bool true) w3 ?_
   refine gx_nil ?_
   refine gx_thenN ?_
   refine hK10 _ _ ?_
   refine gx_yes (by kernel_rfl) ?_
   refine gx_region ?_
   refine gx_k (.int .u8 (IntKind.u8.wrap (p0_0 + 1))) w3 (gx_k (.int .u8 (IntKind.u8.wrap ((IntKind.u8.wrap (p0_0 + 1)) + 1))) w3 (gx_k (.int .u8 (IntKind.u8.wrap ((IntKind.u8.wrap (p0_0 + 1)) + 1))) w3 ?_))
   refine gx_nil ?_
   refine gx_thenN ?_
   refine hK8 _ _ ?_
   refine gx_seq (fun K14 hK15 => ?_)
   refine gx_region ?_
   refine gx_k (.int .u8 (IntKind.u8.wrap ((IntKind.u8.wrap (p0_0 + 1)) + 1))) w3 (gx_k (.int .u8 (IntKind.u8.wrap ((IntKind.u8.wrap (p0_0 + 1)) + 1))) w3 ?_)
   refine gx_nil ?_
   refine gx_thenN ?_
   refine hK15 _ _ ?_
   refine gx_ret ?_
   obtain rfl := Option.some.inj hF
   exact gx_fin (.int .u8 (IntKind.u8.wrap ((IntKind.u8.wrap (p0_0 + 1)) + 1))) (by kernel_rfl) (by kernel_rfl) ⟨_, rfl, rfl, (hS4.pick [] rfl rfl)⟩
 ·refine gx_v (.bool false) w3 (run_boolE (decide_eq_false h11) (by kernel_rfl)) ?_
  refine gx_k (.bool p1) w3 ?_
  cases p1 with
  | true =>
   try dsimp only at hF
   refine gx_k (.bool true) w3 ?_
   refine gx_nil ?_
   refine gx_thenN ?_
   refine hK10 _ _ ?_
   refine gx_yes (by kernel_rfl) ?_
   refine gx_region ?_
   refine gx_k (.int .u8 (IntKind.u8.wrap (p0_0 + 1))) w3 (gx_k (.int .u8 (IntKind.u8.wrap ((IntKind.u8.wrap (p0_0 + 1)) + 1))) w3 (gx_k (.int .u8 (IntKind.u8.wrap ((IntKind.u8.wrap (p0_0 + 1)) + 1))) w3 ?_))
   refine gx_nil ?_
   refine gx_thenN ?_
   refine hK8 _ _ ?_
   refine gx_seq (fun K16 hK17 => ?_)
   refine gx_region ?_
   refine gx_k (.int .u8 (IntKind.u8.wrap ((IntKind.u8.wrap (p0_0 + 1)) + 1))) w3 (gx_k (.int .u8 (IntKind.u8.wrap ((IntKind.u8.wrap (p0_0 + 1)) + 1))) w3 ?_)
   refine gx_nil ?_
   refine gx_thenN ?_
   refine hK17 _ _ ?_
   refine gx_ret ?_
   obtain rfl := Option.some.inj hF
   exact gx_fin (.int .u8 (IntKind.u8.wrap ((IntKind.u8.wrap (p0_0 + 1)) + 1))) (by kernel_rfl) (by kernel_rfl) ⟨_, rfl, rfl, (hS4.pick [] rfl rfl)⟩
  | false =>
   try dsimp only at hF
   refine gx_k (.bool false) w3 ?_
   refine gx_nil ?_
   refine gx_thenN ?_
   refine hK10 _ _ ?_
   refine gx_no (by kernel_rfl) ?_
   refine gx_pass ?_
   refine gx_thenN ?_
   refine hK8 _ _ ?_
   refine gx_seq (fun K18 hK19 => ?_)
   refine gx_region ?_
   refine gx_k (.int .u8 (IntKind.u8.wrap (p0_0 + 1))) w3 (gx_k (.int .u8 (IntKind.u8.wrap (p0_0 + 1))) w3 ?_)
   refine gx_nil ?_
   refine gx_thenN ?_
   refine hK19 _ _ ?_
   refine gx_ret ?_
   obtain rfl := Option.some.inj hF
   exact gx_fin (.int .u8 (IntKind.u8.wrap (p0_0 + 1))) (by kernel_rfl) (by kernel_rfl) ⟨_, rfl, rfl, (hS4.pick [] rfl rfl)⟩

def rOvr (_N : Nat) (p0 : Int) : Option (Int) :=
 (if p0 = 17 then some 1 else (if p0 = 18 then some 2 else some 0))

set_option linter.unusedVariables false in
def rOvr_R (r : Int) (w0 : World) (v : Value) (w : World) : Prop := v = .int .u8 r ∧ St [] w0 w []

set_option maxRecDepth 100000 in
set_option maxHeartbeats 4000000 in
theorem rOvr_ok (N : Nat) (p0 : Int)  (r : Int) (hF : rOvr N p0 = some r) (w0 : World)  :
  Calls Try.prog 34 #[.int .u8 p0] w0 fun e w => ∃ v, e = .returned v ∧ rOvr_R r w0 v w := by
 have hS0 := St.start w0
 unfold rOvr at hF
 refine calls_of Try.func34 rfl ⟨((.int .u8 p0) :: un 7 ([])).toArray, []⟩ (by kernel_rfl) ?_
 refine gx_seq (fun K1 hK2 => ?_)
 refine gx_region ?_
 refine gx_k (.int .u8 0) w0 ?_
 refine gx_nil ?_
 refine gx_thenN ?_
 refine hK2 _ _ ?_
 refine gx_seq (fun K3 hK4 => ?_)
 refine gx_seq (fun K5 hK6 => ?_)
 refine gx_region ?_
 refine gx_k (.int .u8 p0) w0 ?_
 refine gx_nil ?_
 refine gx_thenN ?_
 refine hK6 _ _ ?_
 refine gx_block ?_
 refine gx_seq (fun K7 hK8 => ?_)
 refine gx_region ?_
 rcases if_in hF with ⟨h9, hF⟩ | ⟨h9, hF⟩
 ·refine gx_v (.bool true) w0 (run_boolE (decide_eq_true h9) (by kernel_rfl)) ?_
  refine gx_k (.bool true) w0 ?_
  refine gx_nil ?_
  refine gx_thenN ?_
  refine hK8 _ _ ?_
  refine gx_yes (by kernel_rfl) ?_
  refine gx_seq (fun K10 hK11 => ?_)
  refine gx_region ?_
  refine gx_k (.int .u8 1) w0 ?_
  refine gx_nil ?_
  refine gx_thenN ?_
  refine hK11 _ _ ?_
  refine gx_ret ?_
  refine gx_blkR ?_
  refine gx_thenR ?_
  obtain rfl := Option.some.inj hF
  exact gx_fin (.int .u8 1) (by kernel_rfl) (by kernel_rfl) ⟨_, rfl, rfl, hS0⟩
 ·refine gx_v (.bool false) w0 (run_boolE (decide_eq_false h9) (by kernel_rfl)) ?_
  refine gx_k (.bool false) w0 ?_
  refine gx_nil ?_
  refine gx_thenN ?_
  refine hK8 _ _ ?_
  refine gx_no (by kernel_rfl) ?_
  refine gx_seq (fun K12 hK13 => ?_)
  refine gx_region ?_
  rcases if_in hF with ⟨h14, hF⟩ | ⟨h14, hF⟩
  ·refine gx_v (.bool true) w0 (run_boolE (decide_eq_true h14) (by kernel_rfl)) ?_
   refine gx_k (.bool true) w0 ?_
   refine gx_nil ?_
   refine gx_thenN ?_
   refine hK13 _ _ ?_
   refine gx_yes (by kernel_rfl) ?_
   refine gx_seq (fun K15 hK16 => ?_)
   refine gx_region ?_
   refine gx_k (.int .u8 2) w0 ?_
   refine gx_nil ?_
   refine gx_thenN ?_
   refine hK16 _ _ ?_
   refine gx_ret ?_
   refine gx_blkR ?_
   refine gx_thenR ?_
   obtain rfl := Option.some.inj hF
   exact gx_fin (.int .u8 2) (by kernel_rfl) (by kernel_rfl) ⟨_, rfl, rfl, hS0⟩
  ·refine gx_v (.bool false) w0 (run_boolE (decide_eq_false h14) (by kernel_rfl)) ?_
   refine gx_k (.bool false) w0 ?_
   refine gx_nil ?_
   refine gx_thenN ?_
   refine hK13 _ _ ?_
   refine gx_no (by kernel_rfl) ?_
   refine gx_pass ?_
   refine gx_blkN ?_
   refine gx_thenN ?_
   refine hK4 _ _ ?_
   refine gx_seq (fun K17 hK18 => ?_)
   refine gx_region ?_
   refine gx_k (.int .u8 0) w0 ?_
   refine gx_nil ?_
   refine gx_thenN ?_
   refine hK18 _ _ ?_
   refine gx_ret ?_
   obtain rfl := Option.some.inj hF
   exact gx_fin (.int .u8 0) (by kernel_rfl) (by kernel_rfl) ⟨_, rfl, rfl, hS0⟩

def rStands (_N : Nat) (p0_0 : List Int) (_p0_1 : Int) (p0_2 : List Int) (p0_3 : List Int) (p1 : Int) (p2_0 : Int) (p2_1 : Int) : Option (List Int × List Int) :=
 ((ix p0_2 p1).bind fun _x9 => ((setx p0_2 p1 p2_0).bind fun l13 => ((ix p0_0 p1).bind fun x20 => ((ix p0_3 p1).bind fun _x22 => ((setx p0_3 p1 x20).bind fun l26 => (if p2_1 ≠ 0 then ((ix l26 p1).bind fun _x34 => ((setx l26 p1 p2_1).bind fun l38 => some (l13, l38))) else some (l13, l26)))))))

set_option linter.unusedVariables false in
def rStands_R (p0_0 : List Int) (p0_1 : Int) (p0_2 : List Int) (p0_3 : List Int) (p1 : Int) (p2_0 : Int) (p2_1 : Int) (g0 : Nat) (A0_0 : Option Addr) (c0_0 : Nat) (A0_2 : Option Addr) (c0_2 : Nat) (A0_3 : Option Addr) (c0_3 : Nat) (r : List Int × List Int) (w0 : World) (v : Value) (w : World) : Prop := ∃ (Al0_2' : Option Addr) (cl0_2' : Nat) (Al0_3' : Option Addr) (cl0_3' : Nat), v = .tuple #[] ∧ St (foots [boxE g0 [.slice A0_0 p0_0.length c0_0, .int .u8 p0_1, .slice A0_2 p0_2.length c0_2, .slice A0_3 p0_3.length c0_3] 62, rowE .u8 5 A0_2 c0_2 p0_2, rowE .u8 34 A0_3 c0_3 p0_3]) w0 w [boxE g0 [.slice A0_0 p0_0.length c0_0, .int .u8 p0_1, .slice Al0_2' r.1.length cl0_2', .slice Al0_3' r.2.length cl0_3'] 62, rowE .u8 5 Al0_2' cl0_2' r.1, rowE .u8 34 Al0_3' cl0_3' r.2]

set_option maxRecDepth 100000 in
set_option maxHeartbeats 4000000 in
theorem rStands_ok (N : Nat) (p0_0 : List Int) (p0_1 : Int) (p0_2 : List Int) (p0_3 : List Int) (p1 : Int) (p2_0 : Int) (p2_1 : Int) (g0 : Nat) (A0_0 : Option Addr) (c0_0 : Nat) (A0_2 : Option Addr) (c0_2 : Nat) (A0_3 : Option Addr) (c0_3 : Nat) (r : List Int × List Int) (hF : rStands N p0_0 p0_1 p0_2 p0_3 p1 p2_0 p2_1 = some r) (w0 : World) (hv0_0 : Vw (foots [boxE g0 [.slice A0_0 p0_0.length c0_0, .int .u8 p0_1, .slice A0_2 p0_2.length c0_2, .slice A0_3 p0_3.length c0_3] 62, rowE .u8 5 A0_2 c0_2 p0_2, rowE .u8 34 A0_3 c0_3 p0_3]) .u8 w0 A0_0 c0_0 p0_0) (hl : St (foots [boxE g0 [.slice A0_0 p0_0.length c0_0, .int .u8 p0_1, .slice A0_2 p0_2.length c0_2, .slice A0_3 p0_3.length c0_3] 62, rowE .u8 5 A0_2 c0_2 p0_2, rowE .u8 34 A0_3 c0_3 p0_3]) w0 w0 [boxE g0 [.slice A0_0 p0_0.length c0_0, .int .u8 p0_1, .slice A0_2 p0_2.length c0_2, .slice A0_3 p0_3.length c0_3] 62, rowE .u8 5 A0_2 c0_2 p0_2, rowE .u8 34 A0_3 c0_3 p0_3]) :
  Calls Try.prog 32 #[.pointer (some ⟨g0, 0, none⟩), .int .i64 p1, .agg #[.int .u8 p2_0, .int .u8 p2_1]] w0 fun e w => ∃ v, e = .returned v ∧ rStands_R p0_0 p0_1 p0_2 p0_3 p1 p2_0 p2_1 g0 A0_0 c0_0 A0_2 c0_2 A0_3 c0_3 r w0 v w := by
 have hS0 := hl
 unfold rStands at hF
 refine calls_of Try.func32 rfl ⟨((.pointer (some ⟨g0, 0, none⟩)) :: (.int .i64 p1) :: (.agg #[.int .u8 p2_0, .int .u8 p2_1]) :: un 35 ([])).toArray, []⟩ (by kernel_rfl) ?_
 refine gx_seq (fun K1 hK2 => ?_)
 refine gx_region ?_
 refine gx_r (st_boxed [.int .u8 p2_0, .int .u8 p2_1] 65 hS0 (by kernel_rfl)) ?_
 rintro _ w3 ⟨rfl, hS4⟩
 have hS4 : St _ _ w3 [boxE g0 [.slice A0_0 p0_0.length c0_0, .int .u8 p0_1, .slice A0_2 p0_2.length c0_2, .slice A0_3 p0_3.length c0_3] 62, rowE .u8 5 A0_2 c0_2 p0_2, rowE .u8 34 A0_3 c0_3 p0_3, boxE w0.heap.size [.int .u8 p2_0, .int .u8 p2_1] 65] := hS4
 refine gx_nil ?_
 refine gx_thenN ?_
 refine hK2 _ _ ?_
 refine gx_seq (fun K5 hK6 => ?_)
 refine gd_start (fun w => St (foots [boxE g0 [.slice A0_0 p0_0.length c0_0, .int .u8 p0_1, .slice A0_2 p0_2.length c0_2, .slice A0_3 p0_3.length c0_3] 62, rowE .u8 5 A0_2 c0_2 p0_2, rowE .u8 34 A0_3 c0_3 p0_3]) w0 w [boxE g0 [.slice A0_0 p0_0.length c0_0, .int .u8 p0_1, .slice A0_2 p0_2.length c0_2, .slice A0_3 p0_3.length c0_3] 62, rowE .u8 34 A0_3 c0_3 p0_3, boxE w0.heap.size [.int .u8 p2_0, .int .u8 p2_1] 65]) 9 #[false, false, false, false, false, false, false, false, false] (by kernel_rfl) (by kernel_rfl) ?_
 have hS8 := hS4.drew
 generalize w3.drew = w7 at hS8 ⊢
 refine gd1 0 { dst := some 6, op := _, type := _, pos := _, after := _, guard := _ } (.pointer (some ⟨g0, 0, none⟩)) rfl (hS8.pick [0, 2, 3] rfl rfl) (fun w hSw => by kernel_rfl) ?_
 refine gd1 1 { dst := some 7, op := _, type := _, pos := _, after := _, guard := _ } (.pointer (some ⟨g0, 0, none⟩)) rfl (hS8.pick [0, 2, 3] rfl rfl) (fun w hSw => by kernel_rfl) ?_
 refine gd1 2 { dst := some 8, op := _, type := _, pos := _, after := _, guard := _ } (.pointer (some ⟨g0, 2, none⟩)) rfl (hS8.pick [0, 2, 3] rfl rfl) (fun w hSw => by kernel_rfl) ?_
 refine gd1 3 { dst := some 9, op := _, type := _, pos := _, after := _, guard := _ } (.slice A0_2 p0_2.length c0_2) rfl (hS8.pick [0, 2, 3] rfl rfl) (fun w hSw => run_load1 rfl (by kernel_rfl) (fun _ => by kernel_rfl) (hSw.box 0 rfl 2 rfl)) ?_
 refine gd1 4 { dst := some 10, op := _, type := _, pos := _, after := _, guard := _ } (.int .i64 p1) rfl (hS8.pick [0, 2, 3] rfl rfl) (fun w hSw => by kernel_rfl) ?_
 refine gd1 5 { dst := some 11, op := _, type := _, pos := _, after := _, guard := _ } (.pointer (some ⟨w0.heap.size, 0, none⟩)) rfl (hS8.pick [0, 2, 3] rfl rfl) (fun w hSw => by kernel_rfl) ?_
 refine gd1 6 { dst := some 12, op := _, type := _, pos := _, after := _, guard := _ } (.int .u8 p2_0) rfl (hS8.pick [0, 2, 3] rfl rfl) (fun w hSw => run_load1 rfl (by kernel_rfl) (fun _ => by kernel_rfl) (hSw.box 2 rfl 0 rfl)) ?_
 obtain ⟨x9, hx10, hF⟩ := bind_in hF
 refine gd1 7 { dst := some 13, op := _, type := _, pos := _, after := _, guard := _ } (.pointer (Option.map (fun (p : Addr) => p.add (Int.toNat p1 * 1)) A0_2)) rfl (hS8.pick [0, 2, 3] rfl rfl) (fun w hSw => run_ixaddr (E := 5) (s := 1) (k := .i64) (c := c0_2) rfl (by kernel_rfl) (by kernel_rfl) (by kernel_rfl) (fun _ => by kernel_rfl) (ix_in hx10).1 (ix_in hx10).2.1 (num_nil (hS8.row 1 rfl).1)) ?_
 obtain ⟨l13, hx14, hF⟩ := bind_in hF
 refine gdS 8 { dst := none, op := _, type := _, pos := _, after := _, guard := _ } rfl (st_storeix rfl (by kernel_rfl) (by kernel_rfl) (fun _ => by kernel_rfl) hS8 1 rfl hx14) ?_
 rintro w11 hS12
 have hS12 : St _ _ w11 [boxE g0 [.slice A0_0 p0_0.length c0_0, .int .u8 p0_1, .slice A0_2 p0_2.length c0_2, .slice A0_3 p0_3.length c0_3] 62, rowE .u8 5 A0_2 c0_2 l13, rowE .u8 34 A0_3 c0_3 p0_3, boxE w0.heap.size [.int .u8 p2_0, .int .u8 p2_1] 65] := hS12
 refine ⟨(hS12.pick [0, 2, 3] rfl rfl), ?_⟩
 refine gd_done (by kernel_rfl) ?_
 have hS15 : St _ _ w11 [boxE g0 [.slice A0_0 p0_0.length c0_0, .int .u8 p0_1, .slice A0_2 l13.length c0_2, .slice A0_3 p0_3.length c0_3] 62, rowE .u8 5 A0_2 c0_2 l13, rowE .u8 34 A0_3 c0_3 p0_3, boxE w0.heap.size [.int .u8 p2_0, .int .u8 p2_1] 65] := (show [boxE g0 [.slice A0_0 p0_0.length c0_0, .int .u8 p0_1, .slice A0_2 p0_2.length c0_2, .slice A0_3 p0_3.length c0_3] 62, rowE .u8 5 A0_2 c0_2 l13, rowE .u8 34 A0_3 c0_3 p0_3, boxE w0.heap.size [.int .u8 p2_0, .int .u8 p2_1] 65] = [boxE g0 [.slice A0_0 p0_0.length c0_0, .int .u8 p0_1, .slice A0_2 l13.length c0_2, .slice A0_3 p0_3.length c0_3] 62, rowE .u8 5 A0_2 c0_2 l13, rowE .u8 34 A0_3 c0_3 p0_3, boxE w0.heap.size [.int .u8 p2_0, .int .u8 p2_1] 65] by rw [show p0_2.length = l13.length from (setx_len hx14).symm]) ▸ hS12
 refine gx_thenN ?_
 refine hK6 _ _ ?_
 refine gx_seq (fun K16 hK17 => ?_)
 refine gd_start (fun w => St (foots [boxE g0 [.slice A0_0 p0_0.length c0_0, .int .u8 p0_1, .slice A0_2 p0_2.length c0_2, .slice A0_3 p0_3.length c0_3] 62, rowE .u8 5 A0_2 c0_2 p0_2, rowE .u8 34 A0_3 c0_3 p0_3]) w0 w [boxE g0 [.slice A0_0 p0_0.length c0_0, .int .u8 p0_1, .slice A0_2 l13.length c0_2, .slice A0_3 p0_3.length c0_3] 62, rowE .u8 5 A0_2 c0_2 l13, boxE w0.heap.size [.int .u8 p2_0, .int .u8 p2_1] 65]) 14 #[false, false, false, false, false, false, false, false, false, false, false, false, false, false] (by kernel_rfl) (by kernel_rfl) ?_
 have hS19 := hS15.drew
 generalize w11.drew = w18 at hS19 ⊢
 refine gd1 0 { dst := some 14, op := _, type := _, pos := _, after := _, guard := _ } (.pointer (some ⟨g0, 0, none⟩)) rfl (hS19.pick [0, 1, 3] rfl rfl) (fun w hSw => by kernel_rfl) ?_
 refine gd1 1 { dst := some 15, op := _, type := _, pos := _, after := _, guard := _ } (.pointer (some ⟨g0, 0, none⟩)) rfl (hS19.pick [0, 1, 3] rfl rfl) (fun w hSw => by kernel_rfl) ?_
 refine gd1 2 { dst := some 16, op := _, type := _, pos := _, after := _, guard := _ } (.pointer (some ⟨g0, 3, none⟩)) rfl (hS19.pick [0, 1, 3] rfl rfl) (fun w hSw => by kernel_rfl) ?_
 refine gd1 3 { dst := some 17, op := _, type := _, pos := _, after := _, guard := _ } (.slice A0_3 p0_3.length c0_3) rfl (hS19.pick [0, 1, 3] rfl rfl) (fun w hSw => run_load1 rfl (by kernel_rfl) (fun _ => by kernel_rfl) (hSw.box 0 rfl 3 rfl)) ?_
 refine gd1 4 { dst := some 18, op := _, type := _, pos := _, after := _, guard := _ } (.int .i64 p1) rfl (hS19.pick [0, 1, 3] rfl rfl) (fun w hSw => by kernel_rfl) ?_
 refine gd1 5 { dst := some 19, op := _, type := _, pos := _, after := _, guard := _ } (.pointer (some ⟨g0, 0, none⟩)) rfl (hS19.pick [0, 1, 3] rfl rfl) (fun w hSw => by kernel_rfl) ?_
 refine gd1 6 { dst := some 20, op := _, type := _, pos := _, after := _, guard := _ } (.pointer (some ⟨g0, 0, none⟩)) rfl (hS19.pick [0, 1, 3] rfl rfl) (fun w hSw => by kernel_rfl) ?_
 refine gd1 7 { dst := some 21, op := _, type := _, pos := _, after := _, guard := _ } (.pointer (some ⟨g0, 0, none⟩)) rfl (hS19.pick [0, 1, 3] rfl rfl) (fun w hSw => by kernel_rfl) ?_
 refine gd1 8 { dst := some 22, op := _, type := _, pos := _, after := _, guard := _ } (.slice A0_0 p0_0.length c0_0) rfl (hS19.pick [0, 1, 3] rfl rfl) (fun w hSw => run_load1 rfl (by kernel_rfl) (fun _ => by kernel_rfl) (hSw.box 0 rfl 0 rfl)) ?_
 refine gd1 9 { dst := some 23, op := _, type := _, pos := _, after := _, guard := _ } (.int .i64 p1) rfl (hS19.pick [0, 1, 3] rfl rfl) (fun w hSw => by kernel_rfl) ?_
 obtain ⟨x20, hx21, hF⟩ := bind_in hF
 refine gd1 10 { dst := some 24, op := _, type := _, pos := _, after := _, guard := _ } (.pointer (Option.map (fun (p : Addr) => p.add (Int.toNat p1 * 1)) A0_0)) rfl (hS19.pick [0, 1, 3] rfl rfl) (fun w hSw => run_ixaddr (E := 34) (s := 1) (k := .i64) (c := c0_0) rfl (by kernel_rfl) (by kernel_rfl) (by kernel_rfl) (fun _ => by kernel_rfl) (ix_in hx21).1 (ix_in hx21).2.1 (num_nil (hS19.view hv0_0))) ?_
 refine gd1 11 { dst := some 25, op := _, type := _, pos := _, after := _, guard := _ } (.int .u8 x20) rfl (hS19.pick [0, 1, 3] rfl rfl) (fun w hSw => run_loadix rfl (by kernel_rfl) (fun _ => by kernel_rfl) (hSw.view hv0_0) hx21) ?_
 obtain ⟨x22, hx23, hF⟩ := bind_in hF
 refine gd1 12 { dst := some 26, op := _, type := _, pos := _, after := _, guard := _ } (.pointer (Option.map (fun (p : Addr) => p.add (Int.toNat p1 * 1)) A0_3)) rfl (hS19.pick [0, 1, 3] rfl rfl) (fun w hSw => run_ixaddr (E := 34) (s := 1) (k := .i64) (c := c0_3) rfl (by kernel_rfl) (by kernel_rfl) (by kernel_rfl) (fun _ => by kernel_rfl) (ix_in hx23).1 (ix_in hx23).2.1 (num_nil (hS19.row 2 rfl).1)) ?_
 obtain ⟨l26, hx27, hF⟩ := bind_in hF
 refine gdS 13 { dst := none, op := _, type := _, pos := _, after := _, guard := _ } rfl (st_storeix rfl (by kernel_rfl) (by kernel_rfl) (fun _ => by kernel_rfl) hS19 2 rfl hx27) ?_
 rintro w24 hS25
 have hS25 : St _ _ w24 [boxE g0 [.slice A0_0 p0_0.length c0_0, .int .u8 p0_1, .slice A0_2 l13.length c0_2, .slice A0_3 p0_3.length c0_3] 62, rowE .u8 5 A0_2 c0_2 l13, rowE .u8 34 A0_3 c0_3 l26, boxE w0.heap.size [.int .u8 p2_0, .int .u8 p2_1] 65] := hS25
 refine ⟨(hS25.pick [0, 1, 3] rfl rfl), ?_⟩
 refine gd_done (by kernel_rfl) ?_
 have hS28 : St _ _ w24 [boxE g0 [.slice A0_0 p0_0.length c0_0, .int .u8 p0_1, .slice A0_2 l13.length c0_2, .slice A0_3 l26.length c0_3] 62, rowE .u8 5 A0_2 c0_2 l13, rowE .u8 34 A0_3 c0_3 l26, boxE w0.heap.size [.int .u8 p2_0, .int .u8 p2_1] 65] := (show [boxE g0 [.slice A0_0 p0_0.length c0_0, .int .u8 p0_1, .slice A0_2 l13.length c0_2, .slice A0_3 p0_3.length c0_3] 62, rowE .u8 5 A0_2 c0_2 l13, rowE .u8 34 A0_3 c0_3 l26, boxE w0.heap.size [.int .u8 p2_0, .int .u8 p2_1] 65] = [boxE g0 [.slice A0_0 p0_0.length c0_0, .int .u8 p0_1, .slice A0_2 l13.length c0_2, .slice A0_3 l26.length c0_3] 62, rowE .u8 5 A0_2 c0_2 l13, rowE .u8 34 A0_3 c0_3 l26, boxE w0.heap.size [.int .u8 p2_0, .int .u8 p2_1] 65] by rw [show p0_3.length = l26.length from (setx_len hx27).symm]) ▸ hS25
 refine gx_thenN ?_
 refine hK17 _ _ ?_
 refine gx_seq (fun K29 hK30 => ?_)
 refine gx_region ?_
 refine gx_k (.pointer (some ⟨w0.heap.size, 1, none⟩)) w24 ?_
 refine gx_v (.int .u8 p2_1) w24 (run_load1 rfl (by kernel_rfl) (fun _ => by kernel_rfl) (hS28.box 3 rfl 1 rfl)) ?_
 rcases if_in hF with ⟨h31, hF⟩ | ⟨h31, hF⟩
 ·refine gx_v (.bool true) w24 (run_boolE (ne_yes h31) (by kernel_rfl)) ?_
  refine gx_nil ?_
  refine gx_thenN ?_
  refine hK30 _ _ ?_
  refine gx_yes (by kernel_rfl) ?_
  refine gd_start (fun w => St (foots [boxE g0 [.slice A0_0 p0_0.length c0_0, .int .u8 p0_1, .slice A0_2 p0_2.length c0_2, .slice A0_3 p0_3.length c0_3] 62, rowE .u8 5 A0_2 c0_2 p0_2, rowE .u8 34 A0_3 c0_3 p0_3]) w0 w [boxE g0 [.slice A0_0 p0_0.length c0_0, .int .u8 p0_1, .slice A0_2 l13.length c0_2, .slice A0_3 l26.length c0_3] 62, rowE .u8 5 A0_2 c0_2 l13, boxE w0.heap.size [.int .u8 p2_0, .int .u8 p2_1] 65]) 9 #[false, false, false, false, false, false, false, false, false] (by kernel_rfl) (by kernel_rfl) ?_
  have hS33 := hS28.drew
  generalize w24.drew = w32 at hS33 ⊢
  refine gd1 0 { dst := some 30, op := _, type := _, pos := _, after := _, guard := _ } (.pointer (some ⟨g0, 0, none⟩)) rfl (hS33.pick [0, 1, 3] rfl rfl) (fun w hSw => by kernel_rfl) ?_
  refine gd1 1 { dst := some 31, op := _, type := _, pos := _, after := _, guard := _ } (.pointer (some ⟨g0, 0, none⟩)) rfl (hS33.pick [0, 1, 3] rfl rfl) (fun w hSw => by kernel_rfl) ?_
  refine gd1 2 { dst := some 32, op := _, type := _, pos := _, after := _, guard := _ } (.pointer (some ⟨g0, 3, none⟩)) rfl (hS33.pick [0, 1, 3] rfl rfl) (fun w hSw => by kernel_rfl) ?_
  refine gd1 3 { dst := some 33, op := _, type := _, pos := _, after := _, guard := _ } (.slice A0_3 l26.length c0_3) rfl (hS33.pick [0, 1, 3] rfl rfl) (fun w hSw => run_load1 rfl (by kernel_rfl) (fun _ => by kernel_rfl) (hSw.box 0 rfl 3 rfl)) ?_
  refine gd1 4 { dst := some 34, op := _, type := _, pos := _, after := _, guard := _ } (.int .i64 p1) rfl (hS33.pick [0, 1, 3] rfl rfl) (fun w hSw => by kernel_rfl) ?_
  refine gd1 5 { dst := some 35, op := _, type := _, pos := _, after := _, guard := _ } (.pointer (some ⟨w0.heap.size, 1, none⟩)) rfl (hS33.pick [0, 1, 3] rfl rfl) (fun w hSw => by kernel_rfl) ?_
  refine gd1 6 { dst := some 36, op := _, type := _, pos := _, after := _, guard := _ } (.int .u8 p2_1) rfl (hS33.pick [0, 1, 3] rfl rfl) (fun w hSw => run_load1 rfl (by kernel_rfl) (fun _ => by kernel_rfl) (hSw.box 2 rfl 1 rfl)) ?_
  obtain ⟨x34, hx35, hF⟩ := bind_in hF
  refine gd1 7 { dst := some 37, op := _, type := _, pos := _, after := _, guard := _ } (.pointer (Option.map (fun (p : Addr) => p.add (Int.toNat p1 * 1)) A0_3)) rfl (hS33.pick [0, 1, 3] rfl rfl) (fun w hSw => run_ixaddr (E := 34) (s := 1) (k := .i64) (c := c0_3) rfl (by kernel_rfl) (by kernel_rfl) (by kernel_rfl) (fun _ => by kernel_rfl) (ix_in hx35).1 (ix_in hx35).2.1 (num_nil (hS33.row 2 rfl).1)) ?_
  obtain ⟨l38, hx39, hF⟩ := bind_in hF
  refine gdS 8 { dst := none, op := _, type := _, pos := _, after := _, guard := _ } rfl (st_storeix rfl (by kernel_rfl) (by kernel_rfl) (fun _ => by kernel_rfl) hS33 2 rfl hx39) ?_
  rintro w36 hS37
  have hS37 : St _ _ w36 [boxE g0 [.slice A0_0 p0_0.length c0_0, .int .u8 p0_1, .slice A0_2 l13.length c0_2, .slice A0_3 l26.length c0_3] 62, rowE .u8 5 A0_2 c0_2 l13, rowE .u8 34 A0_3 c0_3 l38, boxE w0.heap.size [.int .u8 p2_0, .int .u8 p2_1] 65] := hS37
  refine ⟨(hS37.pick [0, 1, 3] rfl rfl), ?_⟩
  refine gd_done (by kernel_rfl) ?_
  have hS40 : St _ _ w36 [boxE g0 [.slice A0_0 p0_0.length c0_0, .int .u8 p0_1, .slice A0_2 l13.length c0_2, .slice A0_3 l38.length c0_3] 62, rowE .u8 5 A0_2 c0_2 l13, rowE .u8 34 A0_3 c0_3 l38, boxE w0.heap.size [.int .u8 p2_0, .int .u8 p2_1] 65] := (show [boxE g0 [.slice A0_0 p0_0.length c0_0, .int .u8 p0_1, .slice A0_2 l13.length c0_2, .slice A0_3 l26.length c0_3] 62, rowE .u8 5 A0_2 c0_2 l13, rowE .u8 34 A0_3 c0_3 l38, boxE w0.heap.size [.int .u8 p2_0, .int .u8 p2_1] 65] = [boxE g0 [.slice A0_0 p0_0.length c0_0, .int .u8 p0_1, .slice A0_2 l13.length c0_2, .slice A0_3 l38.length c0_3] 62, rowE .u8 5 A0_2 c0_2 l13, rowE .u8 34 A0_3 c0_3 l38, boxE w0.heap.size [.int .u8 p2_0, .int .u8 p2_1] 65] by rw [show l26.length = l38.length from (setx_len hx39).symm]) ▸ hS37
  obtain rfl := Option.some.inj hF
  exact gx_finN (.tuple #[]) (by kernel_rfl) (by kernel_rfl) ⟨_, rfl, A0_2, c0_2, A0_3, c0_3, rfl, (hS40.pick [0, 1, 2] rfl rfl)⟩
 ·refine gx_v (.bool false) w24 (run_boolE (ne_no h31) (by kernel_rfl)) ?_
  refine gx_nil ?_
  refine gx_thenN ?_
  refine hK30 _ _ ?_
  refine gx_no (by kernel_rfl) ?_
  refine gx_pass ?_
  obtain rfl := Option.some.inj hF
  exact gx_finN (.tuple #[]) (by kernel_rfl) (by kernel_rfl) ⟨_, rfl, A0_2, c0_2, A0_3, c0_3, rfl, (hS28.pick [0, 1, 2] rfl rfl)⟩

end Go.Proofs.Ytjndolnjhbgflaa
