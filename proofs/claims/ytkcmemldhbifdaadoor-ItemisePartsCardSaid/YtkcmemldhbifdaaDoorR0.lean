/-
  Joined.
-/
import Derived.Test.YtkcmemldhbifdaaDoorBk
namespace Go.Proofs.YtkcmemldhbifdaaDoor
open Go Go.RowKit
set_option linter.unusedVariables false
def rOwn (N : Nat) (p0 : Int) : Option (Bool) :=
 ((rfSc N p0).bind fun x7 => some (decide (x7 > 1)))
set_option linter.unusedVariables false in
def rOwn_R (r : Bool) (w0 : World) (v : Value) (w : World) : Prop := v = .bool r ∧ St [] w0 w []
set_option maxRecDepth 100000 in
set_option maxHeartbeats 4000000 in
theorem rOwn_ok (N : Nat) (p0 : Int)  (r : Bool) (hF : rOwn N p0 = some r) (w0 : World)  :
  Calls Tryd.prog 17 #[.int .i32 p0] w0 fun e w => ∃ v, e = .returned v ∧ rOwn_R r w0 v w := by
 have hS0 := St.start w0
 unfold rOwn at hF
 refine calls_of Tryd.func17 rfl ⟨((.int .i32 p0) :: un 5 ([])).toArray, []⟩ (by kernel_rfl) ?_
 refine gx_seq (fun K1 hK2 => ?_)
 refine gx_region ?_
 refine gx_k (.bool false) w0 ?_
 refine gx_nil ?_
 refine gx_thenN ?_
 refine hK2 _ _ ?_
 refine gx_seq (fun K3 hK4 => ?_)
 refine gx_region ?_
 refine gx_k (.int .i32 p0) w0 ?_
 have hP5 : St _ _ w0 ([] ++ []) := hS0
 obtain ⟨x7, hc6, hF⟩ := bind_in hF
 try dsimp only at hF
 refine gx_c (rfSc_R x7 w0) (rfSc_ok N p0 _ hc6 w0 ) ?_
 rintro _ w8 ⟨rfl, hT10⟩
 have hS9 : St _ _ w8 [] := hS0.take _ hT10
 refine gx_k (.bool (decide (x7 > 1))) w8 (gx_k (.bool (decide (x7 > 1))) w8 ?_)
 refine gx_nil ?_
 refine gx_thenN ?_
 refine hK4 _ _ ?_
 refine gx_ret ?_
 obtain rfl := Option.some.inj hF
 exact gx_fin (.bool (decide (x7 > 1))) (by kernel_rfl) (by kernel_rfl) ⟨_, rfl, rfl, hS9⟩
def rEnds (N : Nat) (p0 : Int) : Option (Bool) :=
 ((rfCl N p0).bind fun x7 => some (decide (x7 = 11)))
set_option linter.unusedVariables false in
def rEnds_R (r : Bool) (w0 : World) (v : Value) (w : World) : Prop := v = .bool r ∧ St [] w0 w []
set_option maxRecDepth 100000 in
set_option maxHeartbeats 4000000 in
theorem rEnds_ok (N : Nat) (p0 : Int)  (r : Bool) (hF : rEnds N p0 = some r) (w0 : World)  :
  Calls Tryd.prog 16 #[.int .i32 p0] w0 fun e w => ∃ v, e = .returned v ∧ rEnds_R r w0 v w := by
 have hS0 := St.start w0
 unfold rEnds at hF
 refine calls_of Tryd.func16 rfl ⟨((.int .i32 p0) :: un 5 ([])).toArray, []⟩ (by kernel_rfl) ?_
 refine gx_seq (fun K1 hK2 => ?_)
 refine gx_region ?_
 refine gx_k (.bool false) w0 ?_
 refine gx_nil ?_
 refine gx_thenN ?_
 refine hK2 _ _ ?_
 refine gx_seq (fun K3 hK4 => ?_)
 refine gx_region ?_
 refine gx_k (.int .i32 p0) w0 ?_
 have hP5 : St _ _ w0 ([] ++ []) := hS0
 obtain ⟨x7, hc6, hF⟩ := bind_in hF
 try dsimp only at hF
 refine gx_c (rfCl_R x7 w0) (rfCl_ok N p0 _ hc6 w0 ) ?_
 rintro _ w8 ⟨rfl, hT10⟩
 have hS9 : St _ _ w8 [] := hS0.take _ hT10
 refine gx_k (.bool (decide (x7 = 11))) w8 (gx_k (.bool (decide (x7 = 11))) w8 ?_)
 refine gx_nil ?_
 refine gx_thenN ?_
 refine hK4 _ _ ?_
 refine gx_ret ?_
 obtain rfl := Option.some.inj hF
 exact gx_fin (.bool (decide (x7 = 11))) (by kernel_rfl) (by kernel_rfl) ⟨_, rfl, rfl, hS9⟩
def rBeh_L1 (N : Nat) (p0 : List Int) : Nat → Int → Option (Ctl (Unit) (Int))
 | 0, _ => none
 | k13+1, x12 => (if x12 < ((p0.length : Nat) : Int) then ((ix p0 x12).bind fun x26 => ((rOwn N x26).bind fun b30 => (match b30 with | true => ((ix p0 x12).bind fun x36 => ((rfSc N x36).bind fun x40 => some (Ctl.ret x40))) | false => ((ix p0 x12).bind fun x46 => ((rEnds N x46).bind fun b50 => (match b50 with | true => some (Ctl.ret 0) | false => rBeh_L1 N p0 k13 (IntKind.i64.wrap (x12 + 1)))))))) else some (Ctl.go ()))
def rBeh (N : Nat) (p0 : List Int) (p1 : Int) : Option (Int) :=
 ((rBeh_L1 N p0 N p1 : Option (Ctl (Unit) (Int))).bind fun | Ctl.go () => some 0 | Ctl.ret r => some r)
set_option linter.unusedVariables false in
def rBeh_R (r : Int) (w0 : World) (v : Value) (w : World) : Prop := v = .int .u8 r ∧ St [] w0 w []
set_option maxRecDepth 100000 in
set_option maxHeartbeats 4000000 in
theorem rBeh_ok (N : Nat) (p0 : List Int) (p1 : Int) (A0 : Option Addr) (c0 : Nat) (r : Int) (hF : rBeh N p0 p1 = some r) (w0 : World) (hv0 : Vw [] .i32 w0 A0 c0 p0) :
  Calls Tryd.prog 18 #[.slice A0 p0.length c0, .int .i64 p1] w0 fun e w => ∃ v, e = .returned v ∧ rBeh_R r w0 v w := by
 have hS0 := St.start w0
 unfold rBeh at hF
 refine calls_of Tryd.func18 rfl ⟨((.slice A0 p0.length c0) :: (.int .i64 p1) :: un 24 ([])).toArray, []⟩ (by kernel_rfl) ?_
 refine gx_seq (fun K1 hK2 => ?_)
 refine gx_region ?_
 refine gx_k (.int .u8 0) w0 ?_
 refine gx_nil ?_
 refine gx_thenN ?_
 refine hK2 _ _ ?_
 obtain ⟨c6, hE7, hO8⟩ := bind_in hF
 refine gx_cut (fun a w => selfA (fun u5 => ⟨(dd u5 0 2 (undef :: undef :: dd u5 4 22 ([]))).toArray, []⟩) a ∧ Ctl.go () = c6 ∧ St [] w0 w []) ?_ ?_
 ·refine gx_block ?_
  refine gx_loop (fun k a w => ∃ (x12 : Int), selfA (fun u11 => ⟨((.slice A0 p0.length c0) :: (.int .i64 x12) :: undef :: undef :: dd u11 4 22 ([])).toArray, []⟩) a ∧ rBeh_L1 N p0 k x12 = some c6 ∧ St [] w0 w []) N ?_ ?_
  ·exact ⟨p1, selfA_i (by kernel_rfl), hE7, hS0⟩
  ·rintro k13 _ w9 ⟨x12, hq56, hL14, hS10⟩
   obtain ⟨u11, rfl⟩ := selfA_u hq56
   cases k13 with
   | zero => cases hL14
   | succ k13 =>
    first | rw [rBeh_L1] at hL14 | unfold rBeh_L1 at hL14
    refine gx_seq (fun K15 hK16 => ?_)
    refine gx_seq (fun K17 hK18 => ?_)
    refine gx_region ?_
    refine gx_k (.int .i64 x12) w9 (gx_k (.slice A0 p0.length c0) w9 (gx_k (.int .i64 ((p0.length : Nat) : Int)) w9 ?_))
    rcases if_in hL14 with ⟨h19, hL14⟩ | ⟨h19, hL14⟩
    ·refine gx_v (.bool true) w9 (run_boolE (decide_eq_true h19) (by kernel_rfl)) ?_
     refine gx_nil ?_
     refine gx_thenN ?_
     refine hK18 _ _ ?_
     refine gx_yes (by kernel_rfl) ?_
     refine gx_pass ?_
     refine gx_thenN ?_
     refine hK16 _ _ ?_
     refine gx_seq (fun K20 hK21 => ?_)
     refine gx_block ?_
     refine gx_seq (fun K22 hK23 => ?_)
     refine gx_seq (fun K24 hK25 => ?_)
     refine gx_region ?_
     refine gx_k (.slice A0 p0.length c0) w9 (gx_k (.int .i64 x12) w9 ?_)
     obtain ⟨x26, hx27, hL14⟩ := bind_in hL14
     refine gx_v (.pointer (Option.map (fun (p : Addr) => p.add (Int.toNat x12 * 1)) A0)) w9 (run_ixaddr (E := 21) (s := 1) (k := .i64) (c := c0) rfl (by kernel_rfl) (by kernel_rfl) (by kernel_rfl) (fun _ => by kernel_rfl) (ix_in hx27).1 (ix_in hx27).2.1 (num_nil (hS10.view hv0))) ?_
     refine gx_v (.int .i32 x26) w9 (run_loadix rfl (by kernel_rfl) (fun _ => by kernel_rfl) (hS10.view hv0) hx27) ?_
     have hP28 : St _ _ w9 ([] ++ []) := hS10
     obtain ⟨b30, hc29, hL14⟩ := bind_in hL14
     try dsimp only at hL14
     refine gx_c (rOwn_R b30 w9) (rOwn_ok N x26 _ hc29 w9 ) ?_
     rintro _ w31 ⟨rfl, hT33⟩
     have hS32 : St _ _ w31 [] := hS10.take _ hT33
     refine gx_nil ?_
     refine gx_thenN ?_
     refine hK25 _ _ ?_
     cases b30 with
     | true =>
      try dsimp only at hL14
      refine gx_yes (by kernel_rfl) ?_
      refine gx_seq (fun K34 hK35 => ?_)
      refine gx_region ?_
      refine gx_k (.slice A0 p0.length c0) w31 (gx_k (.int .i64 x12) w31 ?_)
      obtain ⟨x36, hx37, hL14⟩ := bind_in hL14
      refine gx_v (.pointer (Option.map (fun (p : Addr) => p.add (Int.toNat x12 * 1)) A0)) w31 (run_ixaddr (E := 21) (s := 1) (k := .i64) (c := c0) rfl (by kernel_rfl) (by kernel_rfl) (by kernel_rfl) (fun _ => by kernel_rfl) (ix_in hx37).1 (ix_in hx37).2.1 (num_nil (hS32.view hv0))) ?_
      refine gx_v (.int .i32 x36) w31 (run_loadix rfl (by kernel_rfl) (fun _ => by kernel_rfl) (hS32.view hv0) hx37) ?_
      have hP38 : St _ _ w31 ([] ++ []) := hS32
      obtain ⟨x40, hc39, hL14⟩ := bind_in hL14
      try dsimp only at hL14
      refine gx_c (rfSc_R x40 w31) (rfSc_ok N x36 _ hc39 w31 ) ?_
      rintro _ w41 ⟨rfl, hT43⟩
      have hS42 : St _ _ w41 [] := hS32.take _ hT43
      refine gx_k (.int .u8 x40) w41 ?_
      refine gx_nil ?_
      refine gx_thenN ?_
      refine hK35 _ _ ?_
      refine gx_ret ?_
      refine gx_thenR ?_
      refine gx_blkR ?_
      refine gx_thenR ?_
      refine gx_thenR ?_
      refine gx_blkR ?_
      refine gx_thenR ?_
      obtain rfl := Option.some.inj hL14
      try dsimp only at hO8
      obtain rfl := Option.some.inj hO8
      exact gx_fin (.int .u8 x40) (by kernel_rfl) (by kernel_rfl) ⟨_, rfl, rfl, hS42⟩
     | false =>
      try dsimp only at hL14
      refine gx_no (by kernel_rfl) ?_
      refine gx_pass ?_
      refine gx_thenN ?_
      refine hK23 _ _ ?_
      refine gx_seq (fun K44 hK45 => ?_)
      refine gx_region ?_
      refine gx_k (.slice A0 p0.length c0) w31 (gx_k (.int .i64 x12) w31 ?_)
      obtain ⟨x46, hx47, hL14⟩ := bind_in hL14
      refine gx_v (.pointer (Option.map (fun (p : Addr) => p.add (Int.toNat x12 * 1)) A0)) w31 (run_ixaddr (E := 21) (s := 1) (k := .i64) (c := c0) rfl (by kernel_rfl) (by kernel_rfl) (by kernel_rfl) (fun _ => by kernel_rfl) (ix_in hx47).1 (ix_in hx47).2.1 (num_nil (hS32.view hv0))) ?_
      refine gx_v (.int .i32 x46) w31 (run_loadix rfl (by kernel_rfl) (fun _ => by kernel_rfl) (hS32.view hv0) hx47) ?_
      have hP48 : St _ _ w31 ([] ++ []) := hS32
      obtain ⟨b50, hc49, hL14⟩ := bind_in hL14
      try dsimp only at hL14
      refine gx_c (rEnds_R b50 w31) (rEnds_ok N x46 _ hc49 w31 ) ?_
      rintro _ w51 ⟨rfl, hT53⟩
      have hS52 : St _ _ w51 [] := hS32.take _ hT53
      refine gx_nil ?_
      refine gx_thenN ?_
      refine hK45 _ _ ?_
      cases b50 with
      | true =>
       try dsimp only at hL14
       refine gx_yes (by kernel_rfl) ?_
       refine gx_seq (fun K54 hK55 => ?_)
       refine gx_region ?_
       refine gx_k (.int .u8 0) w51 ?_
       refine gx_nil ?_
       refine gx_thenN ?_
       refine hK55 _ _ ?_
       refine gx_ret ?_
       refine gx_blkR ?_
       refine gx_thenR ?_
       refine gx_thenR ?_
       refine gx_blkR ?_
       refine gx_thenR ?_
       obtain rfl := Option.some.inj hL14
       try dsimp only at hO8
       obtain rfl := Option.some.inj hO8
       exact gx_fin (.int .u8 0) (by kernel_rfl) (by kernel_rfl) ⟨_, rfl, rfl, hS52⟩
      | false =>
       try dsimp only at hL14
       refine gx_no (by kernel_rfl) ?_
       refine gx_pass ?_
       refine gx_blkN ?_
       refine gx_thenN ?_
       refine hK21 _ _ ?_
       refine gx_region ?_
       refine gx_k (.int .i64 x12) w51 (gx_k (.int .i64 (IntKind.i64.wrap (x12 + 1))) w51 (gx_k (.int .i64 (IntKind.i64.wrap (x12 + 1))) w51 ?_))
       refine gx_nil ?_
       refine gx_thenN ?_
       exact ⟨k13, Nat.lt_succ_self k13, (IntKind.i64.wrap (x12 + 1)), selfA_i (by kernel_rfl), hL14, hS52⟩
    ·refine gx_v (.bool false) w9 (run_boolE (decide_eq_false h19) (by kernel_rfl)) ?_
     refine gx_nil ?_
     refine gx_thenN ?_
     refine hK18 _ _ ?_
     refine gx_no (by kernel_rfl) ?_
     refine gx_exit ?_
     refine gx_thenE ?_
     refine gx_thenE ?_
     refine gx_blkE ?_
     refine gx_thenN ?_
     exact ⟨selfA_i (by kernel_rfl), (Option.some.inj hL14), hS10⟩
 ·rintro _ w3 ⟨hq59, rfl, hS4⟩
  obtain ⟨u5, rfl⟩ := selfA_u hq59
  try dsimp only at hO8
  refine gx_seq (fun K57 hK58 => ?_)
  refine gx_region ?_
  refine gx_k (.int .u8 0) w3 ?_
  refine gx_nil ?_
  refine gx_thenN ?_
  refine hK58 _ _ ?_
  refine gx_ret ?_
  obtain rfl := Option.some.inj hO8
  exact gx_fin (.int .u8 0) (by kernel_rfl) (by kernel_rfl) ⟨_, rfl, rfl, hS4⟩
end Go.Proofs.YtkcmemldhbifdaaDoor

namespace Go.Proofs.YtkcmemldhbifdaaDoor
open Go Go.RowKit
set_option linter.unusedVariables false
def rScripts_L2 (N : Nat) (x38 : Int) (x149 : Int) : Nat → (List Int) → (List (Int × Int)) → Int → Int → Option (List Int × List (Int × Int) × Int)
 | 0, _, _, _, _ => none
 | k193+1, l185, l190, x191, x192 => (if x192 ≥ 0 then ((ixg l190 x192).bind fun x204 => (if x204.1 = x149 then ((ixg l190 x192).bind fun x220 => ((ix l185 x220.2).bind fun x233 => ((ix l185 x38).bind fun _x235 => ((setx l185 x38 x233).bind fun l239 => ((ix l239 x38).bind fun x243 => ((trug l190 x192).bind fun l247 => some ((l239, l247, x243)))))))) else rScripts_L2 N x38 x149 k193 l185 l190 x191 (IntKind.i64.wrap (x192 - 1)))) else some ((l185, l190, x191)))
def rScripts_L1 (N : Nat) (p0 : List Int) : Nat → (List Int) → (List (Int × Int)) → Int → Int → Option (List Int)
 | 0, _, _, _, _ => none
 | k39+1, l31, l36, x37, x38 => (if x38 < ((p0.length : Nat) : Int) then (((((if x38 > 0 then ((ix p0 (IntKind.i64.wrap (x38 - 1))).bind fun x75 => ((rEnds N x75).bind fun b79 => (match b79 with | true => some ((([] : List (Int × Int)), 0)) | false => some ((l36, x37))))) else some ((l36, x37))) : Option (List (Int × Int) × Int)).bind fun (l67, x68) => ((((ix p0 x38).bind fun x96 => ((rOwn N x96).bind fun b100 => (match b100 with | true => ((ix p0 x38).bind fun x104 => ((rfSc N x104).bind fun x108 => some (x108))) | false => some (x68)))) : Option (Int)).bind fun x90 => ((ix l31 x38).bind fun _x114 => ((setx l31 x38 x90).bind fun l118 => (((if x90 = 0 then ((rBeh N p0 x38).bind fun x133 => ((ix l118 x38).bind fun _x137 => ((setx l118 x38 x133).bind fun l141 => some (l141)))) else some (l118)) : Option (List Int)).bind fun l124 => ((ix p0 x38).bind fun x145 => ((rfBr N x145).bind fun (x149, b150, b151) => (match b151 with | true => (match b150 with | true => (if ((l67.length : Nat) : Int) < 64 then ((apg l67 ([(x149, x38)] : List (Int × Int))).bind fun l171 => some ((l124, l171, x90))) else some ((l124, l67, x90))) | false => rScripts_L2 N x38 x149 N l124 l67 x90 (IntKind.i64.wrap (((l67.length : Nat) : Int) - 1))) | false => some ((l124, l67, x90)))))))))) : Option (List Int × List (Int × Int) × Int)).bind fun (l50, l55, x56) => rScripts_L1 N p0 k39 l50 l55 x56 (IntKind.i64.wrap (x38 + 1))) else some (l31))
def rScripts (N : Nat) (p0 : List Int) : Option (List Int) :=
 ((mkx ((p0.length : Nat) : Int)).bind fun l5 => ((rScripts_L1 N p0 N l5 ([] : List (Int × Int)) 0 0 : Option (List Int)).bind fun l19 => some l19))
set_option linter.unusedVariables false in
def rScripts_R (r : List Int) (w0 : World) (v : Value) (w : World) : Prop := ∃ (A0' : Option Addr) (c0' : Nat), v = .slice A0' r.length c0' ∧ St [] w0 w [rowE .u8 5 A0' c0' r]
set_option maxRecDepth 100000 in
set_option maxHeartbeats 4000000 in
theorem rScripts_ok (N : Nat) (p0 : List Int) (A0 : Option Addr) (c0 : Nat) (r : List Int) (hF : rScripts N p0 = some r) (w0 : World) (hv0 : Vw [] .i32 w0 A0 c0 p0) :
  Calls Tryd.prog 9 #[.slice A0 p0.length c0] w0 fun e w => ∃ v, e = .returned v ∧ rScripts_R r w0 v w := by
 have hS0 := (St.start w0).pool0
 unfold rScripts at hF
 refine calls_of Tryd.func9 rfl ⟨((.slice A0 p0.length c0) :: un 105 ([])).toArray, []⟩ (by kernel_rfl) ?_
 refine gx_seq (fun K1 hK2 => ?_)
 refine gx_region ?_
 refine gx_k (.slice none 0 0) w0 ?_
 refine gx_nil ?_
 refine gx_thenN ?_
 refine hK2 _ _ ?_
 refine gx_seq (fun K3 hK4 => ?_)
 refine gx_region ?_
 refine gx_k (.slice A0 p0.length c0) w0 (gx_k (.int .i64 ((p0.length : Nat) : Int)) w0 ?_)
 obtain ⟨l5, hm6, hF⟩ := bind_in hF
 refine gx_r (st_make (T := 5) (k := .u8) (by_ := 1) rfl (by kernel_rfl) (by kernel_rfl) (by kernel_rfl) (by kernel_rfl) (by kernel_rfl) hS0 hm6) ?_
 rintro _ w7 ⟨A9, c10, rfl, hS8⟩
 have hS8 : St _ _ w7 [poolE ([]) w0, rowE .u8 5 A9 c10 l5] := hS8
 refine gx_k (.slice A9 l5.length c10) w7 ?_
 refine gx_nil ?_
 refine gx_thenN ?_
 refine hK4 _ _ ?_
 refine gx_seq (fun K11 hK12 => ?_)
 refine gx_region ?_
 refine gx_k (.slice none 0 0) w7 ?_
 refine gx_nil ?_
 refine gx_thenN ?_
 refine hK12 _ _ ?_
 refine gx_seq (fun K13 hK14 => ?_)
 refine gx_region ?_
 refine gx_k (.int .u8 0) w7 ?_
 refine gx_nil ?_
 refine gx_thenN ?_
 refine hK14 _ _ ?_
 obtain ⟨c20, hE21, hO22⟩ := bind_in hF
 refine gx_cut (fun a w => ∃ (l19 : List Int), selfA (fun u17 => ⟨((u17 0) :: undef :: (.slice none 0 0) :: (.slice A9 l5.length c10) :: dd u17 4 8 ((.int .i64 ((p0.length : Nat) : Int)) :: dd u17 13 92 (undef :: []))).toArray, []⟩) a ∧ l19 = c20 ∧ St [] w0 w [poolE ([]) w0, rowE .u8 5 A9 c10 l19] ∧ l5.length = l19.length) ?_ ?_
 ·refine gx_seq (fun K23 hK24 => ?_)
  refine gx_region ?_
  refine gx_k (.int .i64 0) w7 ?_
  refine gx_nil ?_
  refine gx_thenN ?_
  refine hK24 _ _ ?_
  refine gx_block ?_
  have hS25 : St _ _ w7 [poolE ([]) w0, rowE .u8 5 A9 c10 l5, rowG 49 2 (.slice none (([] : List (Int × Int)).length) 0) (([] : List (Int × Int)).length) ([])] := hS8.nilrowN 49 2
  have hf26 : (fEach (pairE (intE .i32) (intE .i64)) [] []).rd w0 ([]) := each_nil
  refine gx_loop (fun k a w => ∃ (l31 : List Int) (l36 : List (Int × Int)) (x37 : Int) (x38 : Int) (A32 : Option Addr) (c33 : Nat) (vs34 : List Value), selfA (fun u29 => ⟨((.slice A0 p0.length c0) :: undef :: (.slice none 0 0) :: (.slice A9 l5.length c10) :: (.slice A32 l36.length c33) :: (.int .u8 x37) :: (.int .i64 x38) :: dd u29 7 5 ((.int .i64 ((p0.length : Nat) : Int)) :: dd u29 13 92 (undef :: []))).toArray, []⟩) a ∧ rScripts_L1 N p0 k l31 l36 x37 x38 = some c20 ∧ St [] w0 w [poolE ([]) w0, rowE .u8 5 A9 c10 l31, rowG 49 2 (.slice A32 l36.length c33) l36.length vs34] ∧ l5.length = l31.length ∧ (fEach (pairE (intE .i32) (intE .i64)) vs34 l36).rd w0 ([])) N ?_ ?_
  ·exact ⟨l5, ([] : List (Int × Int)), 0, 0, none, 0, ([]), selfA_i (by kernel_rfl), hE21, hS25, rfl, hf26⟩
  ·rintro k39 _ w27 ⟨l31, l36, x37, x38, A32, c33, vs34, hq257, hL40, hS28, hn30, hf35⟩
   obtain ⟨u29, rfl⟩ := selfA_u hq257
   cases k39 with
   | zero => cases hL40
   | succ k39 =>
    first | rw [rScripts_L1] at hL40 | unfold rScripts_L1 at hL40
    refine gx_seq (fun K41 hK42 => ?_)
    refine gx_seq (fun K43 hK44 => ?_)
    refine gx_region ?_
    refine gx_k (.int .i64 x38) w27 (gx_k (.slice A0 p0.length c0) w27 (gx_k (.int .i64 ((p0.length : Nat) : Int)) w27 ?_))
    rcases if_in hL40 with ⟨h45, hL40⟩ | ⟨h45, hL40⟩
    ·refine gx_v (.bool true) w27 (run_boolE (decide_eq_true h45) (by kernel_rfl)) ?_
     refine gx_nil ?_
     refine gx_thenN ?_
     refine hK44 _ _ ?_
     refine gx_yes (by kernel_rfl) ?_
     refine gx_pass ?_
     refine gx_thenN ?_
     refine hK42 _ _ ?_
     obtain ⟨c57, hE58, hO59⟩ := bind_in hL40
     refine gx_cut (fun a w => ∃ (l50 : List Int) (l55 : List (Int × Int)) (x56 : Int) (A51 : Option Addr) (c52 : Nat) (vs53 : List Value), selfA (fun u48 => ⟨((.slice A0 p0.length c0) :: undef :: (.slice none 0 0) :: (.slice A9 l5.length c10) :: (.slice A51 l55.length c52) :: (.int .u8 x56) :: (.int .i64 x38) :: dd u48 7 4 ((u29 11) :: (.int .i64 ((p0.length : Nat) : Int)) :: (u29 13) :: (.int .i64 x38) :: (u48 15) :: (.int .i64 ((p0.length : Nat) : Int)) :: (.bool true) :: dd u29 18 2 (dd u48 20 85 (undef :: [])))).toArray, []⟩) a ∧ (l50, l55, x56) = c57 ∧ St [] w0 w [poolE ([]) w0, rowE .u8 5 A9 c10 l50, rowG 49 2 (.slice A51 l55.length c52) l55.length vs53] ∧ l5.length = l50.length ∧ (fEach (pairE (intE .i32) (intE .i64)) vs53 l55).rd w0 ([])) ?_ ?_
     ·refine gx_block ?_
      obtain ⟨c69, hE70, hO71⟩ := bind_in hE58
      refine gx_cut (fun a w => ∃ (l67 : List (Int × Int)) (x68 : Int) (A63 : Option Addr) (c64 : Nat) (vs65 : List Value), selfA (fun u62 => ⟨((.slice A0 p0.length c0) :: undef :: (.slice none 0 0) :: (.slice A9 l5.length c10) :: (.slice A63 l67.length c64) :: (.int .u8 x68) :: (.int .i64 x38) :: dd u29 7 5 ((.int .i64 ((p0.length : Nat) : Int)) :: (u29 13) :: (.int .i64 x38) :: (u62 15) :: (.int .i64 ((p0.length : Nat) : Int)) :: (.bool true) :: dd u29 18 2 (dd u62 20 10 (dd u29 30 75 (undef :: []))))).toArray, []⟩) a ∧ (l67, x68) = c69 ∧ St [] w0 w [poolE ([]) w0, rowE .u8 5 A9 c10 l31, rowG 49 2 (.slice A63 l67.length c64) l67.length vs65] ∧ (fEach (pairE (intE .i32) (intE .i64)) vs65 l67).rd w0 ([])) ?_ ?_
      ·refine gx_seq (fun K72 hK73 => ?_)
       refine gx_region ?_
       refine gx_k (.int .i64 x38) w27 ?_
       rcases if_in hE70 with ⟨h74, hE70⟩ | ⟨h74, hE70⟩
       ·refine gx_v (.bool true) w27 (run_boolE (decide_eq_true h74) (by kernel_rfl)) ?_
        refine gx_k (.bool true) w27 (gx_k (.slice A0 p0.length c0) w27 (gx_k (.int .i64 x38) w27 (gx_k (.int .i64 (IntKind.i64.wrap (x38 - 1))) w27 ?_)))
        obtain ⟨x75, hx76, hE70⟩ := bind_in hE70
        refine gx_v (.pointer (Option.map (fun (p : Addr) => p.add (Int.toNat (IntKind.i64.wrap (x38 - 1)) * 1)) A0)) w27 (run_ixaddr (E := 21) (s := 1) (k := .i64) (c := c0) rfl (by kernel_rfl) (by kernel_rfl) (by kernel_rfl) (fun _ => by kernel_rfl) (ix_in hx76).1 (ix_in hx76).2.1 (num_nil (hS28.view hv0))) ?_
        refine gx_v (.int .i32 x75) w27 (run_loadix rfl (by kernel_rfl) (fun _ => by kernel_rfl) (hS28.view hv0) hx76) ?_
        have hP77 : St _ _ w27 ([] ++ [poolE ([]) w0, rowE .u8 5 A9 c10 l31, rowG 49 2 (.slice A32 l36.length c33) l36.length vs34]) := hS28
        obtain ⟨b79, hc78, hE70⟩ := bind_in hE70
        try dsimp only at hE70
        refine gx_c (rEnds_R b79 w27) (rEnds_ok N x75 _ hc78 w27 ) ?_
        rintro _ w80 ⟨rfl, hT82⟩
        have hS81 : St _ _ w80 [poolE ([]) w0, rowE .u8 5 A9 c10 l31, rowG 49 2 (.slice A32 l36.length c33) l36.length vs34] := hS28.take _ hT82
        refine gx_k (.bool b79) w80 ?_
        refine gx_nil ?_
        refine gx_thenN ?_
        refine hK73 _ _ ?_
        cases b79 with
        | true =>
         try dsimp only at hE70
         refine gx_yes (by kernel_rfl) ?_
         refine gx_seq (fun K83 hK84 => ?_)
         refine gx_region ?_
         refine gx_k (.int .u8 0) w80 ?_
         refine gx_nil ?_
         refine gx_thenN ?_
         refine hK84 _ _ ?_
         refine gx_region ?_
         refine gx_k (.slice none 0 0) w80 ?_
         refine gx_nil ?_
         refine gx_thenN ?_
         have hS85 : St _ _ w80 [poolE ([]) w0, rowE .u8 5 A9 c10 l31, rowG 49 2 (.slice A32 l36.length c33) l36.length vs34, rowG 49 2 (.slice none (([] : List (Int × Int)).length) 0) (([] : List (Int × Int)).length) ([])] := hS81.nilrowN 49 2
         have hf86 : (fEach (pairE (intE .i32) (intE .i64)) [] []).rd w0 ([]) := each_nil
         exact ⟨([] : List (Int × Int)), 0, none, 0, ([]), selfA_i (by kernel_rfl), (Option.some.inj hE70), (hS85.pick [0, 1, 3] rfl rfl), hf86⟩
        | false =>
         try dsimp only at hE70
         refine gx_no (by kernel_rfl) ?_
         refine gx_pass ?_
         refine gx_thenN ?_
         exact ⟨l36, x37, A32, c33, vs34, selfA_i (by kernel_rfl), (Option.some.inj hE70), hS81, hf35⟩
       ·refine gx_v (.bool false) w27 (run_boolE (decide_eq_false h74) (by kernel_rfl)) ?_
        refine gx_k (.bool false) w27 (gx_o (gx_o (gx_o (gx_o (gx_o (gx_o (gx_k (.bool false) w27 ?_)))))))
        refine gx_nil ?_
        refine gx_thenN ?_
        refine hK73 _ _ ?_
        refine gx_no (by kernel_rfl) ?_
        refine gx_pass ?_
        refine gx_thenN ?_
        exact ⟨l36, x37, A32, c33, vs34, selfA_i (by kernel_rfl), (Option.some.inj hE70), hS28, hf35⟩
      ·rintro _ w60 ⟨l67, x68, A63, c64, vs65, hq255, rfl, hS61, hf66⟩
       obtain ⟨u62, rfl⟩ := selfA_u hq255
       try dsimp only at hO71
       obtain ⟨c91, hE92, hO93⟩ := bind_in hO71
       refine gx_cut (fun a w => ∃ (x90 : Int), selfA (fun u89 => ⟨((.slice A0 p0.length c0) :: undef :: (.slice none 0 0) :: (.slice A9 l5.length c10) :: (.slice A63 l67.length c64) :: (.int .u8 x90) :: (.int .i64 x38) :: dd u29 7 5 ((.int .i64 ((p0.length : Nat) : Int)) :: (u29 13) :: (.int .i64 x38) :: (u62 15) :: (.int .i64 ((p0.length : Nat) : Int)) :: (.bool true) :: dd u29 18 2 (dd u62 20 10 (dd u89 30 10 (dd u29 40 65 (undef :: [])))))).toArray, []⟩) a ∧ x90 = c91 ∧ St [] w0 w [poolE ([]) w0, rowE .u8 5 A9 c10 l31, rowG 49 2 (.slice A63 l67.length c64) l67.length vs65]) ?_ ?_
       ·refine gx_seq (fun K94 hK95 => ?_)
        refine gx_region ?_
        refine gx_k (.slice A0 p0.length c0) w60 (gx_k (.int .i64 x38) w60 ?_)
        obtain ⟨x96, hx97, hE92⟩ := bind_in hE92
        refine gx_v (.pointer (Option.map (fun (p : Addr) => p.add (Int.toNat x38 * 1)) A0)) w60 (run_ixaddr (E := 21) (s := 1) (k := .i64) (c := c0) rfl (by kernel_rfl) (by kernel_rfl) (by kernel_rfl) (fun _ => by kernel_rfl) (ix_in hx97).1 (ix_in hx97).2.1 (num_nil (hS61.view hv0))) ?_
        refine gx_v (.int .i32 x96) w60 (run_loadix rfl (by kernel_rfl) (fun _ => by kernel_rfl) (hS61.view hv0) hx97) ?_
        have hP98 : St _ _ w60 ([] ++ [poolE ([]) w0, rowE .u8 5 A9 c10 l31, rowG 49 2 (.slice A63 l67.length c64) l67.length vs65]) := hS61
        obtain ⟨b100, hc99, hE92⟩ := bind_in hE92
        try dsimp only at hE92
        refine gx_c (rOwn_R b100 w60) (rOwn_ok N x96 _ hc99 w60 ) ?_
        rintro _ w101 ⟨rfl, hT103⟩
        have hS102 : St _ _ w101 [poolE ([]) w0, rowE .u8 5 A9 c10 l31, rowG 49 2 (.slice A63 l67.length c64) l67.length vs65] := hS61.take _ hT103
        refine gx_nil ?_
        refine gx_thenN ?_
        refine hK95 _ _ ?_
        cases b100 with
        | true =>
         try dsimp only at hE92
         refine gx_yes (by kernel_rfl) ?_
         refine gx_region ?_
         refine gx_k (.slice A0 p0.length c0) w101 (gx_k (.int .i64 x38) w101 ?_)
         obtain ⟨x104, hx105, hE92⟩ := bind_in hE92
         refine gx_v (.pointer (Option.map (fun (p : Addr) => p.add (Int.toNat x38 * 1)) A0)) w101 (run_ixaddr (E := 21) (s := 1) (k := .i64) (c := c0) rfl (by kernel_rfl) (by kernel_rfl) (by kernel_rfl) (fun _ => by kernel_rfl) (ix_in hx105).1 (ix_in hx105).2.1 (num_nil (hS102.view hv0))) ?_
         refine gx_v (.int .i32 x104) w101 (run_loadix rfl (by kernel_rfl) (fun _ => by kernel_rfl) (hS102.view hv0) hx105) ?_
         have hP106 : St _ _ w101 ([] ++ [poolE ([]) w0, rowE .u8 5 A9 c10 l31, rowG 49 2 (.slice A63 l67.length c64) l67.length vs65]) := hS102
         obtain ⟨x108, hc107, hE92⟩ := bind_in hE92
         try dsimp only at hE92
         refine gx_c (rfSc_R x108 w101) (rfSc_ok N x104 _ hc107 w101 ) ?_
         rintro _ w109 ⟨rfl, hT111⟩
         have hS110 : St _ _ w109 [poolE ([]) w0, rowE .u8 5 A9 c10 l31, rowG 49 2 (.slice A63 l67.length c64) l67.length vs65] := hS102.take _ hT111
         refine gx_k (.int .u8 x108) w109 ?_
         refine gx_nil ?_
         refine gx_thenN ?_
         exact ⟨x108, selfA_i (by kernel_rfl), (Option.some.inj hE92), hS110⟩
        | false =>
         try dsimp only at hE92
         refine gx_no (by kernel_rfl) ?_
         refine gx_pass ?_
         refine gx_thenN ?_
         exact ⟨x68, selfA_i (by kernel_rfl), (Option.some.inj hE92), hS102⟩
       ·rintro _ w87 ⟨x90, hq254, rfl, hS88⟩
        obtain ⟨u89, rfl⟩ := selfA_u hq254
        try dsimp only at hO93
        refine gx_seq (fun K112 hK113 => ?_)
        refine gx_region ?_
        refine gx_k (.slice A9 l5.length c10) w87 (gx_k (.int .i64 x38) w87 (gx_k (.int .u8 x90) w87 ?_))
        obtain ⟨x114, hx115, hO93⟩ := bind_in hO93
        refine gx_v (.pointer (Option.map (fun (p : Addr) => p.add (Int.toNat x38 * 1)) A9)) w87 (run_ixaddr (E := 5) (s := 1) (k := .i64) (c := c10) rfl (by kernel_rfl) (by kernel_rfl) (by kernel_rfl) (fun _ => by kernel_rfl) (ix_in hx115).1 (lt_len hn30 (ix_in hx115).2.1) (nil_len hn30 (num_nil (hS88.row 1 rfl).1))) ?_
        obtain ⟨l118, hx119, hO93⟩ := bind_in hO93
        refine gx_s (st_storeix rfl (by kernel_rfl) (by kernel_rfl) (fun _ => by kernel_rfl) hS88 1 rfl hx119) ?_
        rintro w116 hS117
        have hS117 : St _ _ w116 [poolE ([]) w0, rowE .u8 5 A9 c10 l118, rowG 49 2 (.slice A63 l67.length c64) l67.length vs65] := hS117
        refine gx_nil ?_
        refine gx_thenN ?_
        refine hK113 _ _ ?_
        obtain ⟨c125, hE126, hO127⟩ := bind_in hO93
        refine gx_cut (fun a w => ∃ (l124 : List Int), selfA (fun u122 => ⟨((.slice A0 p0.length c0) :: undef :: (.slice none 0 0) :: (.slice A9 l5.length c10) :: (.slice A63 l67.length c64) :: (.int .u8 x90) :: (.int .i64 x38) :: dd u29 7 5 ((.int .i64 ((p0.length : Nat) : Int)) :: (u29 13) :: (.int .i64 x38) :: (u62 15) :: (.int .i64 ((p0.length : Nat) : Int)) :: (.bool true) :: dd u29 18 2 (dd u62 20 10 (dd u89 30 10 ((u122 40) :: (.int .i64 x38) :: (.int .u8 x90) :: (.pointer (Option.map (fun (p : Addr) => p.add (Int.toNat x38 * 1)) A9)) :: dd u122 44 8 (dd u29 52 53 (undef :: []))))))).toArray, []⟩) a ∧ l124 = c125 ∧ St [] w0 w [poolE ([]) w0, rowE .u8 5 A9 c10 l124, rowG 49 2 (.slice A63 l67.length c64) l67.length vs65] ∧ l5.length = l124.length) ?_ ?_
        ·refine gx_seq (fun K128 hK129 => ?_)
         refine gx_region ?_
         refine gx_k (.int .u8 x90) w116 ?_
         rcases if_in hE126 with ⟨h130, hE126⟩ | ⟨h130, hE126⟩
         ·refine gx_v (.bool true) w116 (run_boolE (decide_eq_true h130) (by kernel_rfl)) ?_
          refine gx_nil ?_
          refine gx_thenN ?_
          refine hK129 _ _ ?_
          refine gx_yes (by kernel_rfl) ?_
          refine gx_region ?_
          refine gx_k (.slice A9 l5.length c10) w116 (gx_k (.int .i64 x38) w116 (gx_k (.slice A0 p0.length c0) w116 (gx_k (.int .i64 x38) w116 ?_)))
          have hP131 : St _ _ w116 ([] ++ [poolE ([]) w0, rowE .u8 5 A9 c10 l118, rowG 49 2 (.slice A63 l67.length c64) l67.length vs65]) := hS117
          obtain ⟨x133, hc132, hE126⟩ := bind_in hE126
          try dsimp only at hE126
          refine gx_c (rBeh_R x133 w116) (rBeh_ok N p0 x38 A0 c0 _ hc132 w116 (hP131.vwA hv0)) ?_
          rintro _ w134 ⟨rfl, hT136⟩
          have hS135 : St _ _ w134 [poolE ([]) w0, rowE .u8 5 A9 c10 l118, rowG 49 2 (.slice A63 l67.length c64) l67.length vs65] := hS117.take _ hT136
          obtain ⟨x137, hx138, hE126⟩ := bind_in hE126
          refine gx_v (.pointer (Option.map (fun (p : Addr) => p.add (Int.toNat x38 * 1)) A9)) w134 (run_ixaddr (E := 5) (s := 1) (k := .i64) (c := c10) rfl (by kernel_rfl) (by kernel_rfl) (by kernel_rfl) (fun _ => by kernel_rfl) (ix_in hx138).1 (lt_len (hn30.trans (setx_len hx119).symm) (ix_in hx138).2.1) (nil_len (hn30.trans (setx_len hx119).symm) (num_nil (hS135.row 1 rfl).1))) ?_
          obtain ⟨l141, hx142, hE126⟩ := bind_in hE126
          refine gx_s (st_storeix rfl (by kernel_rfl) (by kernel_rfl) (fun _ => by kernel_rfl) hS135 1 rfl hx142) ?_
          rintro w139 hS140
          have hS140 : St _ _ w139 [poolE ([]) w0, rowE .u8 5 A9 c10 l141, rowG 49 2 (.slice A63 l67.length c64) l67.length vs65] := hS140
          refine gx_nil ?_
          refine gx_thenN ?_
          exact ⟨l141, selfA_i (by kernel_rfl), (Option.some.inj hE126), hS140, ((hn30.trans (setx_len hx119).symm).trans (setx_len hx142).symm)⟩
         ·refine gx_v (.bool false) w116 (run_boolE (decide_eq_false h130) (by kernel_rfl)) ?_
          refine gx_nil ?_
          refine gx_thenN ?_
          refine hK129 _ _ ?_
          refine gx_no (by kernel_rfl) ?_
          refine gx_pass ?_
          refine gx_thenN ?_
          exact ⟨l118, selfA_i (by kernel_rfl), (Option.some.inj hE126), hS117, (hn30.trans (setx_len hx119).symm)⟩
        ·rintro _ w120 ⟨l124, hq253, rfl, hS121, hn123⟩
         obtain ⟨u122, rfl⟩ := selfA_u hq253
         try dsimp only at hO127
         refine gx_seq (fun K143 hK144 => ?_)
         refine gx_region ?_
         refine gx_k (.slice A0 p0.length c0) w120 (gx_k (.int .i64 x38) w120 ?_)
         obtain ⟨x145, hx146, hO127⟩ := bind_in hO127
         refine gx_v (.pointer (Option.map (fun (p : Addr) => p.add (Int.toNat x38 * 1)) A0)) w120 (run_ixaddr (E := 21) (s := 1) (k := .i64) (c := c0) rfl (by kernel_rfl) (by kernel_rfl) (by kernel_rfl) (fun _ => by kernel_rfl) (ix_in hx146).1 (ix_in hx146).2.1 (num_nil (hS121.view hv0))) ?_
         refine gx_v (.int .i32 x145) w120 (run_loadix rfl (by kernel_rfl) (fun _ => by kernel_rfl) (hS121.view hv0) hx146) ?_
         have hP147 : St _ _ w120 ([] ++ [poolE ([]) w0, rowE .u8 5 A9 c10 l124, rowG 49 2 (.slice A63 l67.length c64) l67.length vs65]) := hS121
         obtain ⟨⟨x149, b150, b151⟩, hc148, hO127⟩ := bind_in hO127
         try dsimp only at hO127
         refine gx_c (rfBr_R (x149, b150, b151) w120) (rfBr_ok N x145 _ hc148 w120 ) ?_
         rintro _ w152 ⟨rfl, hT154⟩
         have hS153 : St _ _ w152 [poolE ([]) w0, rowE .u8 5 A9 c10 l124, rowG 49 2 (.slice A63 l67.length c64) l67.length vs65] := hS121.take _ hT154
         refine gx_k (.tuple #[.int .i32 x149, .bool b150, .bool b151]) w152 (gx_k (.int .i32 x149) w152 (gx_k (.bool b150) w152 (gx_k (.bool b151) w152 (gx_k (.int .i32 x149) w152 (gx_k (.bool b150) w152 (gx_k (.bool b151) w152 ?_))))))
         refine gx_nil ?_
         refine gx_thenN ?_
         refine hK144 _ _ ?_
         refine gx_seq (fun K155 hK156 => ?_)
         refine gx_seq (fun K157 hK158 => ?_)
         refine gx_region ?_
         refine gx_k (.bool b151) w152 ?_
         cases b151 with
         | true =>
          try dsimp only at hO127
          refine gx_k (.bool false) w152 ?_
          refine gx_nil ?_
          refine gx_thenN ?_
          refine hK158 _ _ ?_
          refine gx_no (by kernel_rfl) ?_
          refine gx_pass ?_
          refine gx_thenN ?_
          refine hK156 _ _ ?_
          refine gx_seq (fun K159 hK160 => ?_)
          refine gx_seq (fun K161 hK162 => ?_)
          refine gx_region ?_
          refine gx_k (.bool b150) w152 ?_
          refine gx_nil ?_
          refine gx_thenN ?_
          refine hK162 _ _ ?_
          cases b150 with
          | true =>
           try dsimp only at hO127
           refine gx_yes (by kernel_rfl) ?_
           refine gx_seq (fun K163 hK164 => ?_)
           refine gx_seq (fun K165 hK166 => ?_)
           refine gx_region ?_
           refine gx_k (.slice A63 l67.length c64) w152 (gx_k (.int .i64 ((l67.length : Nat) : Int)) w152 ?_)
           rcases if_in hO127 with ⟨h167, hO127⟩ | ⟨h167, hO127⟩
           ·refine gx_v (.bool true) w152 (run_boolE (decide_eq_true h167) (by kernel_rfl)) ?_
            refine gx_nil ?_
            refine gx_thenN ?_
            refine hK166 _ _ ?_
            refine gx_yes (by kernel_rfl) ?_
            refine gx_region ?_
            refine gx_k (.slice A63 l67.length c64) w152 (gx_k (.int .i32 x149) w152 (gx_k (.int .i64 x38) w152 (gx_k (.agg #[.int .i32 x149, .int .i64 x38]) w152 ?_)))
            have hf168 : (fEach (pairE (intE .i32) (intE .i64)) [.int .i32 x149, .int .i64 x38] [(x149, x38)]).rd w0 ([]) := (each_cons (rd_pair (rd_intg .i32 x149) (rd_intg .i64 x38)) each_nil)
            refine gx_r (st_madeP (e := (pairE (intE .i32) (intE .i64))) 49 1 [.int .i32 x149, .int .i64 x38] [(x149, x38)] hS153 rfl hf168 (by decide) (by kernel_rfl)) ?_
            rintro _ w169 ⟨rfl, hS170⟩
            have hS170 : St _ _ w169 [poolE ([]) w0, rowE .u8 5 A9 c10 l124, rowG 49 2 (.slice A63 l67.length c64) l67.length vs65, rowG 49 2 (.slice (some ⟨w152.heap.size, 0, none⟩) 1 1) 1 ([.int .i32 x149, .int .i64 x38])] := hS170
            obtain ⟨l171, ha172, hO127⟩ := bind_in hO127
            refine gx_r (st_appendP (e := (pairE (intE .i32) (intE .i64))) rfl (by kernel_rfl) (by kernel_rfl) hS170 2 rfl rfl (show 1 = ([(x149, x38)] : List (Int × Int)).length from rfl) hf66 hf168 (rowG_lies (e := (pairE (intE .i32) (intE .i64))) (show 1 = ([(x149, x38)] : List (Int × Int)).length from rfl) (hS170.get 3 rfl)) (rowG_spec (e := (pairE (intE .i32) (intE .i64))) (show 1 = ([(x149, x38)] : List (Int × Int)).length from rfl) (hS170.get 3 rfl)).2.2.1 ha172 (by kernel_rfl) (by kernel_rfl) (by decide)) ?_
            rintro _ w177 ⟨A173, c174, vs175, rfl, hf176, hS178⟩
            have hS178 : St _ _ w177 [poolE ([]) w0, rowE .u8 5 A9 c10 l124, rowG 49 2 (.slice A173 l171.length c174) l171.length vs175, rowG 49 2 (.slice (some ⟨w152.heap.size, 0, none⟩) 1 1) 1 ([.int .i32 x149, .int .i64 x38])] := hS178
            refine gx_k (.slice A173 l171.length c174) w177 ?_
            refine gx_nil ?_
            refine gx_thenN ?_
            refine hK164 _ _ ?_
            refine gx_exit ?_
            refine gx_thenE ?_
            refine gx_blkE ?_
            refine gx_thenN ?_
            exact ⟨l124, l171, x90, A173, c174, vs175, selfA_i (by kernel_rfl), (Option.some.inj hO127), (hS178.pick [0, 1, 2] rfl rfl), hn123, hf176⟩
           ·refine gx_v (.bool false) w152 (run_boolE (decide_eq_false h167) (by kernel_rfl)) ?_
            refine gx_nil ?_
            refine gx_thenN ?_
            refine hK166 _ _ ?_
            refine gx_no (by kernel_rfl) ?_
            refine gx_pass ?_
            refine gx_thenN ?_
            refine hK164 _ _ ?_
            refine gx_exit ?_
            refine gx_thenE ?_
            refine gx_blkE ?_
            refine gx_thenN ?_
            exact ⟨l124, l67, x90, A63, c64, vs65, selfA_i (by kernel_rfl), (Option.some.inj hO127), hS153, hn123, hf66⟩
          | false =>
           try dsimp only at hO127
           refine gx_no (by kernel_rfl) ?_
           refine gx_pass ?_
           refine gx_thenN ?_
           refine hK160 _ _ ?_
           refine gx_seq (fun K179 hK180 => ?_)
           refine gx_region ?_
           refine gx_k (.slice A63 l67.length c64) w152 (gx_k (.int .i64 ((l67.length : Nat) : Int)) w152 (gx_k (.int .i64 (IntKind.i64.wrap (((l67.length : Nat) : Int) - 1))) w152 (gx_k (.int .i64 (IntKind.i64.wrap (((l67.length : Nat) : Int) - 1))) w152 ?_)))
           refine gx_nil ?_
           refine gx_thenN ?_
           refine hK180 _ _ ?_
           refine gx_block ?_
           refine gx_loop (fun k a w => ∃ (l185 : List Int) (l190 : List (Int × Int)) (x191 : Int) (x192 : Int) (A186 : Option Addr) (c187 : Nat) (vs188 : List Value), selfA (fun u183 => ⟨((.slice A0 p0.length c0) :: undef :: (.slice none 0 0) :: (.slice A9 l5.length c10) :: (.slice A186 l190.length c187) :: (.int .u8 x191) :: (.int .i64 x38) :: (.int .i32 x149) :: (.bool false) :: (.bool true) :: (.int .i64 x192) :: (u29 11) :: (.int .i64 ((p0.length : Nat) : Int)) :: (u29 13) :: (.int .i64 x38) :: (u62 15) :: (.int .i64 ((p0.length : Nat) : Int)) :: (.bool true) :: dd u29 18 2 (dd u62 20 10 (dd u89 30 10 ((u122 40) :: (.int .i64 x38) :: (.int .u8 x90) :: (.pointer (Option.map (fun (p : Addr) => p.add (Int.toNat x38 * 1)) A9)) :: dd u122 44 8 (dd u183 52 2 ((.int .i64 x38) :: (.pointer (Option.map (fun (p : Addr) => p.add (Int.toNat x38 * 1)) A0)) :: (.int .i32 x145) :: (u183 57) :: (.int .i32 x149) :: (.bool false) :: (.bool true) :: (.bool true) :: (.bool false) :: (.bool false) :: dd u29 64 9 ((u183 73) :: (.int .i64 ((l67.length : Nat) : Int)) :: (.int .i64 (IntKind.i64.wrap (((l67.length : Nat) : Int) - 1))) :: dd u183 76 29 (undef :: [])))))))).toArray, []⟩) a ∧ rScripts_L2 N x38 x149 k l185 l190 x191 x192 = some c57 ∧ St [] w0 w [poolE ([]) w0, rowE .u8 5 A9 c10 l185, rowG 49 2 (.slice A186 l190.length c187) l190.length vs188] ∧ l5.length = l185.length ∧ (fEach (pairE (intE .i32) (intE .i64)) vs188 l190).rd w0 ([])) N ?_ ?_
           ·exact ⟨l124, l67, x90, (IntKind.i64.wrap (((l67.length : Nat) : Int) - 1)), A63, c64, vs65, selfA_i (by kernel_rfl), hO127, hS153, hn123, hf66⟩
           ·rintro k193 _ w181 ⟨l185, l190, x191, x192, A186, c187, vs188, hq252, hL194, hS182, hn184, hf189⟩
            obtain ⟨u183, rfl⟩ := selfA_u hq252
            cases k193 with
            | zero => cases hL194
            | succ k193 =>
             first | rw [rScripts_L2] at hL194 | unfold rScripts_L2 at hL194
             refine gx_seq (fun K195 hK196 => ?_)
             refine gx_seq (fun K197 hK198 => ?_)
             refine gx_region ?_
             refine gx_k (.int .i64 x192) w181 ?_
             rcases if_in hL194 with ⟨h199, hL194⟩ | ⟨h199, hL194⟩
             ·refine gx_v (.bool true) w181 (run_boolE (decide_eq_true h199) (by kernel_rfl)) ?_
              refine gx_nil ?_
              refine gx_thenN ?_
              refine hK198 _ _ ?_
              refine gx_yes (by kernel_rfl) ?_
              refine gx_pass ?_
              refine gx_thenN ?_
              refine hK196 _ _ ?_
              refine gx_seq (fun K200 hK201 => ?_)
              refine gx_block ?_
              refine gx_seq (fun K202 hK203 => ?_)
              refine gx_region ?_
              refine gx_k (.slice A186 l190.length c187) w181 (gx_k (.int .i64 x192) w181 ?_)
              obtain ⟨x204, hx205, hL194⟩ := bind_in hL194
              obtain ⟨g206, o207, e208, hA209, he210, h211, ha212⟩ := elem_at (e := (pairE (intE .i32) (intE .i64))) (rowG_lies (e := (pairE (intE .i32) (intE .i64))) rfl (hS182.get 2 rfl)) hf189 hx205 (by decide)
              obtain ⟨e213, e214, rfl, h215, h216⟩ := h211
              obtain rfl := h215
              obtain rfl := h216
              have ha212 : ∀ w', Lies w' A186 vs188 → w'.rangeAt g206 o207 [.int .i32 x204.1, .int .i64 x204.2] := ha212
              refine gx_v (.pointer (some ⟨g206, o207, none⟩)) w181 (run_ixaddrN (E := 49) (s := 2) (k := .i64) (c := c187) rfl (by kernel_rfl) (by kernel_rfl) (by kernel_rfl) (fun _ => by kernel_rfl) (ixg_in hx205).1 (ixg_in hx205).2.1 hA209) ?_
              refine gx_k (.pointer (some ⟨g206, o207, none⟩)) w181 ?_
              refine gx_v (.int .i32 x204.1) w181 (run_loadN1 0 rfl (by kernel_rfl) (fun _ => by kernel_rfl) (ha212 _ (rowG_lies (e := (pairE (intE .i32) (intE .i64))) rfl (hS182.get 2 rfl))) rfl) ?_
              refine gx_k (.int .i32 x149) w181 ?_
              rcases if_in hL194 with ⟨h217, hL194⟩ | ⟨h217, hL194⟩
              ·refine gx_v (.bool true) w181 (run_boolE (decide_eq_true h217) (by kernel_rfl)) ?_
               refine gx_nil ?_
               refine gx_thenN ?_
               refine hK203 _ _ ?_
               refine gx_yes (by kernel_rfl) ?_
               refine gx_seq (fun K218 hK219 => ?_)
               refine gx_region ?_
               refine gx_k (.slice A9 l5.length c10) w181 (gx_k (.int .i64 x38) w181 (gx_k (.slice A9 l5.length c10) w181 (gx_k (.slice A186 l190.length c187) w181 (gx_k (.int .i64 x192) w181 ?_))))
               obtain ⟨x220, hx221, hL194⟩ := bind_in hL194
               obtain ⟨g222, o223, e224, hA225, he226, h227, ha228⟩ := elem_at (e := (pairE (intE .i32) (intE .i64))) (rowG_lies (e := (pairE (intE .i32) (intE .i64))) rfl (hS182.get 2 rfl)) hf189 hx221 (by decide)
               obtain ⟨e229, e230, rfl, h231, h232⟩ := h227
               obtain rfl := h231
               obtain rfl := h232
               have ha228 : ∀ w', Lies w' A186 vs188 → w'.rangeAt g222 o223 [.int .i32 x220.1, .int .i64 x220.2] := ha228
               refine gx_v (.pointer (some ⟨g222, o223, none⟩)) w181 (run_ixaddrN (E := 49) (s := 2) (k := .i64) (c := c187) rfl (by kernel_rfl) (by kernel_rfl) (by kernel_rfl) (fun _ => by kernel_rfl) (ixg_in hx221).1 (ixg_in hx221).2.1 hA225) ?_
               refine gx_k (.pointer (some ⟨g222, o223 + 1, none⟩)) w181 ?_
               refine gx_v (.int .i64 x220.2) w181 (run_loadN1 1 rfl (by kernel_rfl) (fun _ => by kernel_rfl) (ha228 _ (rowG_lies (e := (pairE (intE .i32) (intE .i64))) rfl (hS182.get 2 rfl))) rfl) ?_
               obtain ⟨x233, hx234, hL194⟩ := bind_in hL194
               refine gx_v (.pointer (Option.map (fun (p : Addr) => p.add (Int.toNat x220.2 * 1)) A9)) w181 (run_ixaddr (E := 5) (s := 1) (k := .i64) (c := c10) rfl (by kernel_rfl) (by kernel_rfl) (by kernel_rfl) (fun _ => by kernel_rfl) (ix_in hx234).1 (lt_len hn184 (ix_in hx234).2.1) (nil_len hn184 (num_nil (hS182.row 1 rfl).1))) ?_
               refine gx_v (.int .u8 x233) w181 (run_loadix rfl (by kernel_rfl) (fun _ => by kernel_rfl) (hS182.row 1 rfl).1 hx234) ?_
               obtain ⟨x235, hx236, hL194⟩ := bind_in hL194
               refine gx_v (.pointer (Option.map (fun (p : Addr) => p.add (Int.toNat x38 * 1)) A9)) w181 (run_ixaddr (E := 5) (s := 1) (k := .i64) (c := c10) rfl (by kernel_rfl) (by kernel_rfl) (by kernel_rfl) (fun _ => by kernel_rfl) (ix_in hx236).1 (lt_len hn184 (ix_in hx236).2.1) (nil_len hn184 (num_nil (hS182.row 1 rfl).1))) ?_
               obtain ⟨l239, hx240, hL194⟩ := bind_in hL194
               refine gx_s (st_storeix rfl (by kernel_rfl) (by kernel_rfl) (fun _ => by kernel_rfl) hS182 1 rfl hx240) ?_
               rintro w237 hS238
               have hS238 : St _ _ w237 [poolE ([]) w0, rowE .u8 5 A9 c10 l239, rowG 49 2 (.slice A186 l190.length c187) l190.length vs188] := hS238
               refine gx_nil ?_
               refine gx_thenN ?_
               refine hK219 _ _ ?_
               refine gx_seq (fun K241 hK242 => ?_)
               refine gx_region ?_
               refine gx_k (.slice A9 l5.length c10) w237 (gx_k (.int .i64 x38) w237 ?_)
               obtain ⟨x243, hx244, hL194⟩ := bind_in hL194
               refine gx_v (.pointer (Option.map (fun (p : Addr) => p.add (Int.toNat x38 * 1)) A9)) w237 (run_ixaddr (E := 5) (s := 1) (k := .i64) (c := c10) rfl (by kernel_rfl) (by kernel_rfl) (by kernel_rfl) (fun _ => by kernel_rfl) (ix_in hx244).1 (lt_len (hn184.trans (setx_len hx240).symm) (ix_in hx244).2.1) (nil_len (hn184.trans (setx_len hx240).symm) (num_nil (hS238.row 1 rfl).1))) ?_
               refine gx_v (.int .u8 x243) w237 (run_loadix rfl (by kernel_rfl) (fun _ => by kernel_rfl) (hS238.row 1 rfl).1 hx244) ?_
               refine gx_k (.int .u8 x243) w237 ?_
               refine gx_nil ?_
               refine gx_thenN ?_
               refine hK242 _ _ ?_
               refine gx_seq (fun K245 hK246 => ?_)
               refine gx_region ?_
               refine gx_k (.slice A186 l190.length c187) w237 (gx_k (.int .i64 x192) w237 ?_)
               obtain ⟨l247, hx248, hL194⟩ := bind_in hL194
               refine gx_v (.slice A186 l247.length c187) w237 (run_truncN (TE := 49) (.int .i64 x192) .i64 rfl (by kernel_rfl) (by kernel_rfl) rfl (by kernel_rfl) (fun _ => by kernel_rfl) rfl (hS238.get 2 rfl) hx248) ?_
               obtain ⟨vs250, hf251, hS249⟩ := hS238.truncN 2 rfl rfl hf189 hx248
               have hS249 : St _ _ w237 [poolE ([]) w0, rowE .u8 5 A9 c10 l239, rowG 49 2 (.slice A186 l247.length c187) l247.length vs250] := hS249
               refine gx_k (.slice A186 l247.length c187) w237 ?_
               refine gx_nil ?_
               refine gx_thenN ?_
               refine hK246 _ _ ?_
               refine gx_exit ?_
               refine gx_blkO (by decide) ?_
               refine gx_thenE ?_
               refine gx_thenE ?_
               refine gx_blkE ?_
               refine gx_blkN ?_
               refine gx_thenN ?_
               exact ⟨l239, l247, x243, A186, c187, vs250, selfA_i (by kernel_rfl), (Option.some.inj hL194), hS249, (hn184.trans (setx_len hx240).symm), hf251⟩
              ·refine gx_v (.bool false) w181 (run_boolE (decide_eq_false h217) (by kernel_rfl)) ?_
               refine gx_nil ?_
               refine gx_thenN ?_
               refine hK203 _ _ ?_
               refine gx_no (by kernel_rfl) ?_
               refine gx_pass ?_
               refine gx_blkN ?_
               refine gx_thenN ?_
               refine hK201 _ _ ?_
               refine gx_region ?_
               refine gx_k (.int .i64 x192) w181 (gx_k (.int .i64 (IntKind.i64.wrap (x192 - 1))) w181 (gx_k (.int .i64 (IntKind.i64.wrap (x192 - 1))) w181 ?_))
               refine gx_nil ?_
               refine gx_thenN ?_
               exact ⟨k193, Nat.lt_succ_self k193, l185, l190, x191, (IntKind.i64.wrap (x192 - 1)), A186, c187, vs188, selfA_i (by kernel_rfl), hL194, hS182, hn184, hf189⟩
             ·refine gx_v (.bool false) w181 (run_boolE (decide_eq_false h199) (by kernel_rfl)) ?_
              refine gx_nil ?_
              refine gx_thenN ?_
              refine hK198 _ _ ?_
              refine gx_no (by kernel_rfl) ?_
              refine gx_exit ?_
              refine gx_thenE ?_
              refine gx_thenE ?_
              refine gx_blkE ?_
              refine gx_blkN ?_
              refine gx_thenN ?_
              exact ⟨l185, l190, x191, A186, c187, vs188, selfA_i (by kernel_rfl), (Option.some.inj hL194), hS182, hn184, hf189⟩
         | false =>
          try dsimp only at hO127
          refine gx_k (.bool true) w152 ?_
          refine gx_nil ?_
          refine gx_thenN ?_
          refine hK158 _ _ ?_
          refine gx_yes (by kernel_rfl) ?_
          refine gx_exit ?_
          refine gx_thenE ?_
          refine gx_blkE ?_
          refine gx_thenN ?_
          exact ⟨l124, l67, x90, A63, c64, vs65, selfA_i (by kernel_rfl), (Option.some.inj hO127), hS153, hn123, hf66⟩
     ·rintro _ w46 ⟨l50, l55, x56, A51, c52, vs53, hq256, rfl, hS47, hn49, hf54⟩
      obtain ⟨u48, rfl⟩ := selfA_u hq256
      try dsimp only at hO59
      refine gx_region ?_
      refine gx_k (.int .i64 x38) w46 (gx_k (.int .i64 (IntKind.i64.wrap (x38 + 1))) w46 (gx_k (.int .i64 (IntKind.i64.wrap (x38 + 1))) w46 ?_))
      refine gx_nil ?_
      refine gx_thenN ?_
      exact ⟨k39, Nat.lt_succ_self k39, l50, l55, x56, (IntKind.i64.wrap (x38 + 1)), A51, c52, vs53, selfA_i (by kernel_rfl), hO59, hS47, hn49, hf54⟩
    ·refine gx_v (.bool false) w27 (run_boolE (decide_eq_false h45) (by kernel_rfl)) ?_
     refine gx_nil ?_
     refine gx_thenN ?_
     refine hK44 _ _ ?_
     refine gx_no (by kernel_rfl) ?_
     refine gx_exit ?_
     refine gx_thenE ?_
     refine gx_thenE ?_
     refine gx_blkE ?_
     refine gx_thenN ?_
     exact ⟨l31, selfA_i (by kernel_rfl), (Option.some.inj hL40), (hS28.pick [0, 1] rfl rfl), hn30⟩
 ·rintro _ w15 ⟨l19, hq260, rfl, hS16, hn18⟩
  obtain ⟨u17, rfl⟩ := selfA_u hq260
  try dsimp only at hO22
  refine gx_seq (fun K258 hK259 => ?_)
  refine gx_region ?_
  refine gx_k (.slice A9 l5.length c10) w15 (gx_k (.slice A9 l5.length c10) w15 ?_)
  refine gx_nil ?_
  refine gx_thenN ?_
  refine hK259 _ _ ?_
  refine gx_ret ?_
  obtain rfl := Option.some.inj hO22
  exact gx_fin (.slice A9 l5.length c10) (by kernel_rfl) (by kernel_rfl) ⟨_, rfl, A9, c10, by rw [← hn18] <;> kernel_rfl, (hS16.pick [1] rfl rfl)⟩
end Go.Proofs.YtkcmemldhbifdaaDoor

namespace Go.Proofs.YtkcmemldhbifdaaDoor
open Go Go.RowKit
set_option linter.unusedVariables false
def enccalamusref14Run : Enc (Int × Int × Int × Int) := (pairE (intE .i64) (pairE (intE .i64) (pairE (intE .u8) (intE .u8))))
def rRuns_L1 (N : Nat) (p0 : List Int) (p1 : List Int) (l27 : List Int) : Nat → (List (Int × Int × Int × Int)) → Int → Option (List (Int × Int × Int × Int))
 | 0, _, _ => none
 | k59+1, l57, x58 => (if x58 < ((p0.length : Nat) : Int) then (((((if ((l57.length : Nat) : Int) > 0 then ((ixg l57 (IntKind.i64.wrap (((l57.length : Nat) : Int) - 1))).bind fun x91 => ((ix p1 x58).bind fun x112 => (if x91.2.2.1 = x112 then some (true) else some (false)))) else some (false)) : Option (Bool)).bind fun b84 => (((match b84 with | true => ((ixg l57 (IntKind.i64.wrap (((l57.length : Nat) : Int) - 1))).bind fun x124 => ((ix l27 x58).bind fun x145 => (if x124.2.2.2 = x145 then some (true) else some (false)))) | false => some (false)) : Option (Bool)).bind fun b118 => (match b118 with | true => ((ix p0 (IntKind.i64.wrap (x58 - 1))).bind fun x148 => ((rEnds N x148).bind fun b152 => (match b152 with | true => some (false) | false => some (true)))) | false => some (false)))) : Option (Bool)).bind fun b75 => (match b75 with | true => ((ixg l57 (IntKind.i64.wrap (((l57.length : Nat) : Int) - 1))).bind fun x158 => ((ixg l57 (IntKind.i64.wrap (((l57.length : Nat) : Int) - 1))).bind fun _x189 => ((setg l57 (IntKind.i64.wrap (((l57.length : Nat) : Int) - 1)) (x158.1, (IntKind.i64.wrap (x58 + 1)), x158.2.2.1, x158.2.2.2)).bind fun l210 => rRuns_L1 N p0 p1 l27 k59 l210 (IntKind.i64.wrap (x58 + 1))))) | false => ((ix p1 x58).bind fun x219 => ((ix l27 x58).bind fun x221 => ((apg l57 ([(x58, (IntKind.i64.wrap (x58 + 1)), x219, x221)] : List (Int × Int × Int × Int))).bind fun l226 => rRuns_L1 N p0 p1 l27 k59 l226 (IntKind.i64.wrap (x58 + 1))))))) else some (l57))
def rRuns (N : Nat) (p0 : List Int) (p1 : List Int) : Option (List (Int × Int × Int × Int) × Int) :=
 (if ((p0.length : Nat) : Int) > 65536 then some (([] : List (Int × Int × Int × Int)), 3) else (if ((p0.length : Nat) : Int) ≠ ((p1.length : Nat) : Int) then some (([] : List (Int × Int × Int × Int)), 2) else ((rScripts N p0).bind fun l27 => ((rRuns_L1 N p0 p1 l27 N ([] : List (Int × Int × Int × Int)) 0 : Option (List (Int × Int × Int × Int))).bind fun l42 => some (l42, 0)))))
set_option linter.unusedVariables false in
def rRuns_R (r : List (Int × Int × Int × Int) × Int) (w0 : World) (v : Value) (w : World) : Prop := ∃ (A0' : Option Addr) (c0' : Nat) (vs0' : List Value) (ft' : List Nat), v = .tuple #[.slice A0' r.1.length c0', .int .i64 r.2] ∧ St [] w0 w [rowG 36 4 (.slice A0' r.1.length c0') r.1.length vs0', poolE ft' w] ∧ (fEach enccalamusref14Run vs0' r.1).rd w ft'
set_option maxRecDepth 100000 in
set_option maxHeartbeats 4000000 in
theorem rRuns_ok (N : Nat) (p0 : List Int) (p1 : List Int) (A0 : Option Addr) (c0 : Nat) (A1 : Option Addr) (c1 : Nat) (r : List (Int × Int × Int × Int) × Int) (hF : rRuns N p0 p1 = some r) (w0 : World) (hv0 : Vw [] .i32 w0 A0 c0 p0) (hv1 : Vw [] .u8 w0 A1 c1 p1) :
  Calls Tryd.prog 12 #[.slice A0 p0.length c0, .slice A1 p1.length c1] w0 fun e w => ∃ v, e = .returned v ∧ rRuns_R r w0 v w := by
 have hS0 := (St.start w0).pool0
 unfold rRuns at hF
 refine calls_of Tryd.func12 rfl ⟨((.slice A0 p0.length c0) :: (.slice A1 p1.length c1) :: un 93 ([])).toArray, []⟩ (by kernel_rfl) ?_
 refine gx_seq (fun K1 hK2 => ?_)
 refine gx_region ?_
 refine gx_k (.slice none 0 0) w0 (gx_k (.int .i64 0) w0 ?_)
 refine gx_nil ?_
 refine gx_thenN ?_
 refine hK2 _ _ ?_
 refine gx_seq (fun K3 hK4 => ?_)
 refine gx_seq (fun K5 hK6 => ?_)
 refine gx_region ?_
 refine gx_k (.slice A0 p0.length c0) w0 (gx_k (.int .i64 ((p0.length : Nat) : Int)) w0 ?_)
 rcases if_in hF with ⟨h7, hF⟩ | ⟨h7, hF⟩
 ·refine gx_v (.bool true) w0 (run_boolE (decide_eq_true h7) (by kernel_rfl)) ?_
  refine gx_nil ?_
  refine gx_thenN ?_
  refine hK6 _ _ ?_
  refine gx_yes (by kernel_rfl) ?_
  refine gx_seq (fun K8 hK9 => ?_)
  refine gx_region ?_
  refine gx_k (.slice none 0 0) w0 (gx_k (.int .i64 3) w0 ?_)
  refine gx_nil ?_
  refine gx_thenN ?_
  refine hK9 _ _ ?_
  refine gx_ret ?_
  refine gx_thenR ?_
  have hS10 : St _ _ w0 [poolE ([]) w0, rowG 36 4 (.slice none (([] : List (Int × Int × Int × Int)).length) 0) (([] : List (Int × Int × Int × Int)).length) ([])] := hS0.nilrowN 36 4
  have hf11 : (fEach enccalamusref14Run [] []).rd w0 ([]) := each_nil
  have hS12 : St _ _ w0 [poolE ([]) w0, rowG 36 4 (.slice none (([] : List (Int × Int × Int × Int)).length) 0) (([] : List (Int × Int × Int × Int)).length) ([])] := hS10.renew 0 rfl
  obtain rfl := Option.some.inj hF
  exact gx_fin (.tuple #[.slice none (([] : List (Int × Int × Int × Int)).length) 0, .int .i64 3]) (by kernel_rfl) (by kernel_rfl) ⟨_, rfl, none, 0, ([]), ([]), rfl, (hS12.pick [1, 0] rfl rfl), (hS10.now 0 rfl hf11)⟩
 ·refine gx_v (.bool false) w0 (run_boolE (decide_eq_false h7) (by kernel_rfl)) ?_
  refine gx_nil ?_
  refine gx_thenN ?_
  refine hK6 _ _ ?_
  refine gx_no (by kernel_rfl) ?_
  refine gx_pass ?_
  refine gx_thenN ?_
  refine hK4 _ _ ?_
  refine gx_seq (fun K13 hK14 => ?_)
  refine gx_seq (fun K15 hK16 => ?_)
  refine gx_region ?_
  refine gx_k (.slice A0 p0.length c0) w0 (gx_k (.int .i64 ((p0.length : Nat) : Int)) w0 (gx_k (.slice A1 p1.length c1) w0 (gx_k (.int .i64 ((p1.length : Nat) : Int)) w0 ?_)))
  rcases if_in hF with ⟨h17, hF⟩ | ⟨h17, hF⟩
  ·refine gx_v (.bool true) w0 (run_boolE (ne_yes h17) (by kernel_rfl)) ?_
   refine gx_nil ?_
   refine gx_thenN ?_
   refine hK16 _ _ ?_
   refine gx_yes (by kernel_rfl) ?_
   refine gx_seq (fun K18 hK19 => ?_)
   refine gx_region ?_
   refine gx_k (.slice none 0 0) w0 (gx_k (.int .i64 2) w0 ?_)
   refine gx_nil ?_
   refine gx_thenN ?_
   refine hK19 _ _ ?_
   refine gx_ret ?_
   refine gx_thenR ?_
   have hS20 : St _ _ w0 [poolE ([]) w0, rowG 36 4 (.slice none (([] : List (Int × Int × Int × Int)).length) 0) (([] : List (Int × Int × Int × Int)).length) ([])] := hS0.nilrowN 36 4
   have hf21 : (fEach enccalamusref14Run [] []).rd w0 ([]) := each_nil
   have hS22 : St _ _ w0 [poolE ([]) w0, rowG 36 4 (.slice none (([] : List (Int × Int × Int × Int)).length) 0) (([] : List (Int × Int × Int × Int)).length) ([])] := hS20.renew 0 rfl
   obtain rfl := Option.some.inj hF
   exact gx_fin (.tuple #[.slice none (([] : List (Int × Int × Int × Int)).length) 0, .int .i64 2]) (by kernel_rfl) (by kernel_rfl) ⟨_, rfl, none, 0, ([]), ([]), rfl, (hS22.pick [1, 0] rfl rfl), (hS20.now 0 rfl hf21)⟩
  ·refine gx_v (.bool false) w0 (run_boolE (ne_no h17) (by kernel_rfl)) ?_
   refine gx_nil ?_
   refine gx_thenN ?_
   refine hK16 _ _ ?_
   refine gx_no (by kernel_rfl) ?_
   refine gx_pass ?_
   refine gx_thenN ?_
   refine hK14 _ _ ?_
   refine gx_seq (fun K23 hK24 => ?_)
   refine gx_region ?_
   refine gx_k (.slice A0 p0.length c0) w0 ?_
   have hP25 : St _ _ w0 ([] ++ [poolE ([]) w0]) := hS0
   obtain ⟨l27, hc26, hF⟩ := bind_in hF
   try dsimp only at hF
   refine gx_c (rScripts_R l27 w0) (rScripts_ok N p0 A0 c0 _ hc26 w0 (hP25.vwA hv0)) ?_
   rintro _ w30 ⟨A28, c29, rfl, hT32⟩
   have hS31 : St _ _ w30 [poolE ([]) w0, rowE .u8 5 A28 c29 l27] := hS0.take _ hT32
   refine gx_k (.slice A28 l27.length c29) w30 ?_
   refine gx_nil ?_
   refine gx_thenN ?_
   refine hK24 _ _ ?_
   refine gx_seq (fun K33 hK34 => ?_)
   refine gx_region ?_
   refine gx_k (.slice none 0 0) w30 ?_
   refine gx_nil ?_
   refine gx_thenN ?_
   refine hK34 _ _ ?_
   obtain ⟨c43, hE44, hO45⟩ := bind_in hF
   refine gx_cut (fun a w => ∃ (l42 : List (Int × Int × Int × Int)) (A38 : Option Addr) (c39 : Nat) (vs40 : List Value), selfA (fun u37 => ⟨(dd u37 0 2 (undef :: undef :: (.slice none 0 0) :: (.int .i64 0) :: (u37 6) :: (.slice A38 l42.length c39) :: dd u37 8 4 ((.int .i64 ((p0.length : Nat) : Int)) :: (.bool false) :: (u37 14) :: (.int .i64 ((p0.length : Nat) : Int)) :: (u37 16) :: (.int .i64 ((p1.length : Nat) : Int)) :: (.bool false) :: dd u37 19 75 (undef :: [])))).toArray, []⟩) a ∧ l42 = c43 ∧ St [] w0 w [poolE ([]) w0, rowG 36 4 (.slice A38 l42.length c39) l42.length vs40] ∧ (fEach enccalamusref14Run vs40 l42).rd w0 ([])) ?_ ?_
   ·refine gx_seq (fun K46 hK47 => ?_)
    refine gx_region ?_
    refine gx_k (.int .i64 0) w30 ?_
    refine gx_nil ?_
    refine gx_thenN ?_
    refine hK47 _ _ ?_
    refine gx_block ?_
    have hS48 : St _ _ w30 [poolE ([]) w0, rowE .u8 5 A28 c29 l27, rowG 36 4 (.slice none (([] : List (Int × Int × Int × Int)).length) 0) (([] : List (Int × Int × Int × Int)).length) ([])] := hS31.nilrowN 36 4
    have hf49 : (fEach enccalamusref14Run [] []).rd w0 ([]) := each_nil
    refine gx_loop (fun k a w => ∃ (l57 : List (Int × Int × Int × Int)) (x58 : Int) (A53 : Option Addr) (c54 : Nat) (vs55 : List Value), selfA (fun u52 => ⟨((.slice A0 p0.length c0) :: (.slice A1 p1.length c1) :: undef :: undef :: (.slice none 0 0) :: (.int .i64 0) :: (.slice A28 l27.length c29) :: (.slice A53 l57.length c54) :: (.int .i64 x58) :: dd u52 9 3 ((.int .i64 ((p0.length : Nat) : Int)) :: (.bool false) :: (u52 14) :: (.int .i64 ((p0.length : Nat) : Int)) :: (u52 16) :: (.int .i64 ((p1.length : Nat) : Int)) :: (.bool false) :: dd u52 19 75 (undef :: []))).toArray, []⟩) a ∧ rRuns_L1 N p0 p1 l27 k l57 x58 = some c43 ∧ St [] w0 w [poolE ([]) w0, rowE .u8 5 A28 c29 l27, rowG 36 4 (.slice A53 l57.length c54) l57.length vs55] ∧ (fEach enccalamusref14Run vs55 l57).rd w0 ([])) N ?_ ?_
    ·exact ⟨([] : List (Int × Int × Int × Int)), 0, none, 0, ([]), selfA_i (by kernel_rfl), hE44, hS48, hf49⟩
    ·rintro k59 _ w50 ⟨l57, x58, A53, c54, vs55, hq235, hL60, hS51, hf56⟩
     obtain ⟨u52, rfl⟩ := selfA_u hq235
     cases k59 with
     | zero => cases hL60
     | succ k59 =>
      first | rw [rRuns_L1] at hL60 | unfold rRuns_L1 at hL60
      refine gx_seq (fun K61 hK62 => ?_)
      refine gx_seq (fun K63 hK64 => ?_)
      refine gx_region ?_
      refine gx_k (.int .i64 x58) w50 (gx_k (.slice A0 p0.length c0) w50 (gx_k (.int .i64 ((p0.length : Nat) : Int)) w50 ?_))
      rcases if_in hL60 with ⟨h65, hL60⟩ | ⟨h65, hL60⟩
      ·refine gx_v (.bool true) w50 (run_boolE (decide_eq_true h65) (by kernel_rfl)) ?_
       refine gx_nil ?_
       refine gx_thenN ?_
       refine hK64 _ _ ?_
       refine gx_yes (by kernel_rfl) ?_
       refine gx_pass ?_
       refine gx_thenN ?_
       refine hK62 _ _ ?_
       refine gx_seq (fun K66 hK67 => ?_)
       refine gx_block ?_
       refine gx_seq (fun K68 hK69 => ?_)
       refine gx_region ?_
       refine gx_k (.slice A53 l57.length c54) w50 (gx_k (.int .i64 ((l57.length : Nat) : Int)) w50 (gx_k (.int .i64 ((l57.length : Nat) : Int)) w50 ?_))
       refine gx_nil ?_
       refine gx_thenN ?_
       refine hK69 _ _ ?_
       refine gx_seq (fun K70 hK71 => ?_)
       obtain ⟨c76, hE77, hO78⟩ := bind_in hL60
       refine gx_cut (fun a w => ∃ (b75 : Bool), selfA (fun u74 => ⟨((.slice A0 p0.length c0) :: (.slice A1 p1.length c1) :: undef :: undef :: (.slice none 0 0) :: (.int .i64 0) :: (.slice A28 l27.length c29) :: (.slice A53 l57.length c54) :: (.int .i64 x58) :: (.int .i64 ((l57.length : Nat) : Int)) :: dd u52 10 2 ((.int .i64 ((p0.length : Nat) : Int)) :: (.bool false) :: (u52 14) :: (.int .i64 ((p0.length : Nat) : Int)) :: (u52 16) :: (.int .i64 ((p1.length : Nat) : Int)) :: (.bool false) :: dd u52 19 2 ((.int .i64 x58) :: (u74 22) :: (.int .i64 ((p0.length : Nat) : Int)) :: (.bool true) :: dd u52 25 2 ((u74 27) :: (.int .i64 ((l57.length : Nat) : Int)) :: dd u74 29 36 ((.bool b75) :: dd u52 66 28 (undef :: [])))))).toArray, []⟩) a ∧ b75 = c76 ∧ St [] w0 w [poolE ([]) w0, rowE .u8 5 A28 c29 l27, rowG 36 4 (.slice A53 l57.length c54) l57.length vs55]) ?_ ?_
       ·refine gd_start (fun w => St [] w0 w [poolE ([]) w0, rowE .u8 5 A28 c29 l27, rowG 36 4 (.slice A53 l57.length c54) l57.length vs55]) 37 #[false, false, false, false, false, false, false, false, false, false, false, false, false, false, false, false, false, false, false, false, false, false, false, false, false, false, false, false, false, false, false, false, false, false, false, false, false] (by kernel_rfl) (by kernel_rfl) ?_
        have hS80 := hS51.drew
        generalize w50.drew = w79 at hS80 ⊢
        refine gv1 0 29 (.int .i64 ((l57.length : Nat) : Int)) rfl hS80 ?_
        obtain ⟨c85, hE86, hO87⟩ := bind_in hE77
        refine gd_mid (fun a w => ∃ (b84 : Bool), selfA (fun u83 => ⟨((.slice A0 p0.length c0) :: (.slice A1 p1.length c1) :: undef :: undef :: (.slice none 0 0) :: (.int .i64 0) :: (.slice A28 l27.length c29) :: (.slice A53 l57.length c54) :: (.int .i64 x58) :: (.int .i64 ((l57.length : Nat) : Int)) :: dd u52 10 2 ((.int .i64 ((p0.length : Nat) : Int)) :: (.bool false) :: (u52 14) :: (.int .i64 ((p0.length : Nat) : Int)) :: (u52 16) :: (.int .i64 ((p1.length : Nat) : Int)) :: (.bool false) :: dd u52 19 2 ((.int .i64 x58) :: (u83 22) :: (.int .i64 ((p0.length : Nat) : Int)) :: (.bool true) :: dd u52 25 2 ((u83 27) :: (.int .i64 ((l57.length : Nat) : Int)) :: (.int .i64 ((l57.length : Nat) : Int)) :: dd u83 30 13 ((.bool b84) :: dd u52 44 50 (undef :: [])))))).toArray, []⟩) a ∧ b84 = c85 ∧ St [] w0 w [poolE ([]) w0, rowE .u8 5 A28 c29 l27, rowG 36 4 (.slice A53 l57.length c54) l57.length vs55]) 22 #[true, true, true, true, true, true, true, true, true, true, true, true, true, true, true, false, false, false, false, false, false, false, false, false, false, false, false, false, false, false, false, false, false, false, false, false, false] ?_ ?_
        ·rintro _ w81 ⟨b84, hq88, rfl, hS82⟩
         obtain ⟨u83, rfl⟩ := selfA_u hq88
         try dsimp only at hO87
         obtain ⟨c119, hE120, hO121⟩ := bind_in hO87
         refine gd_mid (fun a w => ∃ (b118 : Bool), selfA (fun u117 => ⟨((.slice A0 p0.length c0) :: (.slice A1 p1.length c1) :: undef :: undef :: (.slice none 0 0) :: (.int .i64 0) :: (.slice A28 l27.length c29) :: (.slice A53 l57.length c54) :: (.int .i64 x58) :: (.int .i64 ((l57.length : Nat) : Int)) :: dd u52 10 2 ((.int .i64 ((p0.length : Nat) : Int)) :: (.bool false) :: (u52 14) :: (.int .i64 ((p0.length : Nat) : Int)) :: (u52 16) :: (.int .i64 ((p1.length : Nat) : Int)) :: (.bool false) :: dd u52 19 2 ((.int .i64 x58) :: (u83 22) :: (.int .i64 ((p0.length : Nat) : Int)) :: (.bool true) :: dd u52 25 2 ((u83 27) :: (.int .i64 ((l57.length : Nat) : Int)) :: (.int .i64 ((l57.length : Nat) : Int)) :: dd u83 30 13 ((.bool b84) :: dd u117 44 12 ((.bool b118) :: dd u52 57 37 (undef :: []))))))).toArray, []⟩) a ∧ b118 = c119 ∧ St [] w0 w [poolE ([]) w0, rowE .u8 5 A28 c29 l27, rowG 36 4 (.slice A53 l57.length c54) l57.length vs55]) 9 #[true, true, true, true, true, true, true, true, true, true, true, true, true, true, true, true, true, true, true, true, true, true, true, true, true, true, true, true, false, false, false, false, false, false, false, false, false] ?_ ?_
         ·rintro _ w115 ⟨b118, hq122, rfl, hS116⟩
          obtain ⟨u117, rfl⟩ := selfA_u hq122
          try dsimp only at hO121
          refine gv1 28 57 (.bool b118) rfl hS116 ?_
          cases b118 with
          | true =>
           try dsimp only at hO121
           refine gv1 29 58 (.slice A0 p0.length c0) rfl hS116 ?_
           refine gv1 30 59 (.int .i64 x58) rfl hS116 ?_
           refine gv1 31 60 (.int .i64 (IntKind.i64.wrap (x58 - 1))) rfl hS116 ?_
           obtain ⟨x148, hx149, hO121⟩ := bind_in hO121
           refine gu1 32 61 (.pointer (Option.map (fun (p : Addr) => p.add (Int.toNat (IntKind.i64.wrap (x58 - 1)) * 1)) A0)) rfl hS116 (fun w hSw => run_ixaddr (E := 21) (s := 1) (k := .i64) (c := c0) rfl (by kernel_rfl) (by kernel_rfl) (by kernel_rfl) (fun _ => by kernel_rfl) (ix_in hx149).1 (ix_in hx149).2.1 (num_nil (hS116.view hv0))) ?_
           refine gu1 33 62 (.int .i32 x148) rfl hS116 (fun w hSw => run_loadix rfl (by kernel_rfl) (fun _ => by kernel_rfl) (hSw.view hv0) hx149) ?_
           have hP150 : St _ _ w115 ([] ++ [poolE ([]) w0, rowE .u8 5 A28 c29 l27, rowG 36 4 (.slice A53 l57.length c54) l57.length vs55]) := hS116
           obtain ⟨b152, hc151, hO121⟩ := bind_in hO121
           try dsimp only at hO121
           refine gdC 34 { dst := some 63, op := _, type := _, pos := _, after := _, guard := _ } (rEnds_R b152 w115) rfl (by kernel_rfl) (rEnds_ok N x148 _ hc151 w115 ) ?_
           rintro _ w153 ⟨rfl, hT155⟩
           have hS154 : St _ _ w153 [poolE ([]) w0, rowE .u8 5 A28 c29 l27, rowG 36 4 (.slice A53 l57.length c54) l57.length vs55] := hS116.take _ hT155
           refine ⟨hS154, ?_⟩
           cases b152 with
           | true =>
            try dsimp only at hO121
            refine gv1 35 64 (.bool false) rfl hS154 ?_
            refine gv1 36 65 (.bool false) rfl hS154 ?_
            refine gd_done (by kernel_rfl) ?_
            refine gx_thenN ?_
            exact ⟨false, selfA_i (by kernel_rfl), (Option.some.inj hO121), hS154⟩
           | false =>
            try dsimp only at hO121
            refine gv1 35 64 (.bool true) rfl hS154 ?_
            refine gv1 36 65 (.bool true) rfl hS154 ?_
            refine gd_done (by kernel_rfl) ?_
            refine gx_thenN ?_
            exact ⟨true, selfA_i (by kernel_rfl), (Option.some.inj hO121), hS154⟩
          | false =>
           try dsimp only at hO121
           refine gz1 29 58 rfl hS116 ?_
           refine gz1 30 59 rfl hS116 ?_
           refine gz1 31 60 rfl hS116 ?_
           refine gz1 32 61 rfl hS116 ?_
           refine gz1 33 62 rfl hS116 ?_
           refine gz1 34 63 rfl hS116 ?_
           refine gz1 35 64 rfl hS116 ?_
           refine gv1 36 65 (.bool false) rfl hS116 ?_
           refine gd_done (by kernel_rfl) ?_
           refine gx_thenN ?_
           exact ⟨false, selfA_i (by kernel_rfl), (Option.some.inj hO121), hS116⟩
         ·intro hK123
          refine gv1 15 44 (.bool b84) rfl hS82 ?_
          cases b84 with
          | true =>
           try dsimp only at hE120
           refine gv1 16 45 (.slice A53 l57.length c54) rfl hS82 ?_
           refine gv1 17 46 (.int .i64 ((l57.length : Nat) : Int)) rfl hS82 ?_
           refine gv1 18 47 (.int .i64 (IntKind.i64.wrap (((l57.length : Nat) : Int) - 1))) rfl hS82 ?_
           obtain ⟨x124, hx125, hE120⟩ := bind_in hE120
           obtain ⟨g126, o127, e128, hA129, he130, h131, ha132⟩ := elem_at (e := enccalamusref14Run) (rowG_lies (e := enccalamusref14Run) rfl (hS82.get 2 rfl)) hf56 hx125 (by decide)
           obtain ⟨e133, e134, rfl, h135, h136⟩ := h131
           obtain rfl := h135
           obtain ⟨e137, e138, rfl, h139, h140⟩ := h136
           obtain rfl := h139
           obtain ⟨e141, e142, rfl, h143, h144⟩ := h140
           obtain rfl := h143
           obtain rfl := h144
           have ha132 : ∀ w', Lies w' A53 vs55 → w'.rangeAt g126 o127 [.int .i64 x124.1, .int .i64 x124.2.1, .int .u8 x124.2.2.1, .int .u8 x124.2.2.2] := ha132
           refine gu1 19 48 (.pointer (some ⟨g126, o127, none⟩)) rfl hS82 (fun w hSw => run_ixaddrN (E := 36) (s := 4) (k := .i64) (c := c54) rfl (by kernel_rfl) (by kernel_rfl) (by kernel_rfl) (fun _ => by kernel_rfl) (ixg_in hx125).1 (ixg_in hx125).2.1 hA129) ?_
           refine gv1 20 49 (.pointer (some ⟨g126, o127 + 3, none⟩)) rfl hS82 ?_
           refine gu1 21 50 (.int .u8 x124.2.2.2) rfl hS82 (fun w hSw => run_loadN1 3 rfl (by kernel_rfl) (fun _ => by kernel_rfl) (ha132 _ (rowG_lies (e := enccalamusref14Run) rfl (hSw.get 2 rfl))) rfl) ?_
           refine gv1 22 51 (.slice A28 l27.length c29) rfl hS82 ?_
           refine gv1 23 52 (.int .i64 x58) rfl hS82 ?_
           obtain ⟨x145, hx146, hE120⟩ := bind_in hE120
           refine gu1 24 53 (.pointer (Option.map (fun (p : Addr) => p.add (Int.toNat x58 * 1)) A28)) rfl hS82 (fun w hSw => run_ixaddr (E := 5) (s := 1) (k := .i64) (c := c29) rfl (by kernel_rfl) (by kernel_rfl) (by kernel_rfl) (fun _ => by kernel_rfl) (ix_in hx146).1 (ix_in hx146).2.1 (num_nil (hS82.row 1 rfl).1)) ?_
           refine gu1 25 54 (.int .u8 x145) rfl hS82 (fun w hSw => run_loadix rfl (by kernel_rfl) (fun _ => by kernel_rfl) (hSw.row 1 rfl).1 hx146) ?_
           rcases if_in hE120 with ⟨h147, hE120⟩ | ⟨h147, hE120⟩
           ·refine gu1 26 55 (.bool true) rfl hS82 (fun w hSw => run_boolE (decide_eq_true h147) (by kernel_rfl)) ?_
            refine gv1 27 56 (.bool true) rfl hS82 ?_
            exact gd_to hK123 (by kernel_rfl) ⟨true, selfA_i (by kernel_rfl), (Option.some.inj hE120), hS82⟩
           ·refine gu1 26 55 (.bool false) rfl hS82 (fun w hSw => run_boolE (decide_eq_false h147) (by kernel_rfl)) ?_
            refine gv1 27 56 (.bool false) rfl hS82 ?_
            exact gd_to hK123 (by kernel_rfl) ⟨false, selfA_i (by kernel_rfl), (Option.some.inj hE120), hS82⟩
          | false =>
           try dsimp only at hE120
           refine gz1 16 45 rfl hS82 ?_
           refine gz1 17 46 rfl hS82 ?_
           refine gz1 18 47 rfl hS82 ?_
           refine gz1 19 48 rfl hS82 ?_
           refine gz1 20 49 rfl hS82 ?_
           refine gz1 21 50 rfl hS82 ?_
           refine gz1 22 51 rfl hS82 ?_
           refine gz1 23 52 rfl hS82 ?_
           refine gz1 24 53 rfl hS82 ?_
           refine gz1 25 54 rfl hS82 ?_
           refine gz1 26 55 rfl hS82 ?_
           refine gv1 27 56 (.bool false) rfl hS82 ?_
           exact gd_to hK123 (by kernel_rfl) ⟨false, selfA_i (by kernel_rfl), (Option.some.inj hE120), hS82⟩
        ·intro hK89
         rcases if_in hE86 with ⟨h90, hE86⟩ | ⟨h90, hE86⟩
         ·refine gu1 1 30 (.bool true) rfl hS80 (fun w hSw => run_boolE (decide_eq_true h90) (by kernel_rfl)) ?_
          refine gv1 2 31 (.bool true) rfl hS80 ?_
          refine gv1 3 32 (.slice A53 l57.length c54) rfl hS80 ?_
          refine gv1 4 33 (.int .i64 ((l57.length : Nat) : Int)) rfl hS80 ?_
          refine gv1 5 34 (.int .i64 (IntKind.i64.wrap (((l57.length : Nat) : Int) - 1))) rfl hS80 ?_
          obtain ⟨x91, hx92, hE86⟩ := bind_in hE86
          obtain ⟨g93, o94, e95, hA96, he97, h98, ha99⟩ := elem_at (e := enccalamusref14Run) (rowG_lies (e := enccalamusref14Run) rfl (hS80.get 2 rfl)) hf56 hx92 (by decide)
          obtain ⟨e100, e101, rfl, h102, h103⟩ := h98
          obtain rfl := h102
          obtain ⟨e104, e105, rfl, h106, h107⟩ := h103
          obtain rfl := h106
          obtain ⟨e108, e109, rfl, h110, h111⟩ := h107
          obtain rfl := h110
          obtain rfl := h111
          have ha99 : ∀ w', Lies w' A53 vs55 → w'.rangeAt g93 o94 [.int .i64 x91.1, .int .i64 x91.2.1, .int .u8 x91.2.2.1, .int .u8 x91.2.2.2] := ha99
          refine gu1 6 35 (.pointer (some ⟨g93, o94, none⟩)) rfl hS80 (fun w hSw => run_ixaddrN (E := 36) (s := 4) (k := .i64) (c := c54) rfl (by kernel_rfl) (by kernel_rfl) (by kernel_rfl) (fun _ => by kernel_rfl) (ixg_in hx92).1 (ixg_in hx92).2.1 hA96) ?_
          refine gv1 7 36 (.pointer (some ⟨g93, o94 + 2, none⟩)) rfl hS80 ?_
          refine gu1 8 37 (.int .u8 x91.2.2.1) rfl hS80 (fun w hSw => run_loadN1 2 rfl (by kernel_rfl) (fun _ => by kernel_rfl) (ha99 _ (rowG_lies (e := enccalamusref14Run) rfl (hSw.get 2 rfl))) rfl) ?_
          refine gv1 9 38 (.slice A1 p1.length c1) rfl hS80 ?_
          refine gv1 10 39 (.int .i64 x58) rfl hS80 ?_
          obtain ⟨x112, hx113, hE86⟩ := bind_in hE86
          refine gu1 11 40 (.pointer (Option.map (fun (p : Addr) => p.add (Int.toNat x58 * 1)) A1)) rfl hS80 (fun w hSw => run_ixaddr (E := 5) (s := 1) (k := .i64) (c := c1) rfl (by kernel_rfl) (by kernel_rfl) (by kernel_rfl) (fun _ => by kernel_rfl) (ix_in hx113).1 (ix_in hx113).2.1 (num_nil (hS80.view hv1))) ?_
          refine gu1 12 41 (.int .u8 x112) rfl hS80 (fun w hSw => run_loadix rfl (by kernel_rfl) (fun _ => by kernel_rfl) (hSw.view hv1) hx113) ?_
          rcases if_in hE86 with ⟨h114, hE86⟩ | ⟨h114, hE86⟩
          ·refine gu1 13 42 (.bool true) rfl hS80 (fun w hSw => run_boolE (decide_eq_true h114) (by kernel_rfl)) ?_
           refine gv1 14 43 (.bool true) rfl hS80 ?_
           exact gd_to hK89 (by kernel_rfl) ⟨true, selfA_i (by kernel_rfl), (Option.some.inj hE86), hS80⟩
          ·refine gu1 13 42 (.bool false) rfl hS80 (fun w hSw => run_boolE (decide_eq_false h114) (by kernel_rfl)) ?_
           refine gv1 14 43 (.bool false) rfl hS80 ?_
           exact gd_to hK89 (by kernel_rfl) ⟨false, selfA_i (by kernel_rfl), (Option.some.inj hE86), hS80⟩
         ·refine gu1 1 30 (.bool false) rfl hS80 (fun w hSw => run_boolE (decide_eq_false h90) (by kernel_rfl)) ?_
          refine gv1 2 31 (.bool false) rfl hS80 ?_
          refine gz1 3 32 rfl hS80 ?_
          refine gz1 4 33 rfl hS80 ?_
          refine gz1 5 34 rfl hS80 ?_
          refine gz1 6 35 rfl hS80 ?_
          refine gz1 7 36 rfl hS80 ?_
          refine gz1 8 37 rfl hS80 ?_
          refine gz1 9 38 rfl hS80 ?_
          refine gz1 10 39 rfl hS80 ?_
          refine gz1 11 40 rfl hS80 ?_
          refine gz1 12 41 rfl hS80 ?_
          refine gz1 13 42 rfl hS80 ?_
          refine gv1 14 43 (.bool false) rfl hS80 ?_
          exact gd_to hK89 (by kernel_rfl) ⟨false, selfA_i (by kernel_rfl), (Option.some.inj hE86), hS80⟩
       ·rintro _ w72 ⟨b75, hq234, rfl, hS73⟩
        obtain ⟨u74, rfl⟩ := selfA_u hq234
        try dsimp only at hO78
        cases b75 with
        | true =>
         try dsimp only at hO78
         refine gx_yes (by kernel_rfl) ?_
         refine gx_seq (fun K156 hK157 => ?_)
         refine gx_region ?_
         refine gx_k (.slice A53 l57.length c54) w72 (gx_k (.int .i64 ((l57.length : Nat) : Int)) w72 (gx_k (.int .i64 (IntKind.i64.wrap (((l57.length : Nat) : Int) - 1))) w72 ?_))
         obtain ⟨x158, hx159, hO78⟩ := bind_in hO78
         obtain ⟨g160, o161, e162, hA163, he164, h165, ha166⟩ := elem_at (e := enccalamusref14Run) (rowG_lies (e := enccalamusref14Run) rfl (hS73.get 2 rfl)) hf56 hx159 (by decide)
         obtain ⟨e167, e168, rfl, h169, h170⟩ := h165
         obtain rfl := h169
         obtain ⟨e171, e172, rfl, h173, h174⟩ := h170
         obtain rfl := h173
         obtain ⟨e175, e176, rfl, h177, h178⟩ := h174
         obtain rfl := h177
         obtain rfl := h178
         have ha166 : ∀ w', Lies w' A53 vs55 → w'.rangeAt g160 o161 [.int .i64 x158.1, .int .i64 x158.2.1, .int .u8 x158.2.2.1, .int .u8 x158.2.2.2] := ha166
         refine gx_v (.pointer (some ⟨g160, o161, none⟩)) w72 (run_ixaddrN (E := 36) (s := 4) (k := .i64) (c := c54) rfl (by kernel_rfl) (by kernel_rfl) (by kernel_rfl) (fun _ => by kernel_rfl) (ixg_in hx159).1 (ixg_in hx159).2.1 hA163) ?_
         refine gx_v (.agg #[.int .i64 x158.1, .int .i64 x158.2.1, .int .u8 x158.2.2.1, .int .u8 x158.2.2.2]) w72 (run_loadNG (d := _) (ec := [.int .i64 x158.1, .int .i64 x158.2.1, .int .u8 x158.2.2.1, .int .u8 x158.2.2.2]) rfl (by kernel_rfl) (ha166 _ (rowG_lies (e := enccalamusref14Run) rfl (hS73.get 2 rfl))) rfl rfl (by kernel_rfl)) ?_
         refine gx_r (st_boxed [.int .i64 0, .int .i64 0, .int .u8 0, .int .u8 0] 36 hS73 (by kernel_rfl)) ?_
         rintro _ w179 ⟨rfl, hS180⟩
         have hS180 : St _ _ w179 [poolE ([]) w0, rowE .u8 5 A28 c29 l27, rowG 36 4 (.slice A53 l57.length c54) l57.length vs55, boxE w72.heap.size [.int .i64 0, .int .i64 0, .int .u8 0, .int .u8 0] 36] := hS180
         refine gx_s (st_storeG (cs := [.int .i64 0, .int .i64 0, .int .u8 0, .int .u8 0]) (ds := [.int .i64 x158.1, .int .i64 x158.2.1, .int .u8 x158.2.2.1, .int .u8 x158.2.2.2]) rfl (by kernel_rfl) (by kernel_rfl) (by kernel_rfl) rfl rfl hS180 3 rfl) ?_
         rintro w181 hS182
         have hS182 : St _ _ w181 [poolE ([]) w0, rowE .u8 5 A28 c29 l27, rowG 36 4 (.slice A53 l57.length c54) l57.length vs55, boxE w72.heap.size [.int .i64 x158.1, .int .i64 x158.2.1, .int .u8 x158.2.2.1, .int .u8 x158.2.2.2] 36] := hS182
         refine gx_nil ?_
         refine gx_thenN ?_
         refine hK157 _ _ ?_
         refine gx_seq (fun K183 hK184 => ?_)
         refine gx_region ?_
         refine gx_k (.int .i64 x58) w181 (gx_k (.int .i64 (IntKind.i64.wrap (x58 + 1))) w181 (gx_k (.pointer (some ⟨w72.heap.size, 1, none⟩)) w181 ?_))
         refine gx_s (st_store (j := 1) (v := (.int .i64 (IntKind.i64.wrap (x58 + 1)))) rfl (by kernel_rfl) (by kernel_rfl) rfl (fun _ => by kernel_rfl) hS182 3 rfl (by show 1 < 4; decide)) ?_
         rintro w185 hS186
         have hS186 : St _ _ w185 [poolE ([]) w0, rowE .u8 5 A28 c29 l27, rowG 36 4 (.slice A53 l57.length c54) l57.length vs55, boxE w72.heap.size [.int .i64 x158.1, .int .i64 (IntKind.i64.wrap (x58 + 1)), .int .u8 x158.2.2.1, .int .u8 x158.2.2.2] 36] := hS186
         refine gx_nil ?_
         refine gx_thenN ?_
         refine hK184 _ _ ?_
         refine gx_seq (fun K187 hK188 => ?_)
         refine gx_region ?_
         refine gx_k (.slice A53 l57.length c54) w185 (gx_k (.int .i64 ((l57.length : Nat) : Int)) w185 (gx_k (.int .i64 (IntKind.i64.wrap (((l57.length : Nat) : Int) - 1))) w185 ?_))
         refine gx_v (.agg #[.int .i64 x158.1, .int .i64 (IntKind.i64.wrap (x58 + 1)), .int .u8 x158.2.2.1, .int .u8 x158.2.2.2]) w185 (run_loadG (d := _) rfl (by kernel_rfl) (hS186.get 3 rfl) rfl rfl (by kernel_rfl)) ?_
         obtain ⟨x189, hx190, hO78⟩ := bind_in hO78
         obtain ⟨g191, o192, e193, hA194, he195, h196, ha197⟩ := elem_at (e := enccalamusref14Run) (rowG_lies (e := enccalamusref14Run) rfl (hS186.get 2 rfl)) hf56 hx190 (by decide)
         obtain ⟨e198, e199, rfl, h200, h201⟩ := h196
         obtain rfl := h200
         obtain ⟨e202, e203, rfl, h204, h205⟩ := h201
         obtain rfl := h204
         obtain ⟨e206, e207, rfl, h208, h209⟩ := h205
         obtain rfl := h208
         obtain rfl := h209
         have ha197 : ∀ w', Lies w' A53 vs55 → w'.rangeAt g191 o192 [.int .i64 x189.1, .int .i64 x189.2.1, .int .u8 x189.2.2.1, .int .u8 x189.2.2.2] := ha197
         refine gx_v (.pointer (some ⟨g191, o192, none⟩)) w185 (run_ixaddrN (E := 36) (s := 4) (k := .i64) (c := c54) rfl (by kernel_rfl) (by kernel_rfl) (by kernel_rfl) (fun _ => by kernel_rfl) (ixg_in hx190).1 (ixg_in hx190).2.1 hA194) ?_
         obtain ⟨l210, hx211, hO78⟩ := bind_in hO78
         refine gx_s (st_setN (e := enccalamusref14Run) (ds := [.int .i64 x158.1, .int .i64 (IntKind.i64.wrap (x58 + 1)), .int .u8 x158.2.2.1, .int .u8 x158.2.2.2]) rfl (by kernel_rfl) (by kernel_rfl) (by kernel_rfl) hS186 2 rfl rfl hf56 hA194 (rd_pair (rd_intg .i64 x158.1) (rd_pair (rd_intg .i64 (IntKind.i64.wrap (x58 + 1))) (rd_pair (rd_intg .u8 x158.2.2.1) (rd_intg .u8 x158.2.2.2)))) hx211) ?_
         rintro w212 ⟨vs214, hf215, hS213⟩
         have hS213 : St _ _ w212 [poolE ([]) w0, rowE .u8 5 A28 c29 l27, rowG 36 4 (.slice A53 l57.length c54) l57.length vs214, boxE w72.heap.size [.int .i64 x158.1, .int .i64 (IntKind.i64.wrap (x58 + 1)), .int .u8 x158.2.2.1, .int .u8 x158.2.2.2] 36] := hS213
         refine gx_nil ?_
         refine gx_thenN ?_
         refine hK188 _ _ ?_
         refine gx_exit ?_
         refine gx_thenE ?_
         refine gx_blkE ?_
         refine gx_thenN ?_
         refine hK67 _ _ ?_
         refine gx_region ?_
         refine gx_k (.int .i64 x58) w212 (gx_k (.int .i64 (IntKind.i64.wrap (x58 + 1))) w212 (gx_k (.int .i64 (IntKind.i64.wrap (x58 + 1))) w212 ?_))
         refine gx_nil ?_
         refine gx_thenN ?_
         have hS216 : St _ _ w212 [poolE ([]) w0, rowE .u8 5 A28 c29 l27, rowG 36 4 (.slice A53 l210.length c54) l210.length vs214, boxE w72.heap.size [.int .i64 x158.1, .int .i64 (IntKind.i64.wrap (x58 + 1)), .int .u8 x158.2.2.1, .int .u8 x158.2.2.2] 36] := hS213.len (e := enccalamusref14Run) 2 rfl (setg_len hx211).symm
         exact ⟨k59, Nat.lt_succ_self k59, l210, (IntKind.i64.wrap (x58 + 1)), A53, c54, vs214, selfA_i (by rw [← (setg_len hx211).symm] <;> kernel_rfl), hO78, (hS216.pick [0, 1, 2] rfl rfl), hf215⟩
        | false =>
         try dsimp only at hO78
         refine gx_no (by kernel_rfl) ?_
         refine gx_pass ?_
         refine gx_thenN ?_
         refine hK71 _ _ ?_
         refine gd_start (fun w => St [] w0 w [poolE ([]) w0, rowE .u8 5 A28 c29 l27]) 16 #[false, false, false, false, false, false, false, false, false, false, false, false, false, false, false, false] (by kernel_rfl) (by kernel_rfl) ?_
         have hS218 := hS73.drew
         generalize w72.drew = w217 at hS218 ⊢
         refine gv1 0 79 (.slice A53 l57.length c54) rfl (hS218.pick [0, 1] rfl rfl) ?_
         refine gv1 1 80 (.int .i64 x58) rfl (hS218.pick [0, 1] rfl rfl) ?_
         refine gv1 2 81 (.int .i64 x58) rfl (hS218.pick [0, 1] rfl rfl) ?_
         refine gv1 3 82 (.int .i64 (IntKind.i64.wrap (x58 + 1))) rfl (hS218.pick [0, 1] rfl rfl) ?_
         refine gv1 4 83 (.slice A1 p1.length c1) rfl (hS218.pick [0, 1] rfl rfl) ?_
         refine gv1 5 84 (.int .i64 x58) rfl (hS218.pick [0, 1] rfl rfl) ?_
         obtain ⟨x219, hx220, hO78⟩ := bind_in hO78
         refine gu1 6 85 (.pointer (Option.map (fun (p : Addr) => p.add (Int.toNat x58 * 1)) A1)) rfl (hS218.pick [0, 1] rfl rfl) (fun w hSw => run_ixaddr (E := 5) (s := 1) (k := .i64) (c := c1) rfl (by kernel_rfl) (by kernel_rfl) (by kernel_rfl) (fun _ => by kernel_rfl) (ix_in hx220).1 (ix_in hx220).2.1 (num_nil (hS218.view hv1))) ?_
         refine gu1 7 86 (.int .u8 x219) rfl (hS218.pick [0, 1] rfl rfl) (fun w hSw => run_loadix rfl (by kernel_rfl) (fun _ => by kernel_rfl) (hSw.view hv1) hx220) ?_
         refine gv1 8 87 (.slice A28 l27.length c29) rfl (hS218.pick [0, 1] rfl rfl) ?_
         refine gv1 9 88 (.int .i64 x58) rfl (hS218.pick [0, 1] rfl rfl) ?_
         obtain ⟨x221, hx222, hO78⟩ := bind_in hO78
         refine gu1 10 89 (.pointer (Option.map (fun (p : Addr) => p.add (Int.toNat x58 * 1)) A28)) rfl (hS218.pick [0, 1] rfl rfl) (fun w hSw => run_ixaddr (E := 5) (s := 1) (k := .i64) (c := c29) rfl (by kernel_rfl) (by kernel_rfl) (by kernel_rfl) (fun _ => by kernel_rfl) (ix_in hx222).1 (ix_in hx222).2.1 (num_nil (hS218.row 1 rfl).1)) ?_
         refine gu1 11 90 (.int .u8 x221) rfl (hS218.pick [0, 1] rfl rfl) (fun w hSw => run_loadix rfl (by kernel_rfl) (fun _ => by kernel_rfl) (hSw.row 1 rfl).1 hx222) ?_
         refine gv1 12 91 (.agg #[.int .i64 x58, .int .i64 (IntKind.i64.wrap (x58 + 1)), .int .u8 x219, .int .u8 x221]) rfl (hS218.pick [0, 1] rfl rfl) ?_
         have hf223 : (fEach enccalamusref14Run [.int .i64 x58, .int .i64 (IntKind.i64.wrap (x58 + 1)), .int .u8 x219, .int .u8 x221] [(x58, (IntKind.i64.wrap (x58 + 1)), x219, x221)]).rd w0 ([]) := (each_cons (rd_pair (rd_intg .i64 x58) (rd_pair (rd_intg .i64 (IntKind.i64.wrap (x58 + 1))) (rd_pair (rd_intg .u8 x219) (rd_intg .u8 x221)))) each_nil)
         refine gdR 13 { dst := some 92, op := _, type := _, pos := _, after := _, guard := _ } rfl (st_madeP (e := enccalamusref14Run) 36 1 [.int .i64 x58, .int .i64 (IntKind.i64.wrap (x58 + 1)), .int .u8 x219, .int .u8 x221] [(x58, (IntKind.i64.wrap (x58 + 1)), x219, x221)] hS218 rfl hf223 (by decide) (by kernel_rfl)) ?_
         rintro _ w224 ⟨rfl, hS225⟩
         have hS225 : St _ _ w224 [poolE ([]) w0, rowE .u8 5 A28 c29 l27, rowG 36 4 (.slice A53 l57.length c54) l57.length vs55, rowG 36 4 (.slice (some ⟨w217.heap.size, 0, none⟩) 1 1) 1 ([.int .i64 x58, .int .i64 (IntKind.i64.wrap (x58 + 1)), .int .u8 x219, .int .u8 x221])] := hS225
         refine ⟨(hS225.pick [0, 1] rfl rfl), ?_⟩
         obtain ⟨l226, ha227, hO78⟩ := bind_in hO78
         refine gdR 14 { dst := some 93, op := _, type := _, pos := _, after := _, guard := _ } rfl (st_appendP (e := enccalamusref14Run) rfl (by kernel_rfl) (by kernel_rfl) hS225 2 rfl rfl (show 1 = ([(x58, (IntKind.i64.wrap (x58 + 1)), x219, x221)] : List (Int × Int × Int × Int)).length from rfl) hf56 hf223 (rowG_lies (e := enccalamusref14Run) (show 1 = ([(x58, (IntKind.i64.wrap (x58 + 1)), x219, x221)] : List (Int × Int × Int × Int)).length from rfl) (hS225.get 3 rfl)) (rowG_spec (e := enccalamusref14Run) (show 1 = ([(x58, (IntKind.i64.wrap (x58 + 1)), x219, x221)] : List (Int × Int × Int × Int)).length from rfl) (hS225.get 3 rfl)).2.2.1 ha227 (by kernel_rfl) (by kernel_rfl) (by decide)) ?_
         rintro _ w232 ⟨A228, c229, vs230, rfl, hf231, hS233⟩
         have hS233 : St _ _ w232 [poolE ([]) w0, rowE .u8 5 A28 c29 l27, rowG 36 4 (.slice A228 l226.length c229) l226.length vs230, rowG 36 4 (.slice (some ⟨w217.heap.size, 0, none⟩) 1 1) 1 ([.int .i64 x58, .int .i64 (IntKind.i64.wrap (x58 + 1)), .int .u8 x219, .int .u8 x221])] := hS233
         refine ⟨(hS233.pick [0, 1] rfl rfl), ?_⟩
         refine gv1 15 7 (.slice A228 l226.length c229) rfl (hS233.pick [0, 1] rfl rfl) ?_
         refine gd_done (by kernel_rfl) ?_
         refine gx_blkN ?_
         refine gx_thenN ?_
         refine hK67 _ _ ?_
         refine gx_region ?_
         refine gx_k (.int .i64 x58) w232 (gx_k (.int .i64 (IntKind.i64.wrap (x58 + 1))) w232 (gx_k (.int .i64 (IntKind.i64.wrap (x58 + 1))) w232 ?_))
         refine gx_nil ?_
         refine gx_thenN ?_
         exact ⟨k59, Nat.lt_succ_self k59, l226, (IntKind.i64.wrap (x58 + 1)), A228, c229, vs230, selfA_i (by kernel_rfl), hO78, (hS233.pick [0, 1, 2] rfl rfl), hf231⟩
      ·refine gx_v (.bool false) w50 (run_boolE (decide_eq_false h65) (by kernel_rfl)) ?_
       refine gx_nil ?_
       refine gx_thenN ?_
       refine hK64 _ _ ?_
       refine gx_no (by kernel_rfl) ?_
       refine gx_exit ?_
       refine gx_thenE ?_
       refine gx_thenE ?_
       refine gx_blkE ?_
       refine gx_thenN ?_
       exact ⟨l57, A53, c54, vs55, selfA_i (by kernel_rfl), (Option.some.inj hL60), (hS51.pick [0, 2] rfl rfl), hf56⟩
   ·rintro _ w35 ⟨l42, A38, c39, vs40, hq239, rfl, hS36, hf41⟩
    obtain ⟨u37, rfl⟩ := selfA_u hq239
    try dsimp only at hO45
    refine gx_seq (fun K236 hK237 => ?_)
    refine gx_region ?_
    refine gx_k (.slice A38 l42.length c39) w35 (gx_k (.slice A38 l42.length c39) w35 (gx_k (.int .i64 0) w35 ?_))
    refine gx_nil ?_
    refine gx_thenN ?_
    refine hK237 _ _ ?_
    refine gx_ret ?_
    have hS238 : St _ _ w35 [poolE ([]) w35, rowG 36 4 (.slice A38 l42.length c39) l42.length vs40] := hS36.renew 0 rfl
    obtain rfl := Option.some.inj hO45
    exact gx_fin (.tuple #[.slice A38 l42.length c39, .int .i64 0]) (by kernel_rfl) (by kernel_rfl) ⟨_, rfl, A38, c39, vs40, ([]), rfl, (hS238.pick [1, 0] rfl rfl), (hS36.now 0 rfl hf41)⟩
end Go.Proofs.YtkcmemldhbifdaaDoor
