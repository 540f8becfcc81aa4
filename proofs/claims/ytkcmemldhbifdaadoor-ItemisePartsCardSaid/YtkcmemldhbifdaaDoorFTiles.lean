/-
  ItemiseTiles, walked.
-/
import Derived.Test.YtkcmemldhbifdaaDoorF0
import Derived.Test.YtkcmemldhbifdaaDoorR0
namespace Go.Proofs.YtkcmemldhbifdaaDoor
open Go Go.RowKit
set_option linter.unusedVariables false
def fTiles_L1 (N : Nat) (p0 : List Int) (p1 : List Int) : Nat → (List Int) → Int → Option (List Int)
 | 0, _, _ => none
 | k40+1, l38, x39 => (if x39 < ((p0.length : Nat) : Int) then (if x39 < ((p1.length : Nat) : Int) then ((ix p1 x39).bind fun x50 => ((ix l38 x39).bind fun _x52 => ((setx l38 x39 x50).bind fun l56 => fTiles_L1 N p0 p1 k40 l56 (IntKind.i64.wrap (x39 + 1))))) else some (l38)) else some (l38))
def fTiles_L3 (N : Nat) (p0 : List Int) (l28 : List Int) (l63 : List (Int × Int × Int × Int)) (l85 : List Int) (x120 : Int) : Nat → Int → Option (Ctl (Unit) (Bool))
 | 0, _ => none
 | k233+1, x232 => ((ixg l63 x120).bind fun x239 => (if x232 < x239.2.1 then ((ix p0 x232).bind fun x265 => ((rfSc N x265).bind fun x269 => ((((ix l28 x232).bind fun x283 => ((ixg l63 x120).bind fun x285 => (((if x283 ≠ x285.2.2.1 then some (true) else ((ix l85 x232).bind fun x316 => ((ixg l63 x120).bind fun x318 => (if x316 ≠ x318.2.2.2 then some (true) else some (false))))) : Option (Bool)).bind fun b309 => (((match b309 with | true => some (true) | false => (((if x269 > 1 then ((ix l85 x232).bind fun x359 => (if x269 ≠ x359 then some (true) else some (false))) else some (false)) : Option (Bool)).bind fun b352 => some (b352))) : Option (Bool)).bind fun b343 => (match b343 with | true => some (Ctl.ret false) | false => ((ix p0 x232).bind fun x364 => ((rfCl N x364).bind fun x368 => (if x368 = 11 then ((ixg l63 x120).bind fun x373 => (if x232 ≠ (IntKind.i64.wrap (x373.2.1 - 1)) then some (Ctl.ret false) else some (Ctl.go ()))) else some (Ctl.go ()))))))))) : Option (Ctl (Unit) (Bool))).bind fun | Ctl.go () => (((if x269 = 1 then (if x232 > 0 then some (true) else some (false)) else some (false)) : Option (Bool)).bind fun b404 => (((match b404 with | true => ((ix p0 (IntKind.i64.wrap (x232 - 1))).bind fun x421 => ((rfCl N x421).bind fun x425 => (if x425 ≠ 11 then some (true) else some (false)))) | false => some (false)) : Option (Bool)).bind fun b415 => (match b415 with | true => ((ix l85 x232).bind fun x430 => ((ix l85 (IntKind.i64.wrap (x232 - 1))).bind fun x432 => (if x430 ≠ x432 then some (Ctl.ret false) else fTiles_L3 N p0 l28 l63 l85 x120 k233 (IntKind.i64.wrap (x232 + 1))))) | false => fTiles_L3 N p0 l28 l63 l85 x120 k233 (IntKind.i64.wrap (x232 + 1))))) | Ctl.ret r => some (Ctl.ret r)))) else some (Ctl.go ())))
def fTiles_L2 (N : Nat) (p0 : List Int) (l28 : List Int) (l63 : List (Int × Int × Int × Int)) (l85 : List Int) : Nat → Int → Int → Option (Ctl (Int) (Bool))
 | 0, _, _ => none
 | k121+1, x119, x120 => (if x120 < ((l63.length : Nat) : Int) then ((((((ixg l63 x120).bind fun x143 => (((if x143.1 ≠ x119 then some (true) else ((ixg l63 x120).bind fun x173 => (if x173.2.1 ≤ x119 then some (true) else some (false)))) : Option (Bool)).bind fun b167 => (match b167 with | true => some (Ctl.ret false) | false => ((ixg l63 x120).bind fun x197 => (if x197.2.1 > ((p0.length : Nat) : Int) then some (Ctl.ret false) else some (Ctl.go ())))))) : Option (Ctl (Unit) (Bool))).bind fun | Ctl.go () => ((fTiles_L3 N p0 l28 l63 l85 x120 N x119 : Option (Ctl (Unit) (Bool))).bind fun | Ctl.go () => ((ixg l63 x120).bind fun x441 => (((if x120 > 0 then ((ixg l63 (IntKind.i64.wrap (x120 - 1))).bind fun x476 => ((ixg l63 x120).bind fun x497 => (if x476.2.2.1 = x497.2.2.1 then some (true) else some (false)))) else some (false)) : Option (Bool)).bind fun b469 => (((match b469 with | true => ((ixg l63 (IntKind.i64.wrap (x120 - 1))).bind fun x528 => ((ixg l63 x120).bind fun x549 => (if x528.2.2.2 = x549.2.2.2 then some (true) else some (false)))) | false => some (false)) : Option (Bool)).bind fun b522 => (match b522 with | true => ((ixg l63 x120).bind fun x571 => ((ix p0 (IntKind.i64.wrap (x571.1 - 1))).bind fun x592 => ((rfCl N x592).bind fun x596 => (if x596 ≠ 11 then some (Ctl.ret false) else some (Ctl.go x441.2.1))))) | false => some (Ctl.go x441.2.1))))) | Ctl.ret r => some (Ctl.ret r)) | Ctl.ret r => some (Ctl.ret r)) : Option (Ctl (Int) (Bool))).bind fun | Ctl.go x131 => fTiles_L2 N p0 l28 l63 l85 k121 x131 (IntKind.i64.wrap (x120 + 1)) | Ctl.ret r => some (Ctl.ret r)) else some (Ctl.go x119))
def fTiles (N : Nat) (p0 : List Int) (p1 : List Int) : Option (Bool) :=
 (if ((p0.length : Nat) : Int) > 300 then ((kWorks N ).bind fun b12 => some b12) else ((mkx ((p0.length : Nat) : Int)).bind fun l18 => ((fTiles_L1 N p0 p1 N l18 0 : Option (List Int)).bind fun l28 => ((pRuns N p0 l28).bind fun (l63, x68) => ((pScripts N p0).bind fun l85 => (((if x68 ≠ 0 then some (Ctl.ret false) else (if ((l85.length : Nat) : Int) ≠ ((p0.length : Nat) : Int) then some (Ctl.ret false) else some (Ctl.go ()))) : Option (Ctl (Unit) (Bool))).bind fun | Ctl.go () => ((fTiles_L2 N p0 l28 l63 l85 N 0 0 : Option (Ctl (Int) (Bool))).bind fun | Ctl.go x110 => (if x110 = ((p0.length : Nat) : Int) then ((kWorks N ).bind fun b612 => some b612) else some false) | Ctl.ret r => some r) | Ctl.ret r => some r))))))
set_option linter.unusedVariables false in
def fTiles_R (r : Bool) (w0 : World) (v : Value) (w : World) : Prop := v = .bool r ∧ St [] w0 w []
set_option maxRecDepth 100000 in
set_option maxHeartbeats 4000000 in
theorem fTiles_ok (N : Nat) (p0 : List Int) (p1 : List Int) (A0 : Option Addr) (c0 : Nat) (A1 : Option Addr) (c1 : Nat) (r : Bool) (hF : fTiles N p0 p1 = some r) (w0 : World) (hv0 : Vw [] .i32 w0 A0 c0 p0) (hv1 : Vw [] .u8 w0 A1 c1 p1) (hcd : MirB [] w0) :
  Calls Tryd.prog 5 #[.slice A0 p0.length c0, .slice A1 p1.length c1] w0 fun e w => ∃ v, e = .returned v ∧ fTiles_R r w0 v w := by
 have hS0 := (St.start w0).pool0
 unfold fTiles at hF
 refine calls_of Tryd.func5 rfl ⟨((.slice A0 p0.length c0) :: (.slice A1 p1.length c1) :: un 236 ([])).toArray, []⟩ (by as_aux_lemma => kernel_rfl) ?_
 refine gx_seq (fun K1 hK2 => ?_)
 refine gx_region ?_
 refine gx_kA (.bool false) w0 ?_
 refine gx_nil ?_
 refine gx_thenN ?_
 refine hK2 _ _ ?_
 refine gx_seq (fun K3 hK4 => ?_)
 refine gx_seq (fun K5 hK6 => ?_)
 refine gx_region ?_
 refine gx_kA (.slice A0 p0.length c0) w0 (gx_kA (.int .i64 ((p0.length : Nat) : Int)) w0 ?_)
 rcases if_in hF with ⟨h7, hF⟩ | ⟨h7, hF⟩
 ·refine gx_vA (.bool true) w0 (run_boolE (decide_eq_true h7) (by as_aux_lemma => kernel_rfl)) ?_
  refine gx_nil ?_
  refine gx_thenN ?_
  refine hK6 _ _ ?_
  refine gx_yes (by as_aux_lemma => kernel_rfl) ?_
  refine gx_seq (fun K8 hK9 => ?_)
  refine gx_region ?_
  have hP10 : St _ _ w0 ([] ++ [poolE ([]) w0]) := hS0
  obtain ⟨b12, hc11, hF⟩ := bind_in hF
  try dsimp only at hF
  refine gx_cA (kWorks_R b12 w0) (kWorks_ok N  _ hc11 w0 (MirB.atL hcd hP10)) ?_
  rintro _ w13 ⟨rfl, hT15⟩
  have hS14 : St _ _ w13 [poolE ([]) w0] := hS0.take _ hT15
  refine gx_kA (.bool b12) w13 ?_
  refine gx_nil ?_
  refine gx_thenN ?_
  refine hK9 _ _ ?_
  refine gx_ret ?_
  refine gx_thenR ?_
  obtain rfl := Option.some.inj hF
  exact gx_fin (.bool b12) (by as_aux_lemma => kernel_rfl) (by as_aux_lemma => kernel_rfl) ⟨_, rfl, rfl, (hS14.pick [] rfl rfl)⟩
 ·refine gx_vA (.bool false) w0 (run_boolE (decide_eq_false h7) (by as_aux_lemma => kernel_rfl)) ?_
  refine gx_nil ?_
  refine gx_thenN ?_
  refine hK6 _ _ ?_
  refine gx_no (by as_aux_lemma => kernel_rfl) ?_
  refine gx_pass ?_
  refine gx_thenN ?_
  refine hK4 _ _ ?_
  refine gx_seq (fun K16 hK17 => ?_)
  refine gx_region ?_
  refine gx_kA (.slice A0 p0.length c0) w0 (gx_kA (.int .i64 ((p0.length : Nat) : Int)) w0 ?_)
  obtain ⟨l18, hm19, hF⟩ := bind_in hF
  refine gx_rA (st_make (T := 5) (k := .u8) (by_ := 1) rfl (by as_aux_lemma => kernel_rfl) (by as_aux_lemma => kernel_rfl) (by as_aux_lemma => kernel_rfl) (by as_aux_lemma => kernel_rfl) (by as_aux_lemma => kernel_rfl) hS0 hm19) ?_
  rintro _ w20 ⟨A22, c23, rfl, hS21⟩
  have hS21 : St _ _ w20 [poolE ([]) w0, rowE .u8 5 A22 c23 l18] := hS21
  refine gx_kA (.slice A22 l18.length c23) w20 ?_
  refine gx_nil ?_
  refine gx_thenN ?_
  refine hK17 _ _ ?_
  obtain ⟨c29, hE30, hO31⟩ := bind_in hF
  refine gx_cut (fun a w => ∃ (l28 : List Int), selfA (fun u26 => ⟨((.slice A0 p0.length c0) :: (u26 1) :: undef :: undef :: (.bool false) :: (.slice A22 l18.length c23) :: (u26 6) :: un 7 ((u26 14) :: (.int .i64 ((p0.length : Nat) : Int)) :: (.bool false) :: undef :: (u26 18) :: (.int .i64 ((p0.length : Nat) : Int)) :: dd u26 20 20 (un 198 ([])))).toArray, []⟩) a ∧ l28 = c29 ∧ St [] w0 w [poolE ([]) w0, rowE .u8 5 A22 c23 l28] ∧ l18.length = l28.length) ?_ ?_
  ·refine gx_seq (fun K32 hK33 => ?_)
   refine gx_region ?_
   refine gx_kA (.int .i64 0) w20 ?_
   refine gx_nil ?_
   refine gx_thenN ?_
   refine hK33 _ _ ?_
   refine gx_block ?_
   refine gx_loop (fun k a w => ∃ (l38 : List Int) (x39 : Int), selfA (fun u36 => ⟨((.slice A0 p0.length c0) :: (.slice A1 p1.length c1) :: undef :: undef :: (.bool false) :: (.slice A22 l18.length c23) :: (.int .i64 x39) :: un 7 ((u36 14) :: (.int .i64 ((p0.length : Nat) : Int)) :: (.bool false) :: undef :: (u36 18) :: (.int .i64 ((p0.length : Nat) : Int)) :: dd u36 20 20 (un 198 ([])))).toArray, []⟩) a ∧ fTiles_L1 N p0 p1 k l38 x39 = some c29 ∧ St [] w0 w [poolE ([]) w0, rowE .u8 5 A22 c23 l38] ∧ l18.length = l38.length) N ?_ ?_
   ·exact ⟨l18, 0, selfA_i (by as_aux_lemma => kernel_rfl), hE30, hS21, rfl⟩
   ·rintro k40 _ w34 ⟨l38, x39, hq58, hL41, hS35, hn37⟩
    obtain ⟨u36, rfl⟩ := selfA_u hq58
    cases k40 with
    | zero => cases hL41
    | succ k40 =>
     first | rw [fTiles_L1] at hL41 | unfold fTiles_L1 at hL41
     refine gx_seq (fun K42 hK43 => ?_)
     refine gx_seq (fun K44 hK45 => ?_)
     refine gx_region ?_
     refine gx_kA (.int .i64 x39) w34 (gx_kA (.slice A0 p0.length c0) w34 (gx_kA (.int .i64 ((p0.length : Nat) : Int)) w34 ?_))
     rcases if_in hL41 with ⟨h46, hL41⟩ | ⟨h46, hL41⟩
     ·refine gx_vA (.bool true) w34 (run_boolE (decide_eq_true h46) (by as_aux_lemma => kernel_rfl)) ?_
      refine gx_kA (.bool true) w34 (gx_kA (.int .i64 x39) w34 (gx_kA (.slice A1 p1.length c1) w34 (gx_kA (.int .i64 ((p1.length : Nat) : Int)) w34 ?_)))
      rcases if_in hL41 with ⟨h47, hL41⟩ | ⟨h47, hL41⟩
      ·refine gx_vA (.bool true) w34 (run_boolE (decide_eq_true h47) (by as_aux_lemma => kernel_rfl)) ?_
       refine gx_kA (.bool true) w34 ?_
       refine gx_nil ?_
       refine gx_thenN ?_
       refine hK45 _ _ ?_
       refine gx_yes (by as_aux_lemma => kernel_rfl) ?_
       refine gx_pass ?_
       refine gx_thenN ?_
       refine hK43 _ _ ?_
       refine gx_seq (fun K48 hK49 => ?_)
       refine gx_block ?_
       refine gx_region ?_
       refine gx_kA (.slice A22 l18.length c23) w34 (gx_kA (.int .i64 x39) w34 (gx_kA (.slice A1 p1.length c1) w34 (gx_kA (.int .i64 x39) w34 ?_)))
       obtain ⟨x50, hx51, hL41⟩ := bind_in hL41
       refine gx_vA (.pointer (Option.map (fun (p : Addr) => p.add (Int.toNat x39 * 1)) A1)) w34 (run_ixaddr (E := 5) (s := 1) (k := .i64) (c := c1) rfl (by as_aux_lemma => kernel_rfl) (by as_aux_lemma => kernel_rfl) (by as_aux_lemma => kernel_rfl) (fun _ => by kernel_rfl) (ix_in hx51).1 (ix_in hx51).2.1 (num_nil (hS35.view hv1))) ?_
       refine gx_vA (.int .u8 x50) w34 (run_loadix rfl (by as_aux_lemma => kernel_rfl) (fun _ => by kernel_rfl) (hS35.view hv1) hx51) ?_
       obtain ⟨x52, hx53, hL41⟩ := bind_in hL41
       refine gx_vA (.pointer (Option.map (fun (p : Addr) => p.add (Int.toNat x39 * 1)) A22)) w34 (run_ixaddr (E := 5) (s := 1) (k := .i64) (c := c23) rfl (by as_aux_lemma => kernel_rfl) (by as_aux_lemma => kernel_rfl) (by as_aux_lemma => kernel_rfl) (fun _ => by kernel_rfl) (ix_in hx53).1 (lt_len hn37 (ix_in hx53).2.1) (nil_len hn37 (num_nil (hS35.row 1 rfl).1))) ?_
       obtain ⟨l56, hx57, hL41⟩ := bind_in hL41
       refine gx_sA (st_storeix rfl (by as_aux_lemma => kernel_rfl) (by as_aux_lemma => kernel_rfl) (fun _ => by kernel_rfl) hS35 1 rfl hx57) ?_
       rintro w54 hS55
       have hS55 : St _ _ w54 [poolE ([]) w0, rowE .u8 5 A22 c23 l56] := hS55
       refine gx_nil ?_
       refine gx_blkN ?_
       refine gx_thenN ?_
       refine hK49 _ _ ?_
       refine gx_region ?_
       refine gx_kA (.int .i64 x39) w54 (gx_kA (.int .i64 (IntKind.i64.wrap (x39 + 1))) w54 (gx_kA (.int .i64 (IntKind.i64.wrap (x39 + 1))) w54 ?_))
       refine gx_nil ?_
       refine gx_thenN ?_
       exact ⟨k40, Nat.lt_succ_self k40, l56, (IntKind.i64.wrap (x39 + 1)), selfA_i (by as_aux_lemma => kernel_rfl), hL41, hS55, (hn37.trans (setx_len hx57).symm)⟩
      ·refine gx_vA (.bool false) w34 (run_boolE (decide_eq_false h47) (by as_aux_lemma => kernel_rfl)) ?_
       refine gx_kA (.bool false) w34 ?_
       refine gx_nil ?_
       refine gx_thenN ?_
       refine hK45 _ _ ?_
       refine gx_no (by as_aux_lemma => kernel_rfl) ?_
       refine gx_exit ?_
       refine gx_thenE ?_
       refine gx_thenE ?_
       refine gx_blkE ?_
       refine gx_thenN ?_
       exact ⟨l38, selfA_i (by as_aux_lemma => kernel_rfl), (Option.some.inj hL41), hS35, hn37⟩
     ·refine gx_vA (.bool false) w34 (run_boolE (decide_eq_false h46) (by as_aux_lemma => kernel_rfl)) ?_
      refine gx_kA (.bool false) w34 (gx_oA (gx_oA (gx_oA (gx_oA (gx_kA (.bool false) w34 ?_)))))
      refine gx_nil ?_
      refine gx_thenN ?_
      refine hK45 _ _ ?_
      refine gx_no (by as_aux_lemma => kernel_rfl) ?_
      refine gx_exit ?_
      refine gx_thenE ?_
      refine gx_thenE ?_
      refine gx_blkE ?_
      refine gx_thenN ?_
      exact ⟨l38, selfA_i (by as_aux_lemma => kernel_rfl), (Option.some.inj hL41), hS35, hn37⟩
  ·rintro _ w24 ⟨l28, hq618, rfl, hS25, hn27⟩
   obtain ⟨u26, rfl⟩ := selfA_u hq618
   try dsimp only at hO31
   refine gx_seq (fun K59 hK60 => ?_)
   refine gx_region ?_
   refine gx_kA (.slice A0 p0.length c0) w24 (gx_kA (.slice A22 l18.length c23) w24 ?_)
   have hP61 : St _ _ w24 ([] ++ [poolE ([]) w0, rowE .u8 5 A22 c23 l28]) := hS25
   obtain ⟨⟨l63, x68⟩, hc62, hO31⟩ := bind_in hO31
   try dsimp only at hO31
   refine gx_call (pRuns_R (l63, x68) w24) (by as_aux_lemma => kernel_rfl) (by rw [← hn27] <;> kernel_rfl) (pRuns_ok N p0 l28 A0 c0 A22 c23 _ hc62 w24 (hP61.vwA hv0) (hP61.vwB 1 rfl) (MirB.atL hcd hP61)) ?_
   rintro _ w70 ⟨A64, c65, vs66, ft69, rfl, hT72, hf67⟩
   have hS71 : St _ _ w70 [poolE ([]) w0, rowE .u8 5 A22 c23 l28, rowG 35 4 (.slice A64 l63.length c65) l63.length vs66, poolE ft69 w70] := hS25.take _ hT72
   obtain ⟨ft73, W74, hS75, hT76, hU77⟩ := hS71.merge 3 0 rfl rfl (by decide)
   have hS75 : St _ _ w70 [poolE ft73 W74, rowE .u8 5 A22 c23 l28, rowG 35 4 (.slice A64 l63.length c65) l63.length vs66] := hS75
   have hT76 : Turn [] w0 w0 ([]) W74 ft73 := hT76
   have hf80 : (fEach encitemiseRun vs66 l63).rd W74 ft73 := hU77 _ hf67
   refine gx_kA (.tuple #[.slice A64 l63.length c65, .int .i64 x68]) w70 (gx_kA (.slice A64 l63.length c65) w70 (gx_kA (.int .i64 x68) w70 (gx_kA (.slice A64 l63.length c65) w70 (gx_kA (.int .i64 x68) w70 ?_))))
   refine gx_nil ?_
   refine gx_thenN ?_
   refine hK60 _ _ ?_
   refine gx_seq (fun K81 hK82 => ?_)
   refine gx_region ?_
   refine gx_kA (.slice A0 p0.length c0) w70 ?_
   have hP83 : St _ _ w70 ([] ++ [poolE ft73 W74, rowE .u8 5 A22 c23 l28, rowG 35 4 (.slice A64 l63.length c65) l63.length vs66]) := hS75
   obtain ⟨l85, hc84, hO31⟩ := bind_in hO31
   try dsimp only at hO31
   refine gx_cA (pScripts_R l85 w70) (pScripts_ok N p0 A0 c0 _ hc84 w70 (hP83.vwA hv0) (MirB.atL hcd hP83)) ?_
   rintro _ w88 ⟨A86, c87, rfl, hT90⟩
   have hS89 : St _ _ w88 [poolE ft73 W74, rowE .u8 5 A22 c23 l28, rowG 35 4 (.slice A64 l63.length c65) l63.length vs66, rowE .u8 5 A86 c87 l85] := hS75.take _ hT90
   refine gx_kA (.slice A86 l85.length c87) w88 ?_
   refine gx_nil ?_
   refine gx_thenN ?_
   refine hK82 _ _ ?_
   obtain ⟨c94, hE95, hO96⟩ := bind_in hO31
   refine gx_cut (fun a w => selfA (fun u93 => ⟨((.slice A0 p0.length c0) :: (u26 1) :: undef :: undef :: (u93 4) :: (.slice A22 l18.length c23) :: (u26 6) :: (.slice A64 l63.length c65) :: (.int .i64 x68) :: (.slice A86 l85.length c87) :: un 4 ((u26 14) :: (.int .i64 ((p0.length : Nat) : Int)) :: (.bool false) :: undef :: (u26 18) :: (.int .i64 ((p0.length : Nat) : Int)) :: dd u26 20 20 (dd u93 40 5 ((.int .i64 x68) :: dd u93 46 11 (un 181 ([])))))).toArray, []⟩) a ∧ Ctl.go () = c94 ∧ St [] w0 w [poolE ft73 W74, rowE .u8 5 A22 c23 l28, rowG 35 4 (.slice A64 l63.length c65) l63.length vs66, rowE .u8 5 A86 c87 l85]) ?_ ?_
   ·refine gx_seq (fun K97 hK98 => ?_)
    refine gx_region ?_
    refine gx_kA (.int .i64 x68) w88 ?_
    rcases if_in hE95 with ⟨h99, hE95⟩ | ⟨h99, hE95⟩
    ·refine gx_vA (.bool true) w88 (run_boolE (ne_yes h99) (by as_aux_lemma => kernel_rfl)) ?_
     refine gx_kA (.bool true) w88 (gx_oA (gx_oA (gx_oA (gx_oA (gx_oA (gx_kA (.bool true) w88 ?_))))))
     refine gx_nil ?_
     refine gx_thenN ?_
     refine hK98 _ _ ?_
     refine gx_yes (by as_aux_lemma => kernel_rfl) ?_
     refine gx_seq (fun K100 hK101 => ?_)
     refine gx_region ?_
     refine gx_kA (.bool false) w88 ?_
     refine gx_nil ?_
     refine gx_thenN ?_
     refine hK101 _ _ ?_
     refine gx_ret ?_
     refine gx_thenR ?_
     obtain rfl := Option.some.inj hE95
     try dsimp only at hO96
     obtain rfl := Option.some.inj hO96
     exact gx_fin (.bool false) (by as_aux_lemma => kernel_rfl) (by as_aux_lemma => kernel_rfl) ⟨_, rfl, rfl, (hS89.pick [] rfl rfl)⟩
    ·refine gx_vA (.bool false) w88 (run_boolE (ne_no h99) (by as_aux_lemma => kernel_rfl)) ?_
     refine gx_kA (.bool false) w88 (gx_kA (.slice A86 l85.length c87) w88 (gx_kA (.int .i64 ((l85.length : Nat) : Int)) w88 (gx_kA (.slice A0 p0.length c0) w88 (gx_kA (.int .i64 ((p0.length : Nat) : Int)) w88 ?_))))
     rcases if_in hE95 with ⟨h102, hE95⟩ | ⟨h102, hE95⟩
     ·refine gx_vA (.bool true) w88 (run_boolE (ne_yes h102) (by as_aux_lemma => kernel_rfl)) ?_
      refine gx_kA (.bool true) w88 ?_
      refine gx_nil ?_
      refine gx_thenN ?_
      refine hK98 _ _ ?_
      refine gx_yes (by as_aux_lemma => kernel_rfl) ?_
      refine gx_seq (fun K103 hK104 => ?_)
      refine gx_region ?_
      refine gx_kA (.bool false) w88 ?_
      refine gx_nil ?_
      refine gx_thenN ?_
      refine hK104 _ _ ?_
      refine gx_ret ?_
      refine gx_thenR ?_
      obtain rfl := Option.some.inj hE95
      try dsimp only at hO96
      obtain rfl := Option.some.inj hO96
      exact gx_fin (.bool false) (by as_aux_lemma => kernel_rfl) (by as_aux_lemma => kernel_rfl) ⟨_, rfl, rfl, (hS89.pick [] rfl rfl)⟩
     ·refine gx_vA (.bool false) w88 (run_boolE (ne_no h102) (by as_aux_lemma => kernel_rfl)) ?_
      refine gx_kA (.bool false) w88 ?_
      refine gx_nil ?_
      refine gx_thenN ?_
      refine hK98 _ _ ?_
      refine gx_no (by as_aux_lemma => kernel_rfl) ?_
      refine gx_pass ?_
      refine gx_thenN ?_
      exact ⟨selfA_i (by as_aux_lemma => kernel_rfl), (Option.some.inj hE95), hS89⟩
   ·rintro _ w91 ⟨hq617, rfl, hS92⟩
    obtain ⟨u93, rfl⟩ := selfA_u hq617
    try dsimp only at hO96
    refine gx_seq (fun K105 hK106 => ?_)
    refine gx_region ?_
    refine gx_kA (.int .i64 0) w91 ?_
    refine gx_nil ?_
    refine gx_thenN ?_
    refine hK106 _ _ ?_
    obtain ⟨c111, hE112, hO113⟩ := bind_in hO96
    refine gx_cut (fun a w => ∃ (x110 : Int), selfA (fun u109 => ⟨((.slice A0 p0.length c0) :: (u26 1) :: undef :: undef :: dd u109 4 2 ((u26 6) :: (u109 7) :: (.int .i64 x68) :: (u109 9) :: (.int .i64 x110) :: dd u109 11 3 ((u26 14) :: (.int .i64 ((p0.length : Nat) : Int)) :: (.bool false) :: undef :: (u26 18) :: (.int .i64 ((p0.length : Nat) : Int)) :: dd u26 20 20 (dd u93 40 5 ((.int .i64 x68) :: dd u93 46 11 (dd u109 57 174 (un 7 ([])))))))).toArray, []⟩) a ∧ Ctl.go x110 = c111 ∧ St [] w0 w [poolE ft73 W74]) ?_ ?_
    ·refine gx_seq (fun K114 hK115 => ?_)
     refine gx_region ?_
     refine gx_kA (.int .i64 0) w91 ?_
     refine gx_nil ?_
     refine gx_thenN ?_
     refine hK115 _ _ ?_
     refine gx_block ?_
     refine gx_loop (fun k a w => ∃ (x119 : Int) (x120 : Int), selfA (fun u118 => ⟨((.slice A0 p0.length c0) :: (u26 1) :: undef :: undef :: (u118 4) :: (.slice A22 l18.length c23) :: (u26 6) :: (.slice A64 l63.length c65) :: (.int .i64 x68) :: (.slice A86 l85.length c87) :: (.int .i64 x119) :: (.int .i64 x120) :: dd u118 12 2 ((u26 14) :: (.int .i64 ((p0.length : Nat) : Int)) :: (.bool false) :: undef :: (u26 18) :: (.int .i64 ((p0.length : Nat) : Int)) :: dd u26 20 20 (dd u93 40 5 ((.int .i64 x68) :: dd u93 46 11 (dd u118 57 174 (un 7 ([]))))))).toArray, []⟩) a ∧ fTiles_L2 N p0 l28 l63 l85 k x119 x120 = some c111 ∧ St [] w0 w [poolE ft73 W74, rowE .u8 5 A22 c23 l28, rowG 35 4 (.slice A64 l63.length c65) l63.length vs66, rowE .u8 5 A86 c87 l85]) N ?_ ?_
     ·exact ⟨0, 0, selfA_i (by as_aux_lemma => kernel_rfl), hE112, hS92⟩
     ·rintro k121 _ w116 ⟨x119, x120, hq606, hL122, hS117⟩
      obtain ⟨u118, rfl⟩ := selfA_u hq606
      cases k121 with
      | zero => cases hL122
      | succ k121 =>
       first | rw [fTiles_L2] at hL122 | unfold fTiles_L2 at hL122
       refine gx_seq (fun K123 hK124 => ?_)
       refine gx_seq (fun K125 hK126 => ?_)
       refine gx_region ?_
       refine gx_kA (.int .i64 x120) w116 (gx_kA (.slice A64 l63.length c65) w116 (gx_kA (.int .i64 ((l63.length : Nat) : Int)) w116 ?_))
       rcases if_in hL122 with ⟨h127, hL122⟩ | ⟨h127, hL122⟩
       ·refine gx_vA (.bool true) w116 (run_boolE (decide_eq_true h127) (by as_aux_lemma => kernel_rfl)) ?_
        refine gx_nil ?_
        refine gx_thenN ?_
        refine hK126 _ _ ?_
        refine gx_yes (by as_aux_lemma => kernel_rfl) ?_
        refine gx_pass ?_
        refine gx_thenN ?_
        refine hK124 _ _ ?_
        obtain ⟨c132, hE133, hO134⟩ := bind_in hL122
        refine gx_cut (fun a w => ∃ (x131 : Int), selfA (fun u130 => ⟨((.slice A0 p0.length c0) :: (u26 1) :: undef :: undef :: (u130 4) :: (.slice A22 l18.length c23) :: (u26 6) :: (.slice A64 l63.length c65) :: (.int .i64 x68) :: (.slice A86 l85.length c87) :: (.int .i64 x131) :: (.int .i64 x120) :: dd u130 12 2 ((u26 14) :: (.int .i64 ((p0.length : Nat) : Int)) :: (.bool false) :: undef :: (u26 18) :: (.int .i64 ((p0.length : Nat) : Int)) :: dd u26 20 20 (dd u93 40 5 ((.int .i64 x68) :: dd u93 46 11 ((.int .i64 x120) :: (u130 58) :: (.int .i64 ((l63.length : Nat) : Int)) :: (.bool true) :: dd u118 61 2 (dd u130 63 168 (un 7 ([])))))))).toArray, []⟩) a ∧ Ctl.go x131 = c132 ∧ St [] w0 w [poolE ft73 W74, rowE .u8 5 A22 c23 l28, rowG 35 4 (.slice A64 l63.length c65) l63.length vs66, rowE .u8 5 A86 c87 l85]) ?_ ?_
        ·refine gx_block ?_
         obtain ⟨c138, hE139, hO140⟩ := bind_in hE133
         refine gx_cut (fun a w => selfA (fun u137 => ⟨((.slice A0 p0.length c0) :: (u26 1) :: undef :: undef :: (u137 4) :: (.slice A22 l18.length c23) :: (u26 6) :: (.slice A64 l63.length c65) :: (.int .i64 x68) :: (.slice A86 l85.length c87) :: (.int .i64 x119) :: (.int .i64 x120) :: dd u118 12 2 ((u26 14) :: (.int .i64 ((p0.length : Nat) : Int)) :: (.bool false) :: undef :: (u26 18) :: (.int .i64 ((p0.length : Nat) : Int)) :: dd u26 20 20 (dd u93 40 5 ((.int .i64 x68) :: dd u93 46 11 ((.int .i64 x120) :: (u137 58) :: (.int .i64 ((l63.length : Nat) : Int)) :: (.bool true) :: dd u118 61 2 (dd u137 63 26 (dd u118 89 142 (un 7 ([]))))))))).toArray, []⟩) a ∧ Ctl.go () = c138 ∧ St [] w0 w [poolE ft73 W74, rowE .u8 5 A22 c23 l28, rowG 35 4 (.slice A64 l63.length c65) l63.length vs66, rowE .u8 5 A86 c87 l85]) ?_ ?_
         ·refine gx_seq (fun K141 hK142 => ?_)
          refine gx_region ?_
          refine gx_kA (.slice A64 l63.length c65) w116 (gx_kA (.int .i64 x120) w116 ?_)
          obtain ⟨x143, hx144, hE139⟩ := bind_in hE139
          obtain ⟨g145, o146, e147, hA148, he149, h150, ha151⟩ := elem_at (e := encitemiseRun) (rowG_lies (e := encitemiseRun) rfl (hS117.get 2 rfl)) hf80 hx144 (by decide)
          obtain ⟨e152, e153, rfl, h154, h155⟩ := h150
          obtain rfl := h154
          obtain ⟨e156, e157, rfl, h158, h159⟩ := h155
          obtain rfl := h158
          obtain ⟨e160, e161, rfl, h162, h163⟩ := h159
          obtain rfl := h162
          obtain rfl := h163
          have ha151 : ∀ w', Lies w' A64 vs66 → w'.rangeAt g145 o146 [.int .i64 x143.1, .int .i64 x143.2.1, .int .u8 x143.2.2.1, .int .u8 x143.2.2.2] := ha151
          refine gx_vA (.pointer (some ⟨g145, o146, none⟩)) w116 (run_ixaddrN (E := 35) (s := 4) (k := .i64) (c := c65) rfl (by as_aux_lemma => kernel_rfl) (by as_aux_lemma => kernel_rfl) (by as_aux_lemma => kernel_rfl) (fun _ => by kernel_rfl) (ixg_in hx144).1 (ixg_in hx144).2.1 hA148) ?_
          refine gx_kA (.pointer (some ⟨g145, o146, none⟩)) w116 ?_
          refine gx_vA (.int .i64 x143.1) w116 (run_loadN1 0 rfl (by as_aux_lemma => kernel_rfl) (fun _ => by kernel_rfl) (ha151 _ (rowG_lies (e := encitemiseRun) rfl (hS117.get 2 rfl))) rfl) ?_
          refine gx_kA (.int .i64 x119) w116 ?_
          obtain ⟨c168, hE169, hO170⟩ := bind_in hE139
          refine gx_part (l1 := [_, _, _, _, _, _, _, _, _, _]) (fun a w => ∃ (b167 : Bool), selfA (fun u166 => ⟨((.slice A0 p0.length c0) :: (u26 1) :: undef :: undef :: (u118 4) :: (.slice A22 l18.length c23) :: (u26 6) :: (.slice A64 l63.length c65) :: (.int .i64 x68) :: (.slice A86 l85.length c87) :: (.int .i64 x119) :: (.int .i64 x120) :: dd u118 12 2 ((u26 14) :: (.int .i64 ((p0.length : Nat) : Int)) :: (.bool false) :: undef :: (u26 18) :: (.int .i64 ((p0.length : Nat) : Int)) :: dd u26 20 20 (dd u93 40 5 ((.int .i64 x68) :: dd u93 46 11 ((.int .i64 x120) :: (u166 58) :: (.int .i64 ((l63.length : Nat) : Int)) :: (.bool true) :: dd u118 61 2 ((u166 63) :: (.int .i64 x120) :: dd u166 65 2 ((.int .i64 x143.1) :: (.int .i64 x119) :: dd u166 69 9 ((.bool b167) :: dd u118 79 152 (un 7 ([])))))))))).toArray, []⟩) a ∧ b167 = c168 ∧ St [] w0 w [poolE ft73 W74, rowE .u8 5 A22 c23 l28, rowG 35 4 (.slice A64 l63.length c65) l63.length vs66, rowE .u8 5 A86 c87 l85]) rfl ?_ ?_
          ·rcases if_in hE169 with ⟨h172, hE169⟩ | ⟨h172, hE169⟩
           ·refine gx_vA (.bool true) w116 (run_boolE (ne_yes h172) (by as_aux_lemma => kernel_rfl)) ?_
            refine gx_kA (.bool true) w116 (gx_oA (gx_oA (gx_oA (gx_oA (gx_oA (gx_oA (gx_oA ?_)))))))
            refine gx_kA (.bool true) w116 ?_
            refine gx_nil ?_
            refine gx_thenN ?_
            exact ⟨true, selfA_i (by as_aux_lemma => kernel_rfl), (Option.some.inj hE169), hS117⟩
           ·refine gx_vA (.bool false) w116 (run_boolE (ne_no h172) (by as_aux_lemma => kernel_rfl)) ?_
            refine gx_kA (.bool false) w116 (gx_kA (.slice A64 l63.length c65) w116 (gx_kA (.int .i64 x120) w116 ?_))
            obtain ⟨x173, hx174, hE169⟩ := bind_in hE169
            obtain ⟨g175, o176, e177, hA178, he179, h180, ha181⟩ := elem_at (e := encitemiseRun) (rowG_lies (e := encitemiseRun) rfl (hS117.get 2 rfl)) hf80 hx174 (by decide)
            obtain ⟨e182, e183, rfl, h184, h185⟩ := h180
            obtain rfl := h184
            obtain ⟨e186, e187, rfl, h188, h189⟩ := h185
            obtain rfl := h188
            obtain ⟨e190, e191, rfl, h192, h193⟩ := h189
            obtain rfl := h192
            obtain rfl := h193
            have ha181 : ∀ w', Lies w' A64 vs66 → w'.rangeAt g175 o176 [.int .i64 x173.1, .int .i64 x173.2.1, .int .u8 x173.2.2.1, .int .u8 x173.2.2.2] := ha181
            refine gx_vA (.pointer (some ⟨g175, o176, none⟩)) w116 (run_ixaddrN (E := 35) (s := 4) (k := .i64) (c := c65) rfl (by as_aux_lemma => kernel_rfl) (by as_aux_lemma => kernel_rfl) (by as_aux_lemma => kernel_rfl) (fun _ => by kernel_rfl) (ixg_in hx174).1 (ixg_in hx174).2.1 hA178) ?_
            refine gx_kA (.pointer (some ⟨g175, o176 + 1, none⟩)) w116 ?_
            refine gx_vA (.int .i64 x173.2.1) w116 (run_loadN1 1 rfl (by as_aux_lemma => kernel_rfl) (fun _ => by kernel_rfl) (ha181 _ (rowG_lies (e := encitemiseRun) rfl (hS117.get 2 rfl))) rfl) ?_
            refine gx_kA (.int .i64 x119) w116 ?_
            rcases if_in hE169 with ⟨h194, hE169⟩ | ⟨h194, hE169⟩
            ·refine gx_vA (.bool true) w116 (run_boolE (decide_eq_true h194) (by as_aux_lemma => kernel_rfl)) ?_
             refine gx_kA (.bool true) w116 ?_
             refine gx_nil ?_
             refine gx_thenN ?_
             exact ⟨true, selfA_i (by as_aux_lemma => kernel_rfl), (Option.some.inj hE169), hS117⟩
            ·refine gx_vA (.bool false) w116 (run_boolE (decide_eq_false h194) (by as_aux_lemma => kernel_rfl)) ?_
             refine gx_kA (.bool false) w116 ?_
             refine gx_nil ?_
             refine gx_thenN ?_
             exact ⟨false, selfA_i (by as_aux_lemma => kernel_rfl), (Option.some.inj hE169), hS117⟩
          ·rintro _ w164 ⟨b167, hq171, rfl, hS165⟩
           obtain ⟨u166, rfl⟩ := selfA_u hq171
           try dsimp only at hO170
           refine gx_kA (.bool b167) w164 ?_
           cases b167 with
           | true =>
            try dsimp only at hO170
            refine gx_oA (gx_oA (gx_oA (gx_oA (gx_oA (gx_oA (gx_oA (gx_oA ?_)))))))
            refine gx_kA (.bool true) w164 ?_
            refine gx_nil ?_
            refine gx_thenN ?_
            refine hK142 _ _ ?_
            refine gx_yes (by as_aux_lemma => kernel_rfl) ?_
            refine gx_seq (fun K195 hK196 => ?_)
            refine gx_region ?_
            refine gx_kA (.bool false) w164 ?_
            refine gx_nil ?_
            refine gx_thenN ?_
            refine hK196 _ _ ?_
            refine gx_ret ?_
            refine gx_thenR ?_
            obtain rfl := Option.some.inj hO170
            try dsimp only at hO140
            refine gx_blkR ?_
            refine gx_thenR ?_
            obtain rfl := Option.some.inj hO140
            try dsimp only at hO134
            refine gx_thenR ?_
            refine gx_blkR ?_
            refine gx_thenR ?_
            obtain rfl := Option.some.inj hO134
            try dsimp only at hO113
            obtain rfl := Option.some.inj hO113
            exact gx_fin (.bool false) (by as_aux_lemma => kernel_rfl) (by as_aux_lemma => kernel_rfl) ⟨_, rfl, rfl, (hS165.pick [] rfl rfl)⟩
           | false =>
            try dsimp only at hO170
            refine gx_kA (.slice A64 l63.length c65) w164 (gx_kA (.int .i64 x120) w164 ?_)
            obtain ⟨x197, hx198, hO170⟩ := bind_in hO170
            obtain ⟨g199, o200, e201, hA202, he203, h204, ha205⟩ := elem_at (e := encitemiseRun) (rowG_lies (e := encitemiseRun) rfl (hS165.get 2 rfl)) hf80 hx198 (by decide)
            obtain ⟨e206, e207, rfl, h208, h209⟩ := h204
            obtain rfl := h208
            obtain ⟨e210, e211, rfl, h212, h213⟩ := h209
            obtain rfl := h212
            obtain ⟨e214, e215, rfl, h216, h217⟩ := h213
            obtain rfl := h216
            obtain rfl := h217
            have ha205 : ∀ w', Lies w' A64 vs66 → w'.rangeAt g199 o200 [.int .i64 x197.1, .int .i64 x197.2.1, .int .u8 x197.2.2.1, .int .u8 x197.2.2.2] := ha205
            refine gx_vA (.pointer (some ⟨g199, o200, none⟩)) w164 (run_ixaddrN (E := 35) (s := 4) (k := .i64) (c := c65) rfl (by as_aux_lemma => kernel_rfl) (by as_aux_lemma => kernel_rfl) (by as_aux_lemma => kernel_rfl) (fun _ => by kernel_rfl) (ixg_in hx198).1 (ixg_in hx198).2.1 hA202) ?_
            refine gx_kA (.pointer (some ⟨g199, o200 + 1, none⟩)) w164 ?_
            refine gx_vA (.int .i64 x197.2.1) w164 (run_loadN1 1 rfl (by as_aux_lemma => kernel_rfl) (fun _ => by kernel_rfl) (ha205 _ (rowG_lies (e := encitemiseRun) rfl (hS165.get 2 rfl))) rfl) ?_
            refine gx_kA (.slice A0 p0.length c0) w164 (gx_kA (.int .i64 ((p0.length : Nat) : Int)) w164 ?_)
            rcases if_in hO170 with ⟨h218, hO170⟩ | ⟨h218, hO170⟩
            ·refine gx_vA (.bool true) w164 (run_boolE (decide_eq_true h218) (by as_aux_lemma => kernel_rfl)) ?_
             refine gx_kA (.bool true) w164 ?_
             refine gx_nil ?_
             refine gx_thenN ?_
             refine hK142 _ _ ?_
             refine gx_yes (by as_aux_lemma => kernel_rfl) ?_
             refine gx_seq (fun K219 hK220 => ?_)
             refine gx_region ?_
             refine gx_kA (.bool false) w164 ?_
             refine gx_nil ?_
             refine gx_thenN ?_
             refine hK220 _ _ ?_
             refine gx_ret ?_
             refine gx_thenR ?_
             obtain rfl := Option.some.inj hO170
             try dsimp only at hO140
             refine gx_blkR ?_
             refine gx_thenR ?_
             obtain rfl := Option.some.inj hO140
             try dsimp only at hO134
             refine gx_thenR ?_
             refine gx_blkR ?_
             refine gx_thenR ?_
             obtain rfl := Option.some.inj hO134
             try dsimp only at hO113
             obtain rfl := Option.some.inj hO113
             exact gx_fin (.bool false) (by as_aux_lemma => kernel_rfl) (by as_aux_lemma => kernel_rfl) ⟨_, rfl, rfl, (hS165.pick [] rfl rfl)⟩
            ·refine gx_vA (.bool false) w164 (run_boolE (decide_eq_false h218) (by as_aux_lemma => kernel_rfl)) ?_
             refine gx_kA (.bool false) w164 ?_
             refine gx_nil ?_
             refine gx_thenN ?_
             refine hK142 _ _ ?_
             refine gx_no (by as_aux_lemma => kernel_rfl) ?_
             refine gx_pass ?_
             refine gx_thenN ?_
             exact ⟨selfA_i (by as_aux_lemma => kernel_rfl), (Option.some.inj hO170), hS165⟩
         ·rintro _ w135 ⟨hq604, rfl, hS136⟩
          obtain ⟨u137, rfl⟩ := selfA_u hq604
          try dsimp only at hO140
          obtain ⟨c224, hE225, hO226⟩ := bind_in hO140
          refine gx_cut (fun a w => selfA (fun u223 => ⟨((.slice A0 p0.length c0) :: (u26 1) :: undef :: undef :: (u223 4) :: (.slice A22 l18.length c23) :: (u26 6) :: (.slice A64 l63.length c65) :: (.int .i64 x68) :: (.slice A86 l85.length c87) :: (.int .i64 x119) :: (.int .i64 x120) :: dd u223 12 2 ((u26 14) :: (.int .i64 ((p0.length : Nat) : Int)) :: (.bool false) :: undef :: (u26 18) :: (.int .i64 ((p0.length : Nat) : Int)) :: dd u26 20 20 (dd u93 40 5 ((.int .i64 x68) :: dd u93 46 11 ((.int .i64 x120) :: (u137 58) :: (.int .i64 ((l63.length : Nat) : Int)) :: (.bool true) :: dd u118 61 2 (dd u137 63 26 (dd u223 89 94 (dd u118 183 48 (un 7 ([])))))))))).toArray, []⟩) a ∧ Ctl.go () = c224 ∧ St [] w0 w [poolE ft73 W74, rowE .u8 5 A22 c23 l28, rowG 35 4 (.slice A64 l63.length c65) l63.length vs66, rowE .u8 5 A86 c87 l85]) ?_ ?_
          ·refine gx_seq (fun K227 hK228 => ?_)
           refine gx_region ?_
           refine gx_kA (.int .i64 x119) w135 (gx_kA (.int .i64 x119) w135 ?_)
           refine gx_nil ?_
           refine gx_thenN ?_
           refine hK228 _ _ ?_
           refine gx_block ?_
           refine gx_loop (fun k a w => ∃ (x232 : Int), selfA (fun u231 => ⟨((.slice A0 p0.length c0) :: (u26 1) :: undef :: undef :: (u231 4) :: (.slice A22 l18.length c23) :: (u26 6) :: (.slice A64 l63.length c65) :: (.int .i64 x68) :: (.slice A86 l85.length c87) :: (.int .i64 x119) :: (.int .i64 x120) :: (.int .i64 x232) :: (u231 13) :: (u26 14) :: (.int .i64 ((p0.length : Nat) : Int)) :: (.bool false) :: undef :: (u26 18) :: (.int .i64 ((p0.length : Nat) : Int)) :: dd u26 20 20 (dd u93 40 5 ((.int .i64 x68) :: dd u93 46 11 ((.int .i64 x120) :: (u137 58) :: (.int .i64 ((l63.length : Nat) : Int)) :: (.bool true) :: dd u118 61 2 (dd u137 63 26 ((.int .i64 x119) :: dd u231 90 93 (dd u118 183 48 (un 7 ([]))))))))).toArray, []⟩) a ∧ fTiles_L3 N p0 l28 l63 l85 x120 k x232 = some c224 ∧ St [] w0 w [poolE ft73 W74, rowE .u8 5 A22 c23 l28, rowG 35 4 (.slice A64 l63.length c65) l63.length vs66, rowE .u8 5 A86 c87 l85]) N ?_ ?_
           ·exact ⟨x119, selfA_i (by as_aux_lemma => kernel_rfl), hE225, hS136⟩
           ·rintro k233 _ w229 ⟨x232, hq438, hL234, hS230⟩
            obtain ⟨u231, rfl⟩ := selfA_u hq438
            cases k233 with
            | zero => cases hL234
            | succ k233 =>
             first | rw [fTiles_L3] at hL234 | unfold fTiles_L3 at hL234
             refine gx_seq (fun K235 hK236 => ?_)
             refine gx_seq (fun K237 hK238 => ?_)
             refine gx_region ?_
             refine gx_kA (.int .i64 x232) w229 (gx_kA (.slice A64 l63.length c65) w229 (gx_kA (.int .i64 x120) w229 ?_))
             obtain ⟨x239, hx240, hL234⟩ := bind_in hL234
             obtain ⟨g241, o242, e243, hA244, he245, h246, ha247⟩ := elem_at (e := encitemiseRun) (rowG_lies (e := encitemiseRun) rfl (hS230.get 2 rfl)) hf80 hx240 (by decide)
             obtain ⟨e248, e249, rfl, h250, h251⟩ := h246
             obtain rfl := h250
             obtain ⟨e252, e253, rfl, h254, h255⟩ := h251
             obtain rfl := h254
             obtain ⟨e256, e257, rfl, h258, h259⟩ := h255
             obtain rfl := h258
             obtain rfl := h259
             have ha247 : ∀ w', Lies w' A64 vs66 → w'.rangeAt g241 o242 [.int .i64 x239.1, .int .i64 x239.2.1, .int .u8 x239.2.2.1, .int .u8 x239.2.2.2] := ha247
             refine gx_vA (.pointer (some ⟨g241, o242, none⟩)) w229 (run_ixaddrN (E := 35) (s := 4) (k := .i64) (c := c65) rfl (by as_aux_lemma => kernel_rfl) (by as_aux_lemma => kernel_rfl) (by as_aux_lemma => kernel_rfl) (fun _ => by kernel_rfl) (ixg_in hx240).1 (ixg_in hx240).2.1 hA244) ?_
             refine gx_kA (.pointer (some ⟨g241, o242 + 1, none⟩)) w229 ?_
             refine gx_vA (.int .i64 x239.2.1) w229 (run_loadN1 1 rfl (by as_aux_lemma => kernel_rfl) (fun _ => by kernel_rfl) (ha247 _ (rowG_lies (e := encitemiseRun) rfl (hS230.get 2 rfl))) rfl) ?_
             rcases if_in hL234 with ⟨h260, hL234⟩ | ⟨h260, hL234⟩
             ·refine gx_vA (.bool true) w229 (run_boolE (decide_eq_true h260) (by as_aux_lemma => kernel_rfl)) ?_
              refine gx_nil ?_
              refine gx_thenN ?_
              refine hK238 _ _ ?_
              refine gx_yes (by as_aux_lemma => kernel_rfl) ?_
              refine gx_pass ?_
              refine gx_thenN ?_
              refine hK236 _ _ ?_
              refine gx_seq (fun K261 hK262 => ?_)
              refine gx_block ?_
              refine gx_seq (fun K263 hK264 => ?_)
              refine gx_region ?_
              refine gx_kA (.slice A0 p0.length c0) w229 (gx_kA (.int .i64 x232) w229 ?_)
              obtain ⟨x265, hx266, hL234⟩ := bind_in hL234
              refine gx_vA (.pointer (Option.map (fun (p : Addr) => p.add (Int.toNat x232 * 1)) A0)) w229 (run_ixaddr (E := 21) (s := 1) (k := .i64) (c := c0) rfl (by as_aux_lemma => kernel_rfl) (by as_aux_lemma => kernel_rfl) (by as_aux_lemma => kernel_rfl) (fun _ => by kernel_rfl) (ix_in hx266).1 (ix_in hx266).2.1 (num_nil (hS230.view hv0))) ?_
              refine gx_vA (.int .i32 x265) w229 (run_loadix rfl (by as_aux_lemma => kernel_rfl) (fun _ => by kernel_rfl) (hS230.view hv0) hx266) ?_
              have hP267 : St _ _ w229 ([] ++ [poolE ft73 W74, rowE .u8 5 A22 c23 l28, rowG 35 4 (.slice A64 l63.length c65) l63.length vs66, rowE .u8 5 A86 c87 l85]) := hS230
              obtain ⟨x269, hc268, hL234⟩ := bind_in hL234
              try dsimp only at hL234
              refine gx_cA (rfSc_R x269 w229) (rfSc_ok N x265 _ hc268 w229 ) ?_
              rintro _ w270 ⟨rfl, hT272⟩
              have hS271 : St _ _ w270 [poolE ft73 W74, rowE .u8 5 A22 c23 l28, rowG 35 4 (.slice A64 l63.length c65) l63.length vs66, rowE .u8 5 A86 c87 l85] := hS230.take _ hT272
              refine gx_kA (.int .u8 x269) w270 ?_
              refine gx_nil ?_
              refine gx_thenN ?_
              refine hK264 _ _ ?_
              obtain ⟨c276, hE277, hO278⟩ := bind_in hL234
              refine gx_cut (fun a w => selfA (fun u275 => ⟨((.slice A0 p0.length c0) :: (u26 1) :: undef :: undef :: (u275 4) :: (.slice A22 l18.length c23) :: (u26 6) :: (.slice A64 l63.length c65) :: (.int .i64 x68) :: (.slice A86 l85.length c87) :: (.int .i64 x119) :: (.int .i64 x120) :: (.int .i64 x232) :: (.int .u8 x269) :: (u26 14) :: (.int .i64 ((p0.length : Nat) : Int)) :: (.bool false) :: undef :: (u26 18) :: (.int .i64 ((p0.length : Nat) : Int)) :: dd u26 20 20 (dd u93 40 5 ((.int .i64 x68) :: dd u93 46 11 ((.int .i64 x120) :: (u137 58) :: (.int .i64 ((l63.length : Nat) : Int)) :: (.bool true) :: dd u118 61 2 (dd u137 63 26 ((.int .i64 x119) :: (.int .i64 x232) :: (u275 91) :: (.int .i64 x120) :: dd u275 93 2 ((.int .i64 x239.2.1) :: (.bool true) :: dd u231 97 2 ((u275 99) :: (.int .i64 x232) :: (.pointer (Option.map (fun (p : Addr) => p.add (Int.toNat x232 * 1)) A0)) :: (.int .i32 x265) :: (.int .u8 x269) :: dd u275 104 52 (dd u231 156 27 (dd u118 183 48 (un 7 ([])))))))))))).toArray, []⟩) a ∧ Ctl.go () = c276 ∧ St [] w0 w [poolE ft73 W74, rowE .u8 5 A22 c23 l28, rowG 35 4 (.slice A64 l63.length c65) l63.length vs66, rowE .u8 5 A86 c87 l85]) ?_ ?_
              ·refine gx_seq (fun K279 hK280 => ?_)
               refine gd_start (fun w => St [] w0 w [poolE ft73 W74, rowE .u8 5 A22 c23 l28, rowG 35 4 (.slice A64 l63.length c65) l63.length vs66, rowE .u8 5 A86 c87 l85]) 52 #[false, false, false, false, false, false, false, false, false, false, false, false, false, false, false, false, false, false, false, false, false, false, false, false, false, false, false, false, false, false, false, false, false, false, false, false, false, false, false, false, false, false, false, false, false, false, false, false, false, false, false, false] (by as_aux_lemma => kernel_rfl) (by as_aux_lemma => kernel_rfl) ?_
               have hS282 := hS271.drew
               generalize w270.drew = w281 at hS282 ⊢
               refine gv1 0 104 (.slice A22 l18.length c23) rfl hS282 ?_
               refine gv1 1 105 (.int .i64 x232) rfl hS282 ?_
               obtain ⟨x283, hx284, hE277⟩ := bind_in hE277
               refine gu1 2 106 (.pointer (Option.map (fun (p : Addr) => p.add (Int.toNat x232 * 1)) A22)) rfl hS282 (fun w hSw => run_ixaddr (E := 5) (s := 1) (k := .i64) (c := c23) rfl (by as_aux_lemma => kernel_rfl) (by as_aux_lemma => kernel_rfl) (by as_aux_lemma => kernel_rfl) (fun _ => by kernel_rfl) (ix_in hx284).1 (lt_len hn27 (ix_in hx284).2.1) (nil_len hn27 (num_nil (hS282.row 1 rfl).1))) ?_
               refine gu1 3 107 (.int .u8 x283) rfl hS282 (fun w hSw => run_loadix rfl (by as_aux_lemma => kernel_rfl) (fun _ => by kernel_rfl) (hSw.row 1 rfl).1 hx284) ?_
               refine gv1 4 108 (.slice A64 l63.length c65) rfl hS282 ?_
               refine gv1 5 109 (.int .i64 x120) rfl hS282 ?_
               obtain ⟨x285, hx286, hE277⟩ := bind_in hE277
               obtain ⟨g287, o288, e289, hA290, he291, h292, ha293⟩ := elem_at (e := encitemiseRun) (rowG_lies (e := encitemiseRun) rfl (hS282.get 2 rfl)) hf80 hx286 (by decide)
               obtain ⟨e294, e295, rfl, h296, h297⟩ := h292
               obtain rfl := h296
               obtain ⟨e298, e299, rfl, h300, h301⟩ := h297
               obtain rfl := h300
               obtain ⟨e302, e303, rfl, h304, h305⟩ := h301
               obtain rfl := h304
               obtain rfl := h305
               have ha293 : ∀ w', Lies w' A64 vs66 → w'.rangeAt g287 o288 [.int .i64 x285.1, .int .i64 x285.2.1, .int .u8 x285.2.2.1, .int .u8 x285.2.2.2] := ha293
               refine gu1 6 110 (.pointer (some ⟨g287, o288, none⟩)) rfl hS282 (fun w hSw => run_ixaddrN (E := 35) (s := 4) (k := .i64) (c := c65) rfl (by as_aux_lemma => kernel_rfl) (by as_aux_lemma => kernel_rfl) (by as_aux_lemma => kernel_rfl) (fun _ => by kernel_rfl) (ixg_in hx286).1 (ixg_in hx286).2.1 hA290) ?_
               refine gv1 7 111 (.pointer (some ⟨g287, o288 + 2, none⟩)) rfl hS282 ?_
               refine gu1 8 112 (.int .u8 x285.2.2.1) rfl hS282 (fun w hSw => run_loadN1 2 rfl (by as_aux_lemma => kernel_rfl) (fun _ => by kernel_rfl) (ha293 _ (rowG_lies (e := encitemiseRun) rfl (hSw.get 2 rfl))) rfl) ?_
               obtain ⟨c310, hE311, hO312⟩ := bind_in hE277
               refine gd_mid (fun a w => ∃ (b309 : Bool), selfA (fun u308 => ⟨((.slice A0 p0.length c0) :: (u26 1) :: undef :: undef :: (u231 4) :: (.slice A22 l18.length c23) :: (u26 6) :: (.slice A64 l63.length c65) :: (.int .i64 x68) :: (.slice A86 l85.length c87) :: (.int .i64 x119) :: (.int .i64 x120) :: (.int .i64 x232) :: (.int .u8 x269) :: (u26 14) :: (.int .i64 ((p0.length : Nat) : Int)) :: (.bool false) :: undef :: (u26 18) :: (.int .i64 ((p0.length : Nat) : Int)) :: dd u26 20 20 (dd u93 40 5 ((.int .i64 x68) :: dd u93 46 11 ((.int .i64 x120) :: (u137 58) :: (.int .i64 ((l63.length : Nat) : Int)) :: (.bool true) :: dd u118 61 2 (dd u137 63 26 ((.int .i64 x119) :: (.int .i64 x232) :: (u308 91) :: (.int .i64 x120) :: dd u308 93 2 ((.int .i64 x239.2.1) :: (.bool true) :: dd u231 97 2 ((u308 99) :: (.int .i64 x232) :: (.pointer (Option.map (fun (p : Addr) => p.add (Int.toNat x232 * 1)) A0)) :: (.int .i32 x265) :: (.int .u8 x269) :: (u308 104) :: (.int .i64 x232) :: (.pointer (Option.map (fun (p : Addr) => p.add (Int.toNat x232 * 1)) A22)) :: (.int .u8 x283) :: (u308 108) :: (.int .i64 x120) :: dd u308 110 2 ((.int .u8 x285.2.2.1) :: dd u308 113 12 ((.bool b309) :: dd u231 126 57 (dd u118 183 48 (un 7 ([]))))))))))))).toArray, []⟩) a ∧ b309 = c310 ∧ St [] w0 w [poolE ft73 W74, rowE .u8 5 A22 c23 l28, rowG 35 4 (.slice A64 l63.length c65) l63.length vs66, rowE .u8 5 A86 c87 l85]) 30 #[true, true, true, true, true, true, true, true, true, true, true, true, true, true, true, true, true, true, true, true, true, true, false, false, false, false, false, false, false, false, false, false, false, false, false, false, false, false, false, false, false, false, false, false, false, false, false, false, false, false, false, false] ?_ ?_
               ·rintro _ w306 ⟨b309, hq313, rfl, hS307⟩
                obtain ⟨u308, rfl⟩ := selfA_u hq313
                try dsimp only at hO312
                obtain ⟨c344, hE345, hO346⟩ := bind_in hO312
                refine gd_mid (fun a w => ∃ (b343 : Bool), selfA (fun u342 => ⟨((.slice A0 p0.length c0) :: (u26 1) :: undef :: undef :: (u231 4) :: (.slice A22 l18.length c23) :: (u26 6) :: (.slice A64 l63.length c65) :: (.int .i64 x68) :: (.slice A86 l85.length c87) :: (.int .i64 x119) :: (.int .i64 x120) :: (.int .i64 x232) :: (.int .u8 x269) :: (u26 14) :: (.int .i64 ((p0.length : Nat) : Int)) :: (.bool false) :: undef :: (u26 18) :: (.int .i64 ((p0.length : Nat) : Int)) :: dd u26 20 20 (dd u93 40 5 ((.int .i64 x68) :: dd u93 46 11 ((.int .i64 x120) :: (u137 58) :: (.int .i64 ((l63.length : Nat) : Int)) :: (.bool true) :: dd u118 61 2 (dd u137 63 26 ((.int .i64 x119) :: (.int .i64 x232) :: (u308 91) :: (.int .i64 x120) :: dd u308 93 2 ((.int .i64 x239.2.1) :: (.bool true) :: dd u231 97 2 ((u308 99) :: (.int .i64 x232) :: (.pointer (Option.map (fun (p : Addr) => p.add (Int.toNat x232 * 1)) A0)) :: (.int .i32 x265) :: (.int .u8 x269) :: (u308 104) :: (.int .i64 x232) :: (.pointer (Option.map (fun (p : Addr) => p.add (Int.toNat x232 * 1)) A22)) :: (.int .u8 x283) :: (u308 108) :: (.int .i64 x120) :: dd u308 110 2 ((.int .u8 x285.2.2.1) :: dd u308 113 12 ((.bool b309) :: dd u342 126 11 ((.bool b343) :: dd u231 138 45 (dd u118 183 48 (un 7 ([])))))))))))))).toArray, []⟩) a ∧ b343 = c344 ∧ St [] w0 w [poolE ft73 W74, rowE .u8 5 A22 c23 l28, rowG 35 4 (.slice A64 l63.length c65) l63.length vs66, rowE .u8 5 A86 c87 l85]) 18 #[true, true, true, true, true, true, true, true, true, true, true, true, true, true, true, true, true, true, true, true, true, true, true, true, true, true, true, true, true, true, true, true, true, true, false, false, false, false, false, false, false, false, false, false, false, false, false, false, false, false, false, false] ?_ ?_
                ·rintro _ w340 ⟨b343, hq347, rfl, hS341⟩
                 obtain ⟨u342, rfl⟩ := selfA_u hq347
                 try dsimp only at hO346
                 refine gv1 34 138 (.bool b343) rfl hS341 ?_
                 cases b343 with
                 | true =>
                  try dsimp only at hO346
                  refine gz1 35 139 rfl hS341 ?_
                  refine gz1 36 140 rfl hS341 ?_
                  refine gz1 37 141 rfl hS341 ?_
                  refine gz1 38 142 rfl hS341 ?_
                  refine gz1 39 143 rfl hS341 ?_
                  refine gz1 40 144 rfl hS341 ?_
                  refine gz1 41 145 rfl hS341 ?_
                  refine gz1 42 146 rfl hS341 ?_
                  refine gz1 43 147 rfl hS341 ?_
                  refine gz1 44 148 rfl hS341 ?_
                  refine gz1 45 149 rfl hS341 ?_
                  refine gz1 46 150 rfl hS341 ?_
                  refine gz1 47 151 rfl hS341 ?_
                  refine gz1 48 152 rfl hS341 ?_
                  refine gz1 49 153 rfl hS341 ?_
                  refine gz1 50 154 rfl hS341 ?_
                  refine gv1 51 155 (.bool true) rfl hS341 ?_
                  refine gd_done (by as_aux_lemma => kernel_rfl) ?_
                  refine gx_thenN ?_
                  refine hK280 _ _ ?_
                  refine gx_yes (by as_aux_lemma => kernel_rfl) ?_
                  refine gx_seq (fun K362 hK363 => ?_)
                  refine gx_region ?_
                  refine gx_kA (.bool false) w340 ?_
                  refine gx_nil ?_
                  refine gx_thenN ?_
                  refine hK363 _ _ ?_
                  refine gx_ret ?_
                  refine gx_thenR ?_
                  obtain rfl := Option.some.inj hO346
                  try dsimp only at hO278
                  refine gx_blkR ?_
                  refine gx_thenR ?_
                  refine gx_thenR ?_
                  refine gx_blkR ?_
                  refine gx_thenR ?_
                  obtain rfl := Option.some.inj hO278
                  try dsimp only at hO226
                  refine gx_blkR ?_
                  refine gx_thenR ?_
                  obtain rfl := Option.some.inj hO226
                  try dsimp only at hO134
                  refine gx_thenR ?_
                  refine gx_blkR ?_
                  refine gx_thenR ?_
                  obtain rfl := Option.some.inj hO134
                  try dsimp only at hO113
                  obtain rfl := Option.some.inj hO113
                  exact gx_fin (.bool false) (by as_aux_lemma => kernel_rfl) (by as_aux_lemma => kernel_rfl) ⟨_, rfl, rfl, (hS341.pick [] rfl rfl)⟩
                 | false =>
                  try dsimp only at hO346
                  refine gv1 35 139 (.slice A0 p0.length c0) rfl hS341 ?_
                  refine gv1 36 140 (.int .i64 x232) rfl hS341 ?_
                  obtain ⟨x364, hx365, hO346⟩ := bind_in hO346
                  refine gu1 37 141 (.pointer (Option.map (fun (p : Addr) => p.add (Int.toNat x232 * 1)) A0)) rfl hS341 (fun w hSw => run_ixaddr (E := 21) (s := 1) (k := .i64) (c := c0) rfl (by as_aux_lemma => kernel_rfl) (by as_aux_lemma => kernel_rfl) (by as_aux_lemma => kernel_rfl) (fun _ => by kernel_rfl) (ix_in hx365).1 (ix_in hx365).2.1 (num_nil (hS341.view hv0))) ?_
                  refine gu1 38 142 (.int .i32 x364) rfl hS341 (fun w hSw => run_loadix rfl (by as_aux_lemma => kernel_rfl) (fun _ => by kernel_rfl) (hSw.view hv0) hx365) ?_
                  have hP366 : St _ _ w340 ([] ++ [poolE ft73 W74, rowE .u8 5 A22 c23 l28, rowG 35 4 (.slice A64 l63.length c65) l63.length vs66, rowE .u8 5 A86 c87 l85]) := hS341
                  obtain ⟨x368, hc367, hO346⟩ := bind_in hO346
                  try dsimp only at hO346
                  refine gdC 39 { dst := some 143, op := _, type := _, pos := _, after := _, guard := _ } (rfCl_R x368 w340) rfl (by as_aux_lemma => kernel_rfl) (rfCl_ok N x364 _ hc367 w340 ) ?_
                  rintro _ w369 ⟨rfl, hT371⟩
                  have hS370 : St _ _ w369 [poolE ft73 W74, rowE .u8 5 A22 c23 l28, rowG 35 4 (.slice A64 l63.length c65) l63.length vs66, rowE .u8 5 A86 c87 l85] := hS341.take _ hT371
                  refine ⟨hS370, ?_⟩
                  rcases if_in hO346 with ⟨h372, hO346⟩ | ⟨h372, hO346⟩
                  ·refine gu1 40 144 (.bool true) rfl hS370 (fun w hSw => run_boolE (decide_eq_true h372) (by as_aux_lemma => kernel_rfl)) ?_
                   refine gv1 41 145 (.bool true) rfl hS370 ?_
                   refine gv1 42 146 (.int .i64 x232) rfl hS370 ?_
                   refine gv1 43 147 (.slice A64 l63.length c65) rfl hS370 ?_
                   refine gv1 44 148 (.int .i64 x120) rfl hS370 ?_
                   obtain ⟨x373, hx374, hO346⟩ := bind_in hO346
                   obtain ⟨g375, o376, e377, hA378, he379, h380, ha381⟩ := elem_at (e := encitemiseRun) (rowG_lies (e := encitemiseRun) rfl (hS370.get 2 rfl)) hf80 hx374 (by decide)
                   obtain ⟨e382, e383, rfl, h384, h385⟩ := h380
                   obtain rfl := h384
                   obtain ⟨e386, e387, rfl, h388, h389⟩ := h385
                   obtain rfl := h388
                   obtain ⟨e390, e391, rfl, h392, h393⟩ := h389
                   obtain rfl := h392
                   obtain rfl := h393
                   have ha381 : ∀ w', Lies w' A64 vs66 → w'.rangeAt g375 o376 [.int .i64 x373.1, .int .i64 x373.2.1, .int .u8 x373.2.2.1, .int .u8 x373.2.2.2] := ha381
                   refine gu1 45 149 (.pointer (some ⟨g375, o376, none⟩)) rfl hS370 (fun w hSw => run_ixaddrN (E := 35) (s := 4) (k := .i64) (c := c65) rfl (by as_aux_lemma => kernel_rfl) (by as_aux_lemma => kernel_rfl) (by as_aux_lemma => kernel_rfl) (fun _ => by kernel_rfl) (ixg_in hx374).1 (ixg_in hx374).2.1 hA378) ?_
                   refine gv1 46 150 (.pointer (some ⟨g375, o376 + 1, none⟩)) rfl hS370 ?_
                   refine gu1 47 151 (.int .i64 x373.2.1) rfl hS370 (fun w hSw => run_loadN1 1 rfl (by as_aux_lemma => kernel_rfl) (fun _ => by kernel_rfl) (ha381 _ (rowG_lies (e := encitemiseRun) rfl (hSw.get 2 rfl))) rfl) ?_
                   refine gv1 48 152 (.int .i64 (IntKind.i64.wrap (x373.2.1 - 1))) rfl hS370 ?_
                   rcases if_in hO346 with ⟨h394, hO346⟩ | ⟨h394, hO346⟩
                   ·refine gu1 49 153 (.bool true) rfl hS370 (fun w hSw => run_boolE (ne_yes h394) (by as_aux_lemma => kernel_rfl)) ?_
                    refine gv1 50 154 (.bool true) rfl hS370 ?_
                    refine gv1 51 155 (.bool true) rfl hS370 ?_
                    refine gd_done (by as_aux_lemma => kernel_rfl) ?_
                    refine gx_thenN ?_
                    refine hK280 _ _ ?_
                    refine gx_yes (by as_aux_lemma => kernel_rfl) ?_
                    refine gx_seq (fun K395 hK396 => ?_)
                    refine gx_region ?_
                    refine gx_kA (.bool false) w369 ?_
                    refine gx_nil ?_
                    refine gx_thenN ?_
                    refine hK396 _ _ ?_
                    refine gx_ret ?_
                    refine gx_thenR ?_
                    obtain rfl := Option.some.inj hO346
                    try dsimp only at hO278
                    refine gx_blkR ?_
                    refine gx_thenR ?_
                    refine gx_thenR ?_
                    refine gx_blkR ?_
                    refine gx_thenR ?_
                    obtain rfl := Option.some.inj hO278
                    try dsimp only at hO226
                    refine gx_blkR ?_
                    refine gx_thenR ?_
                    obtain rfl := Option.some.inj hO226
                    try dsimp only at hO134
                    refine gx_thenR ?_
                    refine gx_blkR ?_
                    refine gx_thenR ?_
                    obtain rfl := Option.some.inj hO134
                    try dsimp only at hO113
                    obtain rfl := Option.some.inj hO113
                    exact gx_fin (.bool false) (by as_aux_lemma => kernel_rfl) (by as_aux_lemma => kernel_rfl) ⟨_, rfl, rfl, (hS370.pick [] rfl rfl)⟩
                   ·refine gu1 49 153 (.bool false) rfl hS370 (fun w hSw => run_boolE (ne_no h394) (by as_aux_lemma => kernel_rfl)) ?_
                    refine gv1 50 154 (.bool false) rfl hS370 ?_
                    refine gv1 51 155 (.bool false) rfl hS370 ?_
                    refine gd_done (by as_aux_lemma => kernel_rfl) ?_
                    refine gx_thenN ?_
                    refine hK280 _ _ ?_
                    refine gx_no (by as_aux_lemma => kernel_rfl) ?_
                    refine gx_pass ?_
                    refine gx_thenN ?_
                    exact ⟨selfA_i (by as_aux_lemma => kernel_rfl), (Option.some.inj hO346), hS370⟩
                  ·refine gu1 40 144 (.bool false) rfl hS370 (fun w hSw => run_boolE (decide_eq_false h372) (by as_aux_lemma => kernel_rfl)) ?_
                   refine gv1 41 145 (.bool false) rfl hS370 ?_
                   refine gz1 42 146 rfl hS370 ?_
                   refine gz1 43 147 rfl hS370 ?_
                   refine gz1 44 148 rfl hS370 ?_
                   refine gz1 45 149 rfl hS370 ?_
                   refine gz1 46 150 rfl hS370 ?_
                   refine gz1 47 151 rfl hS370 ?_
                   refine gz1 48 152 rfl hS370 ?_
                   refine gz1 49 153 rfl hS370 ?_
                   refine gv1 50 154 (.bool false) rfl hS370 ?_
                   refine gv1 51 155 (.bool false) rfl hS370 ?_
                   refine gd_done (by as_aux_lemma => kernel_rfl) ?_
                   refine gx_thenN ?_
                   refine hK280 _ _ ?_
                   refine gx_no (by as_aux_lemma => kernel_rfl) ?_
                   refine gx_pass ?_
                   refine gx_thenN ?_
                   exact ⟨selfA_i (by as_aux_lemma => kernel_rfl), (Option.some.inj hO346), hS370⟩
                ·intro hK348
                 refine gv1 22 126 (.bool b309) rfl hS307 ?_
                 cases b309 with
                 | true =>
                  try dsimp only at hE345
                  refine gz1 23 127 rfl hS307 ?_
                  refine gz1 24 128 rfl hS307 ?_
                  refine gz1 25 129 rfl hS307 ?_
                  refine gz1 26 130 rfl hS307 ?_
                  refine gz1 27 131 rfl hS307 ?_
                  refine gz1 28 132 rfl hS307 ?_
                  refine gz1 29 133 rfl hS307 ?_
                  refine gz1 30 134 rfl hS307 ?_
                  refine gz1 31 135 rfl hS307 ?_
                  refine gz1 32 136 rfl hS307 ?_
                  refine gv1 33 137 (.bool true) rfl hS307 ?_
                  exact gd_to hK348 (by as_aux_lemma => kernel_rfl) ⟨true, selfA_i (by as_aux_lemma => kernel_rfl), (Option.some.inj hE345), hS307⟩
                 | false =>
                  try dsimp only at hE345
                  refine gv1 23 127 (.int .u8 x269) rfl hS307 ?_
                  obtain ⟨c353, hE354, hO355⟩ := bind_in hE345
                  refine gd_mid (fun a w => ∃ (b352 : Bool), selfA (fun u351 => ⟨((.slice A0 p0.length c0) :: (u26 1) :: undef :: undef :: (u231 4) :: (.slice A22 l18.length c23) :: (u26 6) :: (.slice A64 l63.length c65) :: (.int .i64 x68) :: (.slice A86 l85.length c87) :: (.int .i64 x119) :: (.int .i64 x120) :: (.int .i64 x232) :: (.int .u8 x269) :: (u26 14) :: (.int .i64 ((p0.length : Nat) : Int)) :: (.bool false) :: undef :: (u26 18) :: (.int .i64 ((p0.length : Nat) : Int)) :: dd u26 20 20 (dd u93 40 5 ((.int .i64 x68) :: dd u93 46 11 ((.int .i64 x120) :: (u137 58) :: (.int .i64 ((l63.length : Nat) : Int)) :: (.bool true) :: dd u118 61 2 (dd u137 63 26 ((.int .i64 x119) :: (.int .i64 x232) :: (u308 91) :: (.int .i64 x120) :: dd u308 93 2 ((.int .i64 x239.2.1) :: (.bool true) :: dd u231 97 2 ((u308 99) :: (.int .i64 x232) :: (.pointer (Option.map (fun (p : Addr) => p.add (Int.toNat x232 * 1)) A0)) :: (.int .i32 x265) :: (.int .u8 x269) :: (u308 104) :: (.int .i64 x232) :: (.pointer (Option.map (fun (p : Addr) => p.add (Int.toNat x232 * 1)) A22)) :: (.int .u8 x283) :: (u308 108) :: (.int .i64 x120) :: dd u308 110 2 ((.int .u8 x285.2.2.1) :: dd u308 113 12 ((.bool false) :: (.bool false) :: (.int .u8 x269) :: dd u351 128 8 ((.bool b352) :: dd u231 137 46 (dd u118 183 48 (un 7 ([])))))))))))))).toArray, []⟩) a ∧ b352 = c353 ∧ St [] w0 w [poolE ft73 W74, rowE .u8 5 A22 c23 l28, rowG 35 4 (.slice A64 l63.length c65) l63.length vs66, rowE .u8 5 A86 c87 l85]) 19 #[true, true, true, true, true, true, true, true, true, true, true, true, true, true, true, true, true, true, true, true, true, true, true, true, true, true, true, true, true, true, true, true, true, false, false, false, false, false, false, false, false, false, false, false, false, false, false, false, false, false, false, false] ?_ ?_
                  ·rintro _ w349 ⟨b352, hq356, rfl, hS350⟩
                   obtain ⟨u351, rfl⟩ := selfA_u hq356
                   try dsimp only at hO355
                   refine gv1 33 137 (.bool b352) rfl hS350 ?_
                   exact gd_to hK348 (by as_aux_lemma => kernel_rfl) ⟨b352, selfA_i (by as_aux_lemma => kernel_rfl), (Option.some.inj hO355), hS350⟩
                  ·intro hK357
                   rcases if_in hE354 with ⟨h358, hE354⟩ | ⟨h358, hE354⟩
                   ·refine gu1 24 128 (.bool true) rfl hS307 (fun w hSw => run_boolE (decide_eq_true h358) (by as_aux_lemma => kernel_rfl)) ?_
                    refine gv1 25 129 (.bool true) rfl hS307 ?_
                    refine gv1 26 130 (.int .u8 x269) rfl hS307 ?_
                    refine gv1 27 131 (.slice A86 l85.length c87) rfl hS307 ?_
                    refine gv1 28 132 (.int .i64 x232) rfl hS307 ?_
                    obtain ⟨x359, hx360, hE354⟩ := bind_in hE354
                    refine gu1 29 133 (.pointer (Option.map (fun (p : Addr) => p.add (Int.toNat x232 * 1)) A86)) rfl hS307 (fun w hSw => run_ixaddr (E := 5) (s := 1) (k := .i64) (c := c87) rfl (by as_aux_lemma => kernel_rfl) (by as_aux_lemma => kernel_rfl) (by as_aux_lemma => kernel_rfl) (fun _ => by kernel_rfl) (ix_in hx360).1 (ix_in hx360).2.1 (num_nil (hS307.row 3 rfl).1)) ?_
                    refine gu1 30 134 (.int .u8 x359) rfl hS307 (fun w hSw => run_loadix rfl (by as_aux_lemma => kernel_rfl) (fun _ => by kernel_rfl) (hSw.row 3 rfl).1 hx360) ?_
                    rcases if_in hE354 with ⟨h361, hE354⟩ | ⟨h361, hE354⟩
                    ·refine gu1 31 135 (.bool true) rfl hS307 (fun w hSw => run_boolE (ne_yes h361) (by as_aux_lemma => kernel_rfl)) ?_
                     refine gv1 32 136 (.bool true) rfl hS307 ?_
                     exact gd_to hK357 (by as_aux_lemma => kernel_rfl) ⟨true, selfA_i (by as_aux_lemma => kernel_rfl), (Option.some.inj hE354), hS307⟩
                    ·refine gu1 31 135 (.bool false) rfl hS307 (fun w hSw => run_boolE (ne_no h361) (by as_aux_lemma => kernel_rfl)) ?_
                     refine gv1 32 136 (.bool false) rfl hS307 ?_
                     exact gd_to hK357 (by as_aux_lemma => kernel_rfl) ⟨false, selfA_i (by as_aux_lemma => kernel_rfl), (Option.some.inj hE354), hS307⟩
                   ·refine gu1 24 128 (.bool false) rfl hS307 (fun w hSw => run_boolE (decide_eq_false h358) (by as_aux_lemma => kernel_rfl)) ?_
                    refine gv1 25 129 (.bool false) rfl hS307 ?_
                    refine gz1 26 130 rfl hS307 ?_
                    refine gz1 27 131 rfl hS307 ?_
                    refine gz1 28 132 rfl hS307 ?_
                    refine gz1 29 133 rfl hS307 ?_
                    refine gz1 30 134 rfl hS307 ?_
                    refine gz1 31 135 rfl hS307 ?_
                    refine gv1 32 136 (.bool false) rfl hS307 ?_
                    exact gd_to hK357 (by as_aux_lemma => kernel_rfl) ⟨false, selfA_i (by as_aux_lemma => kernel_rfl), (Option.some.inj hE354), hS307⟩
               ·intro hK314
                rcases if_in hE311 with ⟨h315, hE311⟩ | ⟨h315, hE311⟩
                ·refine gu1 9 113 (.bool true) rfl hS282 (fun w hSw => run_boolE (ne_yes h315) (by as_aux_lemma => kernel_rfl)) ?_
                 refine gv1 10 114 (.bool true) rfl hS282 ?_
                 refine gz1 11 115 rfl hS282 ?_
                 refine gz1 12 116 rfl hS282 ?_
                 refine gz1 13 117 rfl hS282 ?_
                 refine gz1 14 118 rfl hS282 ?_
                 refine gz1 15 119 rfl hS282 ?_
                 refine gz1 16 120 rfl hS282 ?_
                 refine gz1 17 121 rfl hS282 ?_
                 refine gz1 18 122 rfl hS282 ?_
                 refine gz1 19 123 rfl hS282 ?_
                 refine gz1 20 124 rfl hS282 ?_
                 refine gv1 21 125 (.bool true) rfl hS282 ?_
                 exact gd_to hK314 (by as_aux_lemma => kernel_rfl) ⟨true, selfA_i (by as_aux_lemma => kernel_rfl), (Option.some.inj hE311), hS282⟩
                ·refine gu1 9 113 (.bool false) rfl hS282 (fun w hSw => run_boolE (ne_no h315) (by as_aux_lemma => kernel_rfl)) ?_
                 refine gv1 10 114 (.bool false) rfl hS282 ?_
                 refine gv1 11 115 (.slice A86 l85.length c87) rfl hS282 ?_
                 refine gv1 12 116 (.int .i64 x232) rfl hS282 ?_
                 obtain ⟨x316, hx317, hE311⟩ := bind_in hE311
                 refine gu1 13 117 (.pointer (Option.map (fun (p : Addr) => p.add (Int.toNat x232 * 1)) A86)) rfl hS282 (fun w hSw => run_ixaddr (E := 5) (s := 1) (k := .i64) (c := c87) rfl (by as_aux_lemma => kernel_rfl) (by as_aux_lemma => kernel_rfl) (by as_aux_lemma => kernel_rfl) (fun _ => by kernel_rfl) (ix_in hx317).1 (ix_in hx317).2.1 (num_nil (hS282.row 3 rfl).1)) ?_
                 refine gu1 14 118 (.int .u8 x316) rfl hS282 (fun w hSw => run_loadix rfl (by as_aux_lemma => kernel_rfl) (fun _ => by kernel_rfl) (hSw.row 3 rfl).1 hx317) ?_
                 refine gv1 15 119 (.slice A64 l63.length c65) rfl hS282 ?_
                 refine gv1 16 120 (.int .i64 x120) rfl hS282 ?_
                 obtain ⟨x318, hx319, hE311⟩ := bind_in hE311
                 obtain ⟨g320, o321, e322, hA323, he324, h325, ha326⟩ := elem_at (e := encitemiseRun) (rowG_lies (e := encitemiseRun) rfl (hS282.get 2 rfl)) hf80 hx319 (by decide)
                 obtain ⟨e327, e328, rfl, h329, h330⟩ := h325
                 obtain rfl := h329
                 obtain ⟨e331, e332, rfl, h333, h334⟩ := h330
                 obtain rfl := h333
                 obtain ⟨e335, e336, rfl, h337, h338⟩ := h334
                 obtain rfl := h337
                 obtain rfl := h338
                 have ha326 : ∀ w', Lies w' A64 vs66 → w'.rangeAt g320 o321 [.int .i64 x318.1, .int .i64 x318.2.1, .int .u8 x318.2.2.1, .int .u8 x318.2.2.2] := ha326
                 refine gu1 17 121 (.pointer (some ⟨g320, o321, none⟩)) rfl hS282 (fun w hSw => run_ixaddrN (E := 35) (s := 4) (k := .i64) (c := c65) rfl (by as_aux_lemma => kernel_rfl) (by as_aux_lemma => kernel_rfl) (by as_aux_lemma => kernel_rfl) (fun _ => by kernel_rfl) (ixg_in hx319).1 (ixg_in hx319).2.1 hA323) ?_
                 refine gv1 18 122 (.pointer (some ⟨g320, o321 + 3, none⟩)) rfl hS282 ?_
                 refine gu1 19 123 (.int .u8 x318.2.2.2) rfl hS282 (fun w hSw => run_loadN1 3 rfl (by as_aux_lemma => kernel_rfl) (fun _ => by kernel_rfl) (ha326 _ (rowG_lies (e := encitemiseRun) rfl (hSw.get 2 rfl))) rfl) ?_
                 rcases if_in hE311 with ⟨h339, hE311⟩ | ⟨h339, hE311⟩
                 ·refine gu1 20 124 (.bool true) rfl hS282 (fun w hSw => run_boolE (ne_yes h339) (by as_aux_lemma => kernel_rfl)) ?_
                  refine gv1 21 125 (.bool true) rfl hS282 ?_
                  exact gd_to hK314 (by as_aux_lemma => kernel_rfl) ⟨true, selfA_i (by as_aux_lemma => kernel_rfl), (Option.some.inj hE311), hS282⟩
                 ·refine gu1 20 124 (.bool false) rfl hS282 (fun w hSw => run_boolE (ne_no h339) (by as_aux_lemma => kernel_rfl)) ?_
                  refine gv1 21 125 (.bool false) rfl hS282 ?_
                  exact gd_to hK314 (by as_aux_lemma => kernel_rfl) ⟨false, selfA_i (by as_aux_lemma => kernel_rfl), (Option.some.inj hE311), hS282⟩
              ·rintro _ w273 ⟨hq437, rfl, hS274⟩
               obtain ⟨u275, rfl⟩ := selfA_u hq437
               try dsimp only at hO278
               refine gx_seq (fun K397 hK398 => ?_)
               refine gd_start (fun w => St [] w0 w [poolE ft73 W74, rowE .u8 5 A22 c23 l28, rowG 35 4 (.slice A64 l63.length c65) l63.length vs66, rowE .u8 5 A86 c87 l85]) 27 #[false, false, false, false, false, false, false, false, false, false, false, false, false, false, false, false, false, false, false, false, false, false, false, false, false, false, false] (by as_aux_lemma => kernel_rfl) (by as_aux_lemma => kernel_rfl) ?_
               have hS400 := hS274.drew
               generalize w273.drew = w399 at hS400 ⊢
               refine gv1 0 156 (.int .u8 x269) rfl hS400 ?_
               obtain ⟨c405, hE406, hO407⟩ := bind_in hO278
               refine gd_mid (fun a w => ∃ (b404 : Bool), selfA (fun u403 => ⟨((.slice A0 p0.length c0) :: (u26 1) :: undef :: undef :: (u275 4) :: (.slice A22 l18.length c23) :: (u26 6) :: (.slice A64 l63.length c65) :: (.int .i64 x68) :: (.slice A86 l85.length c87) :: (.int .i64 x119) :: (.int .i64 x120) :: (.int .i64 x232) :: (.int .u8 x269) :: (u26 14) :: (.int .i64 ((p0.length : Nat) : Int)) :: (.bool false) :: undef :: (u26 18) :: (.int .i64 ((p0.length : Nat) : Int)) :: dd u26 20 20 (dd u93 40 5 ((.int .i64 x68) :: dd u93 46 11 ((.int .i64 x120) :: (u137 58) :: (.int .i64 ((l63.length : Nat) : Int)) :: (.bool true) :: dd u118 61 2 (dd u137 63 26 ((.int .i64 x119) :: (.int .i64 x232) :: (u275 91) :: (.int .i64 x120) :: dd u275 93 2 ((.int .i64 x239.2.1) :: (.bool true) :: dd u231 97 2 ((u275 99) :: (.int .i64 x232) :: (.pointer (Option.map (fun (p : Addr) => p.add (Int.toNat x232 * 1)) A0)) :: (.int .i32 x265) :: (.int .u8 x269) :: dd u275 104 52 ((.int .u8 x269) :: dd u403 157 4 ((.bool b404) :: dd u231 162 21 (dd u118 183 48 (un 7 ([]))))))))))))).toArray, []⟩) a ∧ b404 = c405 ∧ St [] w0 w [poolE ft73 W74, rowE .u8 5 A22 c23 l28, rowG 35 4 (.slice A64 l63.length c65) l63.length vs66, rowE .u8 5 A86 c87 l85]) 21 #[true, true, true, true, true, true, false, false, false, false, false, false, false, false, false, false, false, false, false, false, false, false, false, false, false, false, false] ?_ ?_
               ·rintro _ w401 ⟨b404, hq408, rfl, hS402⟩
                obtain ⟨u403, rfl⟩ := selfA_u hq408
                try dsimp only at hO407
                obtain ⟨c416, hE417, hO418⟩ := bind_in hO407
                refine gd_mid (fun a w => ∃ (b415 : Bool), selfA (fun u414 => ⟨((.slice A0 p0.length c0) :: (u26 1) :: undef :: undef :: (u275 4) :: (.slice A22 l18.length c23) :: (u26 6) :: (.slice A64 l63.length c65) :: (.int .i64 x68) :: (.slice A86 l85.length c87) :: (.int .i64 x119) :: (.int .i64 x120) :: (.int .i64 x232) :: (.int .u8 x269) :: (u26 14) :: (.int .i64 ((p0.length : Nat) : Int)) :: (.bool false) :: undef :: (u26 18) :: (.int .i64 ((p0.length : Nat) : Int)) :: dd u26 20 20 (dd u93 40 5 ((.int .i64 x68) :: dd u93 46 11 ((.int .i64 x120) :: (u137 58) :: (.int .i64 ((l63.length : Nat) : Int)) :: (.bool true) :: dd u118 61 2 (dd u137 63 26 ((.int .i64 x119) :: (.int .i64 x232) :: (u275 91) :: (.int .i64 x120) :: dd u275 93 2 ((.int .i64 x239.2.1) :: (.bool true) :: dd u231 97 2 ((u275 99) :: (.int .i64 x232) :: (.pointer (Option.map (fun (p : Addr) => p.add (Int.toNat x232 * 1)) A0)) :: (.int .i32 x265) :: (.int .u8 x269) :: dd u275 104 52 ((.int .u8 x269) :: dd u403 157 4 ((.bool b404) :: dd u414 162 8 ((.bool b415) :: dd u231 171 12 (dd u118 183 48 (un 7 ([])))))))))))))).toArray, []⟩) a ∧ b415 = c416 ∧ St [] w0 w [poolE ft73 W74, rowE .u8 5 A22 c23 l28, rowG 35 4 (.slice A64 l63.length c65) l63.length vs66, rowE .u8 5 A86 c87 l85]) 12 #[true, true, true, true, true, true, true, true, true, true, true, true, true, true, true, false, false, false, false, false, false, false, false, false, false, false, false] ?_ ?_
                ·rintro _ w412 ⟨b415, hq419, rfl, hS413⟩
                 obtain ⟨u414, rfl⟩ := selfA_u hq419
                 try dsimp only at hO418
                 refine gv1 15 171 (.bool b415) rfl hS413 ?_
                 cases b415 with
                 | true =>
                  try dsimp only at hO418
                  refine gv1 16 172 (.slice A86 l85.length c87) rfl hS413 ?_
                  refine gv1 17 173 (.int .i64 x232) rfl hS413 ?_
                  obtain ⟨x430, hx431, hO418⟩ := bind_in hO418
                  refine gu1 18 174 (.pointer (Option.map (fun (p : Addr) => p.add (Int.toNat x232 * 1)) A86)) rfl hS413 (fun w hSw => run_ixaddr (E := 5) (s := 1) (k := .i64) (c := c87) rfl (by as_aux_lemma => kernel_rfl) (by as_aux_lemma => kernel_rfl) (by as_aux_lemma => kernel_rfl) (fun _ => by kernel_rfl) (ix_in hx431).1 (ix_in hx431).2.1 (num_nil (hS413.row 3 rfl).1)) ?_
                  refine gu1 19 175 (.int .u8 x430) rfl hS413 (fun w hSw => run_loadix rfl (by as_aux_lemma => kernel_rfl) (fun _ => by kernel_rfl) (hSw.row 3 rfl).1 hx431) ?_
                  refine gv1 20 176 (.slice A86 l85.length c87) rfl hS413 ?_
                  refine gv1 21 177 (.int .i64 x232) rfl hS413 ?_
                  refine gv1 22 178 (.int .i64 (IntKind.i64.wrap (x232 - 1))) rfl hS413 ?_
                  obtain ⟨x432, hx433, hO418⟩ := bind_in hO418
                  refine gu1 23 179 (.pointer (Option.map (fun (p : Addr) => p.add (Int.toNat (IntKind.i64.wrap (x232 - 1)) * 1)) A86)) rfl hS413 (fun w hSw => run_ixaddr (E := 5) (s := 1) (k := .i64) (c := c87) rfl (by as_aux_lemma => kernel_rfl) (by as_aux_lemma => kernel_rfl) (by as_aux_lemma => kernel_rfl) (fun _ => by kernel_rfl) (ix_in hx433).1 (ix_in hx433).2.1 (num_nil (hS413.row 3 rfl).1)) ?_
                  refine gu1 24 180 (.int .u8 x432) rfl hS413 (fun w hSw => run_loadix rfl (by as_aux_lemma => kernel_rfl) (fun _ => by kernel_rfl) (hSw.row 3 rfl).1 hx433) ?_
                  rcases if_in hO418 with ⟨h434, hO418⟩ | ⟨h434, hO418⟩
                  ·refine gu1 25 181 (.bool true) rfl hS413 (fun w hSw => run_boolE (ne_yes h434) (by as_aux_lemma => kernel_rfl)) ?_
                   refine gv1 26 182 (.bool true) rfl hS413 ?_
                   refine gd_done (by as_aux_lemma => kernel_rfl) ?_
                   refine gx_thenN ?_
                   refine hK398 _ _ ?_
                   refine gx_yes (by as_aux_lemma => kernel_rfl) ?_
                   refine gx_seq (fun K435 hK436 => ?_)
                   refine gx_region ?_
                   refine gx_kA (.bool false) w412 ?_
                   refine gx_nil ?_
                   refine gx_thenN ?_
                   refine hK436 _ _ ?_
                   refine gx_ret ?_
                   refine gx_blkR ?_
                   refine gx_thenR ?_
                   refine gx_thenR ?_
                   refine gx_blkR ?_
                   refine gx_thenR ?_
                   obtain rfl := Option.some.inj hO418
                   try dsimp only at hO226
                   refine gx_blkR ?_
                   refine gx_thenR ?_
                   obtain rfl := Option.some.inj hO226
                   try dsimp only at hO134
                   refine gx_thenR ?_
                   refine gx_blkR ?_
                   refine gx_thenR ?_
                   obtain rfl := Option.some.inj hO134
                   try dsimp only at hO113
                   obtain rfl := Option.some.inj hO113
                   exact gx_fin (.bool false) (by as_aux_lemma => kernel_rfl) (by as_aux_lemma => kernel_rfl) ⟨_, rfl, rfl, (hS413.pick [] rfl rfl)⟩
                  ·refine gu1 25 181 (.bool false) rfl hS413 (fun w hSw => run_boolE (ne_no h434) (by as_aux_lemma => kernel_rfl)) ?_
                   refine gv1 26 182 (.bool false) rfl hS413 ?_
                   refine gd_done (by as_aux_lemma => kernel_rfl) ?_
                   refine gx_thenN ?_
                   refine hK398 _ _ ?_
                   refine gx_no (by as_aux_lemma => kernel_rfl) ?_
                   refine gx_pass ?_
                   refine gx_blkN ?_
                   refine gx_thenN ?_
                   refine hK262 _ _ ?_
                   refine gx_region ?_
                   refine gx_kA (.int .i64 x232) w412 (gx_kA (.int .i64 (IntKind.i64.wrap (x232 + 1))) w412 (gx_kA (.int .i64 (IntKind.i64.wrap (x232 + 1))) w412 ?_))
                   refine gx_nil ?_
                   refine gx_thenN ?_
                   exact ⟨k233, Nat.lt_succ_self k233, (IntKind.i64.wrap (x232 + 1)), selfA_i (by as_aux_lemma => kernel_rfl), hO418, hS413⟩
                 | false =>
                  try dsimp only at hO418
                  refine gz1 16 172 rfl hS413 ?_
                  refine gz1 17 173 rfl hS413 ?_
                  refine gz1 18 174 rfl hS413 ?_
                  refine gz1 19 175 rfl hS413 ?_
                  refine gz1 20 176 rfl hS413 ?_
                  refine gz1 21 177 rfl hS413 ?_
                  refine gz1 22 178 rfl hS413 ?_
                  refine gz1 23 179 rfl hS413 ?_
                  refine gz1 24 180 rfl hS413 ?_
                  refine gz1 25 181 rfl hS413 ?_
                  refine gv1 26 182 (.bool false) rfl hS413 ?_
                  refine gd_done (by as_aux_lemma => kernel_rfl) ?_
                  refine gx_thenN ?_
                  refine hK398 _ _ ?_
                  refine gx_no (by as_aux_lemma => kernel_rfl) ?_
                  refine gx_pass ?_
                  refine gx_blkN ?_
                  refine gx_thenN ?_
                  refine hK262 _ _ ?_
                  refine gx_region ?_
                  refine gx_kA (.int .i64 x232) w412 (gx_kA (.int .i64 (IntKind.i64.wrap (x232 + 1))) w412 (gx_kA (.int .i64 (IntKind.i64.wrap (x232 + 1))) w412 ?_))
                  refine gx_nil ?_
                  refine gx_thenN ?_
                  exact ⟨k233, Nat.lt_succ_self k233, (IntKind.i64.wrap (x232 + 1)), selfA_i (by as_aux_lemma => kernel_rfl), hO418, hS413⟩
                ·intro hK420
                 refine gv1 6 162 (.bool b404) rfl hS402 ?_
                 cases b404 with
                 | true =>
                  try dsimp only at hE417
                  refine gv1 7 163 (.slice A0 p0.length c0) rfl hS402 ?_
                  refine gv1 8 164 (.int .i64 x232) rfl hS402 ?_
                  refine gv1 9 165 (.int .i64 (IntKind.i64.wrap (x232 - 1))) rfl hS402 ?_
                  obtain ⟨x421, hx422, hE417⟩ := bind_in hE417
                  refine gu1 10 166 (.pointer (Option.map (fun (p : Addr) => p.add (Int.toNat (IntKind.i64.wrap (x232 - 1)) * 1)) A0)) rfl hS402 (fun w hSw => run_ixaddr (E := 21) (s := 1) (k := .i64) (c := c0) rfl (by as_aux_lemma => kernel_rfl) (by as_aux_lemma => kernel_rfl) (by as_aux_lemma => kernel_rfl) (fun _ => by kernel_rfl) (ix_in hx422).1 (ix_in hx422).2.1 (num_nil (hS402.view hv0))) ?_
                  refine gu1 11 167 (.int .i32 x421) rfl hS402 (fun w hSw => run_loadix rfl (by as_aux_lemma => kernel_rfl) (fun _ => by kernel_rfl) (hSw.view hv0) hx422) ?_
                  have hP423 : St _ _ w401 ([] ++ [poolE ft73 W74, rowE .u8 5 A22 c23 l28, rowG 35 4 (.slice A64 l63.length c65) l63.length vs66, rowE .u8 5 A86 c87 l85]) := hS402
                  obtain ⟨x425, hc424, hE417⟩ := bind_in hE417
                  try dsimp only at hE417
                  refine gdC 12 { dst := some 168, op := _, type := _, pos := _, after := _, guard := _ } (rfCl_R x425 w401) rfl (by as_aux_lemma => kernel_rfl) (rfCl_ok N x421 _ hc424 w401 ) ?_
                  rintro _ w426 ⟨rfl, hT428⟩
                  have hS427 : St _ _ w426 [poolE ft73 W74, rowE .u8 5 A22 c23 l28, rowG 35 4 (.slice A64 l63.length c65) l63.length vs66, rowE .u8 5 A86 c87 l85] := hS402.take _ hT428
                  refine ⟨hS427, ?_⟩
                  rcases if_in hE417 with ⟨h429, hE417⟩ | ⟨h429, hE417⟩
                  ·refine gu1 13 169 (.bool true) rfl hS427 (fun w hSw => run_boolE (ne_yes h429) (by as_aux_lemma => kernel_rfl)) ?_
                   refine gv1 14 170 (.bool true) rfl hS427 ?_
                   exact gd_to hK420 (by as_aux_lemma => kernel_rfl) ⟨true, selfA_i (by as_aux_lemma => kernel_rfl), (Option.some.inj hE417), hS427⟩
                  ·refine gu1 13 169 (.bool false) rfl hS427 (fun w hSw => run_boolE (ne_no h429) (by as_aux_lemma => kernel_rfl)) ?_
                   refine gv1 14 170 (.bool false) rfl hS427 ?_
                   exact gd_to hK420 (by as_aux_lemma => kernel_rfl) ⟨false, selfA_i (by as_aux_lemma => kernel_rfl), (Option.some.inj hE417), hS427⟩
                 | false =>
                  try dsimp only at hE417
                  refine gz1 7 163 rfl hS402 ?_
                  refine gz1 8 164 rfl hS402 ?_
                  refine gz1 9 165 rfl hS402 ?_
                  refine gz1 10 166 rfl hS402 ?_
                  refine gz1 11 167 rfl hS402 ?_
                  refine gz1 12 168 rfl hS402 ?_
                  refine gz1 13 169 rfl hS402 ?_
                  refine gv1 14 170 (.bool false) rfl hS402 ?_
                  exact gd_to hK420 (by as_aux_lemma => kernel_rfl) ⟨false, selfA_i (by as_aux_lemma => kernel_rfl), (Option.some.inj hE417), hS402⟩
               ·intro hK409
                rcases if_in hE406 with ⟨h410, hE406⟩ | ⟨h410, hE406⟩
                ·refine gu1 1 157 (.bool true) rfl hS400 (fun w hSw => run_boolE (decide_eq_true h410) (by as_aux_lemma => kernel_rfl)) ?_
                 refine gv1 2 158 (.bool true) rfl hS400 ?_
                 refine gv1 3 159 (.int .i64 x232) rfl hS400 ?_
                 rcases if_in hE406 with ⟨h411, hE406⟩ | ⟨h411, hE406⟩
                 ·refine gu1 4 160 (.bool true) rfl hS400 (fun w hSw => run_boolE (decide_eq_true h411) (by as_aux_lemma => kernel_rfl)) ?_
                  refine gv1 5 161 (.bool true) rfl hS400 ?_
                  exact gd_to hK409 (by as_aux_lemma => kernel_rfl) ⟨true, selfA_i (by as_aux_lemma => kernel_rfl), (Option.some.inj hE406), hS400⟩
                 ·refine gu1 4 160 (.bool false) rfl hS400 (fun w hSw => run_boolE (decide_eq_false h411) (by as_aux_lemma => kernel_rfl)) ?_
                  refine gv1 5 161 (.bool false) rfl hS400 ?_
                  exact gd_to hK409 (by as_aux_lemma => kernel_rfl) ⟨false, selfA_i (by as_aux_lemma => kernel_rfl), (Option.some.inj hE406), hS400⟩
                ·refine gu1 1 157 (.bool false) rfl hS400 (fun w hSw => run_boolE (decide_eq_false h410) (by as_aux_lemma => kernel_rfl)) ?_
                 refine gv1 2 158 (.bool false) rfl hS400 ?_
                 refine gz1 3 159 rfl hS400 ?_
                 refine gz1 4 160 rfl hS400 ?_
                 refine gv1 5 161 (.bool false) rfl hS400 ?_
                 exact gd_to hK409 (by as_aux_lemma => kernel_rfl) ⟨false, selfA_i (by as_aux_lemma => kernel_rfl), (Option.some.inj hE406), hS400⟩
             ·refine gx_vA (.bool false) w229 (run_boolE (decide_eq_false h260) (by as_aux_lemma => kernel_rfl)) ?_
              refine gx_nil ?_
              refine gx_thenN ?_
              refine hK238 _ _ ?_
              refine gx_no (by as_aux_lemma => kernel_rfl) ?_
              refine gx_exit ?_
              refine gx_thenE ?_
              refine gx_thenE ?_
              refine gx_blkE ?_
              refine gx_thenN ?_
              exact ⟨selfA_i (by as_aux_lemma => kernel_rfl), (Option.some.inj hL234), hS230⟩
          ·rintro _ w221 ⟨hq603, rfl, hS222⟩
           obtain ⟨u223, rfl⟩ := selfA_u hq603
           try dsimp only at hO226
           refine gx_seq (fun K439 hK440 => ?_)
           refine gx_region ?_
           refine gx_kA (.slice A64 l63.length c65) w221 (gx_kA (.int .i64 x120) w221 ?_)
           obtain ⟨x441, hx442, hO226⟩ := bind_in hO226
           obtain ⟨g443, o444, e445, hA446, he447, h448, ha449⟩ := elem_at (e := encitemiseRun) (rowG_lies (e := encitemiseRun) rfl (hS222.get 2 rfl)) hf80 hx442 (by decide)
           obtain ⟨e450, e451, rfl, h452, h453⟩ := h448
           obtain rfl := h452
           obtain ⟨e454, e455, rfl, h456, h457⟩ := h453
           obtain rfl := h456
           obtain ⟨e458, e459, rfl, h460, h461⟩ := h457
           obtain rfl := h460
           obtain rfl := h461
           have ha449 : ∀ w', Lies w' A64 vs66 → w'.rangeAt g443 o444 [.int .i64 x441.1, .int .i64 x441.2.1, .int .u8 x441.2.2.1, .int .u8 x441.2.2.2] := ha449
           refine gx_vA (.pointer (some ⟨g443, o444, none⟩)) w221 (run_ixaddrN (E := 35) (s := 4) (k := .i64) (c := c65) rfl (by as_aux_lemma => kernel_rfl) (by as_aux_lemma => kernel_rfl) (by as_aux_lemma => kernel_rfl) (fun _ => by kernel_rfl) (ixg_in hx442).1 (ixg_in hx442).2.1 hA446) ?_
           refine gx_kA (.pointer (some ⟨g443, o444 + 1, none⟩)) w221 ?_
           refine gx_vA (.int .i64 x441.2.1) w221 (run_loadN1 1 rfl (by as_aux_lemma => kernel_rfl) (fun _ => by kernel_rfl) (ha449 _ (rowG_lies (e := encitemiseRun) rfl (hS222.get 2 rfl))) rfl) ?_
           refine gx_kA (.int .i64 x441.2.1) w221 ?_
           refine gx_nil ?_
           refine gx_thenN ?_
           refine hK440 _ _ ?_
           refine gx_seq (fun K462 hK463 => ?_)
           refine gd_start (fun w => St [] w0 w [poolE ft73 W74, rowE .u8 5 A22 c23 l28, rowG 35 4 (.slice A64 l63.length c65) l63.length vs66, rowE .u8 5 A86 c87 l85]) 43 #[false, false, false, false, false, false, false, false, false, false, false, false, false, false, false, false, false, false, false, false, false, false, false, false, false, false, false, false, false, false, false, false, false, false, false, false, false, false, false, false, false, false, false] (by as_aux_lemma => kernel_rfl) (by as_aux_lemma => kernel_rfl) ?_
           have hS465 := hS222.drew
           generalize w221.drew = w464 at hS465 ⊢
           refine gv1 0 188 (.int .i64 x120) rfl hS465 ?_
           obtain ⟨c470, hE471, hO472⟩ := bind_in hO226
           refine gd_mid (fun a w => ∃ (b469 : Bool), selfA (fun u468 => ⟨((.slice A0 p0.length c0) :: (u26 1) :: undef :: undef :: (u223 4) :: (.slice A22 l18.length c23) :: (u26 6) :: (.slice A64 l63.length c65) :: (.int .i64 x68) :: (.slice A86 l85.length c87) :: (.int .i64 x441.2.1) :: (.int .i64 x120) :: dd u223 12 2 ((u26 14) :: (.int .i64 ((p0.length : Nat) : Int)) :: (.bool false) :: undef :: (u26 18) :: (.int .i64 ((p0.length : Nat) : Int)) :: dd u26 20 20 (dd u93 40 5 ((.int .i64 x68) :: dd u93 46 11 ((.int .i64 x120) :: (u137 58) :: (.int .i64 ((l63.length : Nat) : Int)) :: (.bool true) :: dd u118 61 2 (dd u137 63 26 (dd u223 89 94 ((u468 183) :: (.int .i64 x120) :: dd u468 185 2 ((.int .i64 x441.2.1) :: (.int .i64 x120) :: dd u468 189 14 ((.bool b469) :: dd u118 204 27 (un 7 ([])))))))))))).toArray, []⟩) a ∧ b469 = c470 ∧ St [] w0 w [poolE ft73 W74, rowE .u8 5 A22 c23 l28, rowG 35 4 (.slice A64 l63.length c65) l63.length vs66, rowE .u8 5 A86 c87 l85]) 27 #[true, true, true, true, true, true, true, true, true, true, true, true, true, true, true, true, false, false, false, false, false, false, false, false, false, false, false, false, false, false, false, false, false, false, false, false, false, false, false, false, false, false, false] ?_ ?_
           ·rintro _ w466 ⟨b469, hq473, rfl, hS467⟩
            obtain ⟨u468, rfl⟩ := selfA_u hq473
            try dsimp only at hO472
            obtain ⟨c523, hE524, hO525⟩ := bind_in hO472
            refine gd_mid (fun a w => ∃ (b522 : Bool), selfA (fun u521 => ⟨((.slice A0 p0.length c0) :: (u26 1) :: undef :: undef :: (u223 4) :: (.slice A22 l18.length c23) :: (u26 6) :: (.slice A64 l63.length c65) :: (.int .i64 x68) :: (.slice A86 l85.length c87) :: (.int .i64 x441.2.1) :: (.int .i64 x120) :: dd u223 12 2 ((u26 14) :: (.int .i64 ((p0.length : Nat) : Int)) :: (.bool false) :: undef :: (u26 18) :: (.int .i64 ((p0.length : Nat) : Int)) :: dd u26 20 20 (dd u93 40 5 ((.int .i64 x68) :: dd u93 46 11 ((.int .i64 x120) :: (u137 58) :: (.int .i64 ((l63.length : Nat) : Int)) :: (.bool true) :: dd u118 61 2 (dd u137 63 26 (dd u223 89 94 ((u468 183) :: (.int .i64 x120) :: dd u468 185 2 ((.int .i64 x441.2.1) :: (.int .i64 x120) :: dd u468 189 14 ((.bool b469) :: dd u521 204 13 ((.bool b522) :: dd u118 218 13 (un 7 ([]))))))))))))).toArray, []⟩) a ∧ b522 = c523 ∧ St [] w0 w [poolE ft73 W74, rowE .u8 5 A22 c23 l28, rowG 35 4 (.slice A64 l63.length c65) l63.length vs66, rowE .u8 5 A86 c87 l85]) 13 #[true, true, true, true, true, true, true, true, true, true, true, true, true, true, true, true, true, true, true, true, true, true, true, true, true, true, true, true, true, true, false, false, false, false, false, false, false, false, false, false, false, false, false] ?_ ?_
            ·rintro _ w519 ⟨b522, hq526, rfl, hS520⟩
             obtain ⟨u521, rfl⟩ := selfA_u hq526
             try dsimp only at hO525
             refine gv1 30 218 (.bool b522) rfl hS520 ?_
             cases b522 with
             | true =>
              try dsimp only at hO525
              refine gv1 31 219 (.slice A0 p0.length c0) rfl hS520 ?_
              refine gv1 32 220 (.slice A64 l63.length c65) rfl hS520 ?_
              refine gv1 33 221 (.int .i64 x120) rfl hS520 ?_
              obtain ⟨x571, hx572, hO525⟩ := bind_in hO525
              obtain ⟨g573, o574, e575, hA576, he577, h578, ha579⟩ := elem_at (e := encitemiseRun) (rowG_lies (e := encitemiseRun) rfl (hS520.get 2 rfl)) hf80 hx572 (by decide)
              obtain ⟨e580, e581, rfl, h582, h583⟩ := h578
              obtain rfl := h582
              obtain ⟨e584, e585, rfl, h586, h587⟩ := h583
              obtain rfl := h586
              obtain ⟨e588, e589, rfl, h590, h591⟩ := h587
              obtain rfl := h590
              obtain rfl := h591
              have ha579 : ∀ w', Lies w' A64 vs66 → w'.rangeAt g573 o574 [.int .i64 x571.1, .int .i64 x571.2.1, .int .u8 x571.2.2.1, .int .u8 x571.2.2.2] := ha579
              refine gu1 34 222 (.pointer (some ⟨g573, o574, none⟩)) rfl hS520 (fun w hSw => run_ixaddrN (E := 35) (s := 4) (k := .i64) (c := c65) rfl (by as_aux_lemma => kernel_rfl) (by as_aux_lemma => kernel_rfl) (by as_aux_lemma => kernel_rfl) (fun _ => by kernel_rfl) (ixg_in hx572).1 (ixg_in hx572).2.1 hA576) ?_
              refine gv1 35 223 (.pointer (some ⟨g573, o574, none⟩)) rfl hS520 ?_
              refine gu1 36 224 (.int .i64 x571.1) rfl hS520 (fun w hSw => run_loadN1 0 rfl (by as_aux_lemma => kernel_rfl) (fun _ => by kernel_rfl) (ha579 _ (rowG_lies (e := encitemiseRun) rfl (hSw.get 2 rfl))) rfl) ?_
              refine gv1 37 225 (.int .i64 (IntKind.i64.wrap (x571.1 - 1))) rfl hS520 ?_
              obtain ⟨x592, hx593, hO525⟩ := bind_in hO525
              refine gu1 38 226 (.pointer (Option.map (fun (p : Addr) => p.add (Int.toNat (IntKind.i64.wrap (x571.1 - 1)) * 1)) A0)) rfl hS520 (fun w hSw => run_ixaddr (E := 21) (s := 1) (k := .i64) (c := c0) rfl (by as_aux_lemma => kernel_rfl) (by as_aux_lemma => kernel_rfl) (by as_aux_lemma => kernel_rfl) (fun _ => by kernel_rfl) (ix_in hx593).1 (ix_in hx593).2.1 (num_nil (hS520.view hv0))) ?_
              refine gu1 39 227 (.int .i32 x592) rfl hS520 (fun w hSw => run_loadix rfl (by as_aux_lemma => kernel_rfl) (fun _ => by kernel_rfl) (hSw.view hv0) hx593) ?_
              have hP594 : St _ _ w519 ([] ++ [poolE ft73 W74, rowE .u8 5 A22 c23 l28, rowG 35 4 (.slice A64 l63.length c65) l63.length vs66, rowE .u8 5 A86 c87 l85]) := hS520
              obtain ⟨x596, hc595, hO525⟩ := bind_in hO525
              try dsimp only at hO525
              refine gdC 40 { dst := some 228, op := _, type := _, pos := _, after := _, guard := _ } (rfCl_R x596 w519) rfl (by as_aux_lemma => kernel_rfl) (rfCl_ok N x592 _ hc595 w519 ) ?_
              rintro _ w597 ⟨rfl, hT599⟩
              have hS598 : St _ _ w597 [poolE ft73 W74, rowE .u8 5 A22 c23 l28, rowG 35 4 (.slice A64 l63.length c65) l63.length vs66, rowE .u8 5 A86 c87 l85] := hS520.take _ hT599
              refine ⟨hS598, ?_⟩
              rcases if_in hO525 with ⟨h600, hO525⟩ | ⟨h600, hO525⟩
              ·refine gu1 41 229 (.bool true) rfl hS598 (fun w hSw => run_boolE (ne_yes h600) (by as_aux_lemma => kernel_rfl)) ?_
               refine gv1 42 230 (.bool true) rfl hS598 ?_
               refine gd_done (by as_aux_lemma => kernel_rfl) ?_
               refine gx_thenN ?_
               refine hK463 _ _ ?_
               refine gx_yes (by as_aux_lemma => kernel_rfl) ?_
               refine gx_seq (fun K601 hK602 => ?_)
               refine gx_region ?_
               refine gx_kA (.bool false) w597 ?_
               refine gx_nil ?_
               refine gx_thenN ?_
               refine hK602 _ _ ?_
               refine gx_ret ?_
               refine gx_blkR ?_
               refine gx_thenR ?_
               obtain rfl := Option.some.inj hO525
               try dsimp only at hO134
               refine gx_thenR ?_
               refine gx_blkR ?_
               refine gx_thenR ?_
               obtain rfl := Option.some.inj hO134
               try dsimp only at hO113
               obtain rfl := Option.some.inj hO113
               exact gx_fin (.bool false) (by as_aux_lemma => kernel_rfl) (by as_aux_lemma => kernel_rfl) ⟨_, rfl, rfl, (hS598.pick [] rfl rfl)⟩
              ·refine gu1 41 229 (.bool false) rfl hS598 (fun w hSw => run_boolE (ne_no h600) (by as_aux_lemma => kernel_rfl)) ?_
               refine gv1 42 230 (.bool false) rfl hS598 ?_
               refine gd_done (by as_aux_lemma => kernel_rfl) ?_
               refine gx_thenN ?_
               refine hK463 _ _ ?_
               refine gx_no (by as_aux_lemma => kernel_rfl) ?_
               refine gx_pass ?_
               refine gx_blkN ?_
               refine gx_thenN ?_
               exact ⟨x441.2.1, selfA_i (by as_aux_lemma => kernel_rfl), (Option.some.inj hO525), hS598⟩
             | false =>
              try dsimp only at hO525
              refine gz1 31 219 rfl hS520 ?_
              refine gz1 32 220 rfl hS520 ?_
              refine gz1 33 221 rfl hS520 ?_
              refine gz1 34 222 rfl hS520 ?_
              refine gz1 35 223 rfl hS520 ?_
              refine gz1 36 224 rfl hS520 ?_
              refine gz1 37 225 rfl hS520 ?_
              refine gz1 38 226 rfl hS520 ?_
              refine gz1 39 227 rfl hS520 ?_
              refine gz1 40 228 rfl hS520 ?_
              refine gz1 41 229 rfl hS520 ?_
              refine gv1 42 230 (.bool false) rfl hS520 ?_
              refine gd_done (by as_aux_lemma => kernel_rfl) ?_
              refine gx_thenN ?_
              refine hK463 _ _ ?_
              refine gx_no (by as_aux_lemma => kernel_rfl) ?_
              refine gx_pass ?_
              refine gx_blkN ?_
              refine gx_thenN ?_
              exact ⟨x441.2.1, selfA_i (by as_aux_lemma => kernel_rfl), (Option.some.inj hO525), hS520⟩
            ·intro hK527
             refine gv1 16 204 (.bool b469) rfl hS467 ?_
             cases b469 with
             | true =>
              try dsimp only at hE524
              refine gv1 17 205 (.slice A64 l63.length c65) rfl hS467 ?_
              refine gv1 18 206 (.int .i64 x120) rfl hS467 ?_
              refine gv1 19 207 (.int .i64 (IntKind.i64.wrap (x120 - 1))) rfl hS467 ?_
              obtain ⟨x528, hx529, hE524⟩ := bind_in hE524
              obtain ⟨g530, o531, e532, hA533, he534, h535, ha536⟩ := elem_at (e := encitemiseRun) (rowG_lies (e := encitemiseRun) rfl (hS467.get 2 rfl)) hf80 hx529 (by decide)
              obtain ⟨e537, e538, rfl, h539, h540⟩ := h535
              obtain rfl := h539
              obtain ⟨e541, e542, rfl, h543, h544⟩ := h540
              obtain rfl := h543
              obtain ⟨e545, e546, rfl, h547, h548⟩ := h544
              obtain rfl := h547
              obtain rfl := h548
              have ha536 : ∀ w', Lies w' A64 vs66 → w'.rangeAt g530 o531 [.int .i64 x528.1, .int .i64 x528.2.1, .int .u8 x528.2.2.1, .int .u8 x528.2.2.2] := ha536
              refine gu1 20 208 (.pointer (some ⟨g530, o531, none⟩)) rfl hS467 (fun w hSw => run_ixaddrN (E := 35) (s := 4) (k := .i64) (c := c65) rfl (by as_aux_lemma => kernel_rfl) (by as_aux_lemma => kernel_rfl) (by as_aux_lemma => kernel_rfl) (fun _ => by kernel_rfl) (ixg_in hx529).1 (ixg_in hx529).2.1 hA533) ?_
              refine gv1 21 209 (.pointer (some ⟨g530, o531 + 3, none⟩)) rfl hS467 ?_
              refine gu1 22 210 (.int .u8 x528.2.2.2) rfl hS467 (fun w hSw => run_loadN1 3 rfl (by as_aux_lemma => kernel_rfl) (fun _ => by kernel_rfl) (ha536 _ (rowG_lies (e := encitemiseRun) rfl (hSw.get 2 rfl))) rfl) ?_
              refine gv1 23 211 (.slice A64 l63.length c65) rfl hS467 ?_
              refine gv1 24 212 (.int .i64 x120) rfl hS467 ?_
              obtain ⟨x549, hx550, hE524⟩ := bind_in hE524
              obtain ⟨g551, o552, e553, hA554, he555, h556, ha557⟩ := elem_at (e := encitemiseRun) (rowG_lies (e := encitemiseRun) rfl (hS467.get 2 rfl)) hf80 hx550 (by decide)
              obtain ⟨e558, e559, rfl, h560, h561⟩ := h556
              obtain rfl := h560
              obtain ⟨e562, e563, rfl, h564, h565⟩ := h561
              obtain rfl := h564
              obtain ⟨e566, e567, rfl, h568, h569⟩ := h565
              obtain rfl := h568
              obtain rfl := h569
              have ha557 : ∀ w', Lies w' A64 vs66 → w'.rangeAt g551 o552 [.int .i64 x549.1, .int .i64 x549.2.1, .int .u8 x549.2.2.1, .int .u8 x549.2.2.2] := ha557
              refine gu1 25 213 (.pointer (some ⟨g551, o552, none⟩)) rfl hS467 (fun w hSw => run_ixaddrN (E := 35) (s := 4) (k := .i64) (c := c65) rfl (by as_aux_lemma => kernel_rfl) (by as_aux_lemma => kernel_rfl) (by as_aux_lemma => kernel_rfl) (fun _ => by kernel_rfl) (ixg_in hx550).1 (ixg_in hx550).2.1 hA554) ?_
              refine gv1 26 214 (.pointer (some ⟨g551, o552 + 3, none⟩)) rfl hS467 ?_
              refine gu1 27 215 (.int .u8 x549.2.2.2) rfl hS467 (fun w hSw => run_loadN1 3 rfl (by as_aux_lemma => kernel_rfl) (fun _ => by kernel_rfl) (ha557 _ (rowG_lies (e := encitemiseRun) rfl (hSw.get 2 rfl))) rfl) ?_
              rcases if_in hE524 with ⟨h570, hE524⟩ | ⟨h570, hE524⟩
              ·refine gu1 28 216 (.bool true) rfl hS467 (fun w hSw => run_boolE (decide_eq_true h570) (by as_aux_lemma => kernel_rfl)) ?_
               refine gv1 29 217 (.bool true) rfl hS467 ?_
               exact gd_to hK527 (by as_aux_lemma => kernel_rfl) ⟨true, selfA_i (by as_aux_lemma => kernel_rfl), (Option.some.inj hE524), hS467⟩
              ·refine gu1 28 216 (.bool false) rfl hS467 (fun w hSw => run_boolE (decide_eq_false h570) (by as_aux_lemma => kernel_rfl)) ?_
               refine gv1 29 217 (.bool false) rfl hS467 ?_
               exact gd_to hK527 (by as_aux_lemma => kernel_rfl) ⟨false, selfA_i (by as_aux_lemma => kernel_rfl), (Option.some.inj hE524), hS467⟩
             | false =>
              try dsimp only at hE524
              refine gz1 17 205 rfl hS467 ?_
              refine gz1 18 206 rfl hS467 ?_
              refine gz1 19 207 rfl hS467 ?_
              refine gz1 20 208 rfl hS467 ?_
              refine gz1 21 209 rfl hS467 ?_
              refine gz1 22 210 rfl hS467 ?_
              refine gz1 23 211 rfl hS467 ?_
              refine gz1 24 212 rfl hS467 ?_
              refine gz1 25 213 rfl hS467 ?_
              refine gz1 26 214 rfl hS467 ?_
              refine gz1 27 215 rfl hS467 ?_
              refine gz1 28 216 rfl hS467 ?_
              refine gv1 29 217 (.bool false) rfl hS467 ?_
              exact gd_to hK527 (by as_aux_lemma => kernel_rfl) ⟨false, selfA_i (by as_aux_lemma => kernel_rfl), (Option.some.inj hE524), hS467⟩
           ·intro hK474
            rcases if_in hE471 with ⟨h475, hE471⟩ | ⟨h475, hE471⟩
            ·refine gu1 1 189 (.bool true) rfl hS465 (fun w hSw => run_boolE (decide_eq_true h475) (by as_aux_lemma => kernel_rfl)) ?_
             refine gv1 2 190 (.bool true) rfl hS465 ?_
             refine gv1 3 191 (.slice A64 l63.length c65) rfl hS465 ?_
             refine gv1 4 192 (.int .i64 x120) rfl hS465 ?_
             refine gv1 5 193 (.int .i64 (IntKind.i64.wrap (x120 - 1))) rfl hS465 ?_
             obtain ⟨x476, hx477, hE471⟩ := bind_in hE471
             obtain ⟨g478, o479, e480, hA481, he482, h483, ha484⟩ := elem_at (e := encitemiseRun) (rowG_lies (e := encitemiseRun) rfl (hS465.get 2 rfl)) hf80 hx477 (by decide)
             obtain ⟨e485, e486, rfl, h487, h488⟩ := h483
             obtain rfl := h487
             obtain ⟨e489, e490, rfl, h491, h492⟩ := h488
             obtain rfl := h491
             obtain ⟨e493, e494, rfl, h495, h496⟩ := h492
             obtain rfl := h495
             obtain rfl := h496
             have ha484 : ∀ w', Lies w' A64 vs66 → w'.rangeAt g478 o479 [.int .i64 x476.1, .int .i64 x476.2.1, .int .u8 x476.2.2.1, .int .u8 x476.2.2.2] := ha484
             refine gu1 6 194 (.pointer (some ⟨g478, o479, none⟩)) rfl hS465 (fun w hSw => run_ixaddrN (E := 35) (s := 4) (k := .i64) (c := c65) rfl (by as_aux_lemma => kernel_rfl) (by as_aux_lemma => kernel_rfl) (by as_aux_lemma => kernel_rfl) (fun _ => by kernel_rfl) (ixg_in hx477).1 (ixg_in hx477).2.1 hA481) ?_
             refine gv1 7 195 (.pointer (some ⟨g478, o479 + 2, none⟩)) rfl hS465 ?_
             refine gu1 8 196 (.int .u8 x476.2.2.1) rfl hS465 (fun w hSw => run_loadN1 2 rfl (by as_aux_lemma => kernel_rfl) (fun _ => by kernel_rfl) (ha484 _ (rowG_lies (e := encitemiseRun) rfl (hSw.get 2 rfl))) rfl) ?_
             refine gv1 9 197 (.slice A64 l63.length c65) rfl hS465 ?_
             refine gv1 10 198 (.int .i64 x120) rfl hS465 ?_
             obtain ⟨x497, hx498, hE471⟩ := bind_in hE471
             obtain ⟨g499, o500, e501, hA502, he503, h504, ha505⟩ := elem_at (e := encitemiseRun) (rowG_lies (e := encitemiseRun) rfl (hS465.get 2 rfl)) hf80 hx498 (by decide)
             obtain ⟨e506, e507, rfl, h508, h509⟩ := h504
             obtain rfl := h508
             obtain ⟨e510, e511, rfl, h512, h513⟩ := h509
             obtain rfl := h512
             obtain ⟨e514, e515, rfl, h516, h517⟩ := h513
             obtain rfl := h516
             obtain rfl := h517
             have ha505 : ∀ w', Lies w' A64 vs66 → w'.rangeAt g499 o500 [.int .i64 x497.1, .int .i64 x497.2.1, .int .u8 x497.2.2.1, .int .u8 x497.2.2.2] := ha505
             refine gu1 11 199 (.pointer (some ⟨g499, o500, none⟩)) rfl hS465 (fun w hSw => run_ixaddrN (E := 35) (s := 4) (k := .i64) (c := c65) rfl (by as_aux_lemma => kernel_rfl) (by as_aux_lemma => kernel_rfl) (by as_aux_lemma => kernel_rfl) (fun _ => by kernel_rfl) (ixg_in hx498).1 (ixg_in hx498).2.1 hA502) ?_
             refine gv1 12 200 (.pointer (some ⟨g499, o500 + 2, none⟩)) rfl hS465 ?_
             refine gu1 13 201 (.int .u8 x497.2.2.1) rfl hS465 (fun w hSw => run_loadN1 2 rfl (by as_aux_lemma => kernel_rfl) (fun _ => by kernel_rfl) (ha505 _ (rowG_lies (e := encitemiseRun) rfl (hSw.get 2 rfl))) rfl) ?_
             rcases if_in hE471 with ⟨h518, hE471⟩ | ⟨h518, hE471⟩
             ·refine gu1 14 202 (.bool true) rfl hS465 (fun w hSw => run_boolE (decide_eq_true h518) (by as_aux_lemma => kernel_rfl)) ?_
              refine gv1 15 203 (.bool true) rfl hS465 ?_
              exact gd_to hK474 (by as_aux_lemma => kernel_rfl) ⟨true, selfA_i (by as_aux_lemma => kernel_rfl), (Option.some.inj hE471), hS465⟩
             ·refine gu1 14 202 (.bool false) rfl hS465 (fun w hSw => run_boolE (decide_eq_false h518) (by as_aux_lemma => kernel_rfl)) ?_
              refine gv1 15 203 (.bool false) rfl hS465 ?_
              exact gd_to hK474 (by as_aux_lemma => kernel_rfl) ⟨false, selfA_i (by as_aux_lemma => kernel_rfl), (Option.some.inj hE471), hS465⟩
            ·refine gu1 1 189 (.bool false) rfl hS465 (fun w hSw => run_boolE (decide_eq_false h475) (by as_aux_lemma => kernel_rfl)) ?_
             refine gv1 2 190 (.bool false) rfl hS465 ?_
             refine gz1 3 191 rfl hS465 ?_
             refine gz1 4 192 rfl hS465 ?_
             refine gz1 5 193 rfl hS465 ?_
             refine gz1 6 194 rfl hS465 ?_
             refine gz1 7 195 rfl hS465 ?_
             refine gz1 8 196 rfl hS465 ?_
             refine gz1 9 197 rfl hS465 ?_
             refine gz1 10 198 rfl hS465 ?_
             refine gz1 11 199 rfl hS465 ?_
             refine gz1 12 200 rfl hS465 ?_
             refine gz1 13 201 rfl hS465 ?_
             refine gz1 14 202 rfl hS465 ?_
             refine gv1 15 203 (.bool false) rfl hS465 ?_
             exact gd_to hK474 (by as_aux_lemma => kernel_rfl) ⟨false, selfA_i (by as_aux_lemma => kernel_rfl), (Option.some.inj hE471), hS465⟩
        ·rintro _ w128 ⟨x131, hq605, rfl, hS129⟩
         obtain ⟨u130, rfl⟩ := selfA_u hq605
         try dsimp only at hO134
         refine gx_region ?_
         refine gx_kA (.int .i64 x120) w128 (gx_kA (.int .i64 (IntKind.i64.wrap (x120 + 1))) w128 (gx_kA (.int .i64 (IntKind.i64.wrap (x120 + 1))) w128 ?_))
         refine gx_nil ?_
         refine gx_thenN ?_
         exact ⟨k121, Nat.lt_succ_self k121, x131, (IntKind.i64.wrap (x120 + 1)), selfA_i (by as_aux_lemma => kernel_rfl), hO134, hS129⟩
       ·refine gx_vA (.bool false) w116 (run_boolE (decide_eq_false h127) (by as_aux_lemma => kernel_rfl)) ?_
        refine gx_nil ?_
        refine gx_thenN ?_
        refine hK126 _ _ ?_
        refine gx_no (by as_aux_lemma => kernel_rfl) ?_
        refine gx_exit ?_
        refine gx_thenE ?_
        refine gx_thenE ?_
        refine gx_blkE ?_
        refine gx_thenN ?_
        exact ⟨x119, selfA_i (by as_aux_lemma => kernel_rfl), (Option.some.inj hL122), (hS117.pick [0] rfl rfl)⟩
    ·rintro _ w107 ⟨x110, hq616, rfl, hS108⟩
     obtain ⟨u109, rfl⟩ := selfA_u hq616
     try dsimp only at hO113
     refine gx_seq (fun K607 hK608 => ?_)
     refine gx_region ?_
     refine gx_kA (.int .i64 x110) w107 (gx_kA (.slice A0 p0.length c0) w107 (gx_kA (.int .i64 ((p0.length : Nat) : Int)) w107 ?_))
     rcases if_in hO113 with ⟨h609, hO113⟩ | ⟨h609, hO113⟩
     ·refine gx_vA (.bool true) w107 (run_boolE (decide_eq_true h609) (by as_aux_lemma => kernel_rfl)) ?_
      refine gx_kA (.bool true) w107 ?_
      have hP610 : St _ _ w107 ([] ++ [poolE ft73 W74]) := hS108
      obtain ⟨b612, hc611, hO113⟩ := bind_in hO113
      try dsimp only at hO113
      refine gx_cA (kWorks_R b612 w107) (kWorks_ok N  _ hc611 w107 (MirB.atL hcd hP610)) ?_
      rintro _ w613 ⟨rfl, hT615⟩
      have hS614 : St _ _ w613 [poolE ft73 W74] := hS108.take _ hT615
      refine gx_kA (.bool b612) w613 (gx_kA (.bool b612) w613 ?_)
      refine gx_nil ?_
      refine gx_thenN ?_
      refine hK608 _ _ ?_
      refine gx_ret ?_
      obtain rfl := Option.some.inj hO113
      exact gx_fin (.bool b612) (by as_aux_lemma => kernel_rfl) (by as_aux_lemma => kernel_rfl) ⟨_, rfl, rfl, (hS614.pick [] rfl rfl)⟩
     ·refine gx_vA (.bool false) w107 (run_boolE (decide_eq_false h609) (by as_aux_lemma => kernel_rfl)) ?_
      refine gx_kA (.bool false) w107 (gx_oA (gx_kA (.bool false) w107 (gx_kA (.bool false) w107 ?_)))
      refine gx_nil ?_
      refine gx_thenN ?_
      refine hK608 _ _ ?_
      refine gx_ret ?_
      obtain rfl := Option.some.inj hO113
      exact gx_fin (.bool false) (by as_aux_lemma => kernel_rfl) (by as_aux_lemma => kernel_rfl) ⟨_, rfl, rfl, (hS108.pick [] rfl rfl)⟩
end Go.Proofs.YtkcmemldhbifdaaDoor
