/-
  EmbedWithout, walked.
-/
import Derived.Test.YtjndolnjhbgflaaF1
namespace Go.Proofs.Ytjndolnjhbgflaa
open Go Go.RowKit
set_option linter.unusedVariables false

def fWithout_L2 (N : Nat) (p0 : List Int) (p3 : List Int) (x76 : Int) : Nat → (List Int) → (List Int) → (List Int) → Int → Option (List Int × List Int × List Int)
 | 0, _, _, _, _ => none
 | k129+1, l121, l124, l127, x128 => (if x128 < ((p3.length : Nat) : Int) then ((ix p3 x128).bind fun x140 => (if (IntKind.i64.wrap (((p0.length : Nat) : Int) + 1)) = 0 then none else (if (Int.tmod (IntKind.i64.wrap x140) (IntKind.i64.wrap (((p0.length : Nat) : Int) + 1))) = x76 then ((ix p3 x128).bind fun x148 => ((ix ([10, 19, 16, 17]) (Int.tmod (IntKind.u16.wrap (Int.tdiv x148 7)) 4)).bind fun x150 => ((apx l121 ([x150])).bind fun l154 => ((ix p3 x128).bind fun x163 => ((apx l124 ([(IntKind.u8.wrap (Int.fdiv x163 256))])).bind fun l167 => ((apx l127 ([-1])).bind fun l176 => fWithout_L2 N p0 p3 x76 k129 l154 l167 l176 (IntKind.i64.wrap (x128 + 1)))))))) else fWithout_L2 N p0 p3 x76 k129 l121 l124 l127 (IntKind.i64.wrap (x128 + 1))))) else some ((l121, l124, l127)))
def fWithout_L1 (N : Nat) (p0 : List Int) (p1 : List Int) (p3 : List Int) : Nat → (List Int) → (List Int) → (List Int) → Int → Option (List Int × List Int × List Int)
 | 0, _, _, _, _ => none
 | k77+1, l69, l72, l75, x76 => (if x76 ≤ ((p0.length : Nat) : Int) then ((((fWithout_L2 N p0 p3 x76 N l69 l72 l75 0 : Option (List Int × List Int × List Int)).bind fun (l104, l107, l110) => (if x76 < ((p0.length : Nat) : Int) then ((ix p0 x76).bind fun x189 => ((apx l104 ([x189])).bind fun l193 => ((ix p1 x76).bind fun x202 => ((apx l107 ([x202])).bind fun l206 => ((apx l110 ([x76])).bind fun l215 => some ((l193, l206, l215))))))) else some ((l104, l107, l110)))) : Option (List Int × List Int × List Int)).bind fun (l89, l92, l95) => fWithout_L1 N p0 p1 p3 k77 l89 l92 l95 (IntKind.i64.wrap (x76 + 1))) else some ((l69, l72, l75)))
def fWithout_L4 (N : Nat) (l55 : List Int) (l229 : List (List Int × Int × Int × Int)) (l247 : List (List Int × Int × Int × Int)) (x295 : Int) : Nat → Int → Option (Ctl (Unit) (Bool))
 | 0, _ => none
 | k551+1, x550 => ((ixg l229 x295).bind fun x557 => (if x550 < (((x557.1).length : Nat) : Int) then ((ixg l247 x295).bind fun x587 => ((ix x587.1 x550).bind fun x612 => (((if x612 < 0 then some (true) else (if x612 ≥ ((l55.length : Nat) : Int) then some (true) else some (false))) : Option (Bool)).bind fun b621 => (match b621 with | true => some (Ctl.ret false) | false => ((ix l55 x612).bind fun x631 => ((ixg l229 x295).bind fun x633 => ((ix x633.1 x550).bind fun x658 => (if x631 ≠ x658 then some (Ctl.ret false) else fWithout_L4 N l55 l229 l247 x295 k551 (IntKind.i64.wrap (x550 + 1)))))))))) else some (Ctl.go ())))
def fWithout_L3 (N : Nat) (l55 : List Int) (l229 : List (List Int × Int × Int × Int)) (l247 : List (List Int × Int × Int × Int)) : Nat → Int → Option (Ctl (Unit) (Bool))
 | 0, _ => none
 | k296+1, x295 => (if x295 < ((l229.length : Nat) : Int) then ((((((ixg l229 x295).bind fun x319 => ((ixg l247 x295).bind fun x344 => (((if (((x319.1).length : Nat) : Int) ≠ (((x344.1).length : Nat) : Int) then some (true) else ((ixg l229 x295).bind fun x379 => ((ixg l247 x295).bind fun x404 => (if x379.2.1 ≠ x404.2.1 then some (true) else some (false))))) : Option (Bool)).bind fun b372 => (((match b372 with | true => some (true) | false => ((ixg l229 x295).bind fun x439 => ((ixg l247 x295).bind fun x464 => (if x439.2.2.1 ≠ x464.2.2.1 then some (true) else some (false))))) : Option (Bool)).bind fun b433 => (match b433 with | true => some (Ctl.ret false) | false => ((ixg l229 x295).bind fun x492 => ((ixg l247 x295).bind fun x517 => (if x492.2.2.2 ≠ x517.2.2.2 then some (Ctl.ret false) else some (Ctl.go ()))))))))) : Option (Ctl (Unit) (Bool))).bind fun | Ctl.go () => fWithout_L4 N l55 l229 l247 x295 N 0 | Ctl.ret r => some (Ctl.ret r)) : Option (Ctl (Unit) (Bool))).bind fun | Ctl.go () => fWithout_L3 N l55 l229 l247 k296 (IntKind.i64.wrap (x295 + 1)) | Ctl.ret r => some (Ctl.ret r)) else some (Ctl.go ()))
def fWithout (N : Nat) (p0 : List Int) (p1 : List Int) (p2 : Int) (p3 : List Int) : Option (Bool) :=
 (((((if ((p0.length : Nat) : Int) > 1000 then some (true) else (if ((p3.length : Nat) : Int) > 100 then some (true) else some (false))) : Option (Bool)).bind fun b14 => (match b14 with | true => ((kIso N ).bind fun b25 => some (Ctl.ret b25)) | false => (if ((p0.length : Nat) : Int) ≠ ((p1.length : Nat) : Int) then ((kIso N ).bind fun b34 => some (Ctl.ret b34)) else some (Ctl.go ())))) : Option (Ctl (Unit) (Bool))).bind fun | Ctl.go () => ((fWithout_L1 N p0 p1 p3 N ([]) ([]) ([]) 0 : Option (List Int × List Int × List Int)).bind fun (l49, l52, l55) => ((pSeqs N p0 p1 p2).bind fun (l229, x233) => ((pSeqs N l49 l52 p2).bind fun (l247, x251) => (((((if x233 ≠ 0 then some (true) else (if x251 ≠ 0 then some (true) else some (false))) : Option (Bool)).bind fun b272 => (match b272 with | true => some (Ctl.ret false) | false => (if ((l229.length : Nat) : Int) ≠ ((l247.length : Nat) : Int) then some (Ctl.ret false) else some (Ctl.go ())))) : Option (Ctl (Unit) (Bool))).bind fun | Ctl.go () => ((fWithout_L3 N l55 l229 l247 N 0 : Option (Ctl (Unit) (Bool))).bind fun | Ctl.go () => ((kIso N ).bind fun b671 => some b671) | Ctl.ret r => some r) | Ctl.ret r => some r)))) | Ctl.ret r => some r)

set_option linter.unusedVariables false in
def fWithout_R (r : Bool) (w0 : World) (v : Value) (w : World) : Prop := v = .bool r ∧ St [] w0 w []

set_option maxRecDepth 100000 in
set_option maxHeartbeats 4000000 in
theorem fWithout_ok (N : Nat) (p0 : List Int) (p1 : List Int) (p2 : Int) (p3 : List Int) (A0 : Option Addr) (c0 : Nat) (A1 : Option Addr) (c1 : Nat) (A3 : Option Addr) (c3 : Nat) (r : Bool) (hF : fWithout N p0 p1 p2 p3 = some r) (w0 : World) (hv0 : Vw [] .u8 w0 A0 c0 p0) (hv1 : Vw [] .u8 w0 A1 c1 p1) (hv3 : Vw [] .u16 w0 A3 c3 p3) :
  Calls Try.prog 5 #[.slice A0 p0.length c0, .slice A1 p1.length c1, .int .u8 p2, .slice A3 p3.length c3] w0 fun e w => ∃ v, e = .returned v ∧ fWithout_R r w0 v w := by
 have hS0 := (St.start w0).pool0
 unfold fWithout at hF
 refine calls_of Try.func5 rfl ⟨((.slice A0 p0.length c0) :: (.slice A1 p1.length c1) :: (.int .u8 p2) :: (.slice A3 p3.length c3) :: un 229 ([])).toArray, []⟩ (by as_aux_lemma => kernel_rfl) ?_
 refine gx_seq (fun K1 hK2 => ?_)
 refine gx_region ?_
 refine gx_kA (.bool false) w0 ?_
 refine gx_nil ?_
 refine gx_thenN ?_
 refine hK2 _ _ ?_
 obtain ⟨c6, hE7, hO8⟩ := bind_in hF
 refine gx_cut (fun a w => selfA (fun u5 => ⟨((.slice A0 p0.length c0) :: (.slice A1 p1.length c1) :: (.int .u8 p2) :: (.slice A3 p3.length c3) :: un 4 ((u5 8) :: un 12 (dd u5 21 16 (un 196 ([]))))).toArray, []⟩) a ∧ Ctl.go () = c6 ∧ St [] w0 w [poolE ([]) w0]) ?_ ?_
 ·refine gx_seq (fun K9 hK10 => ?_)
  refine gx_region ?_
  refine gx_kA (.slice A0 p0.length c0) w0 (gx_kA (.int .i64 ((p0.length : Nat) : Int)) w0 ?_)
  obtain ⟨c15, hE16, hO17⟩ := bind_in hE7
  refine gx_part (l1 := [_, _, _, _, _, _]) (fun a w => ∃ (b14 : Bool), selfA (fun u13 => ⟨((.slice A0 p0.length c0) :: (.slice A1 p1.length c1) :: (.int .u8 p2) :: (.slice A3 p3.length c3) :: un 4 ((.bool false) :: un 12 ((u13 21) :: (.int .i64 ((p0.length : Nat) : Int)) :: dd u13 23 5 ((.bool b14) :: un 204 ([]))))).toArray, []⟩) a ∧ b14 = c15 ∧ St [] w0 w [poolE ([]) w0]) rfl ?_ ?_
  ·rcases if_in hE16 with ⟨h19, hE16⟩ | ⟨h19, hE16⟩
   ·refine gx_vA (.bool true) w0 (run_boolE (decide_eq_true h19) (by as_aux_lemma => kernel_rfl)) ?_
    refine gx_kA (.bool true) w0 (gx_oA (gx_oA (gx_oA (gx_kA (.bool true) w0 ?_))))
    refine gx_nil ?_
    refine gx_thenN ?_
    exact ⟨true, selfA_i (by as_aux_lemma => kernel_rfl), (Option.some.inj hE16), hS0⟩
   ·refine gx_vA (.bool false) w0 (run_boolE (decide_eq_false h19) (by as_aux_lemma => kernel_rfl)) ?_
    refine gx_kA (.bool false) w0 (gx_kA (.slice A3 p3.length c3) w0 (gx_kA (.int .i64 ((p3.length : Nat) : Int)) w0 ?_))
    rcases if_in hE16 with ⟨h20, hE16⟩ | ⟨h20, hE16⟩
    ·refine gx_vA (.bool true) w0 (run_boolE (decide_eq_true h20) (by as_aux_lemma => kernel_rfl)) ?_
     refine gx_kA (.bool true) w0 ?_
     refine gx_nil ?_
     refine gx_thenN ?_
     exact ⟨true, selfA_i (by as_aux_lemma => kernel_rfl), (Option.some.inj hE16), hS0⟩
    ·refine gx_vA (.bool false) w0 (run_boolE (decide_eq_false h20) (by as_aux_lemma => kernel_rfl)) ?_
     refine gx_kA (.bool false) w0 ?_
     refine gx_nil ?_
     refine gx_thenN ?_
     exact ⟨false, selfA_i (by as_aux_lemma => kernel_rfl), (Option.some.inj hE16), hS0⟩
  ·rintro _ w11 ⟨b14, hq18, rfl, hS12⟩
   obtain ⟨u13, rfl⟩ := selfA_u hq18
   try dsimp only at hO17
   refine gx_kA (.bool b14) w11 ?_
   cases b14 with
   | true =>
    try dsimp only at hO17
    refine gx_oA (gx_oA (gx_oA (gx_oA (gx_oA (gx_kA (.bool true) w11 ?_)))))
    refine gx_nil ?_
    refine gx_thenN ?_
    refine hK10 _ _ ?_
    refine gx_yes (by as_aux_lemma => kernel_rfl) ?_
    refine gx_seq (fun K21 hK22 => ?_)
    refine gx_region ?_
    have hP23 : St _ _ w11 ([] ++ [poolE ([]) w0]) := hS12
    obtain ⟨b25, hc24, hO17⟩ := bind_in hO17
    try dsimp only at hO17
    refine gx_cA (kIso_R b25 w11) (kIso_ok N  _ hc24 w11 ) ?_
    rintro _ w26 ⟨rfl, hT28⟩
    have hS27 : St _ _ w26 [poolE ([]) w0] := hS12.take _ hT28
    refine gx_kA (.bool b25) w26 ?_
    refine gx_nil ?_
    refine gx_thenN ?_
    refine hK22 _ _ ?_
    refine gx_ret ?_
    refine gx_thenR ?_
    obtain rfl := Option.some.inj hO17
    try dsimp only at hO8
    obtain rfl := Option.some.inj hO8
    exact gx_fin (.bool b25) (by as_aux_lemma => kernel_rfl) (by as_aux_lemma => kernel_rfl) ⟨_, rfl, rfl, (hS27.pick [] rfl rfl)⟩
   | false =>
    try dsimp only at hO17
    refine gx_kA (.slice A0 p0.length c0) w11 (gx_kA (.int .i64 ((p0.length : Nat) : Int)) w11 (gx_kA (.slice A1 p1.length c1) w11 (gx_kA (.int .i64 ((p1.length : Nat) : Int)) w11 ?_)))
    rcases if_in hO17 with ⟨h29, hO17⟩ | ⟨h29, hO17⟩
    ·refine gx_vA (.bool true) w11 (run_boolE (ne_yes h29) (by as_aux_lemma => kernel_rfl)) ?_
     refine gx_kA (.bool true) w11 ?_
     refine gx_nil ?_
     refine gx_thenN ?_
     refine hK10 _ _ ?_
     refine gx_yes (by as_aux_lemma => kernel_rfl) ?_
     refine gx_seq (fun K30 hK31 => ?_)
     refine gx_region ?_
     have hP32 : St _ _ w11 ([] ++ [poolE ([]) w0]) := hS12
     obtain ⟨b34, hc33, hO17⟩ := bind_in hO17
     try dsimp only at hO17
     refine gx_cA (kIso_R b34 w11) (kIso_ok N  _ hc33 w11 ) ?_
     rintro _ w35 ⟨rfl, hT37⟩
     have hS36 : St _ _ w35 [poolE ([]) w0] := hS12.take _ hT37
     refine gx_kA (.bool b34) w35 ?_
     refine gx_nil ?_
     refine gx_thenN ?_
     refine hK31 _ _ ?_
     refine gx_ret ?_
     refine gx_thenR ?_
     obtain rfl := Option.some.inj hO17
     try dsimp only at hO8
     obtain rfl := Option.some.inj hO8
     exact gx_fin (.bool b34) (by as_aux_lemma => kernel_rfl) (by as_aux_lemma => kernel_rfl) ⟨_, rfl, rfl, (hS36.pick [] rfl rfl)⟩
    ·refine gx_vA (.bool false) w11 (run_boolE (ne_no h29) (by as_aux_lemma => kernel_rfl)) ?_
     refine gx_kA (.bool false) w11 ?_
     refine gx_nil ?_
     refine gx_thenN ?_
     refine hK10 _ _ ?_
     refine gx_no (by as_aux_lemma => kernel_rfl) ?_
     refine gx_pass ?_
     refine gx_thenN ?_
     exact ⟨selfA_i (by as_aux_lemma => kernel_rfl), (Option.some.inj hO17), hS12⟩
 ·rintro _ w3 ⟨hq678, rfl, hS4⟩
  obtain ⟨u5, rfl⟩ := selfA_u hq678
  try dsimp only at hO8
  refine gx_seq (fun K38 hK39 => ?_)
  refine gx_region ?_
  refine gx_kA (.slice none 0 0) w3 ?_
  refine gx_nil ?_
  refine gx_thenN ?_
  refine hK39 _ _ ?_
  refine gx_seq (fun K40 hK41 => ?_)
  refine gx_region ?_
  refine gx_kA (.slice none 0 0) w3 ?_
  refine gx_nil ?_
  refine gx_thenN ?_
  refine hK41 _ _ ?_
  refine gx_seq (fun K42 hK43 => ?_)
  refine gx_region ?_
  refine gx_kA (.slice none 0 0) w3 ?_
  refine gx_nil ?_
  refine gx_thenN ?_
  refine hK43 _ _ ?_
  obtain ⟨c56, hE57, hO58⟩ := bind_in hO8
  refine gx_cut (fun a w => ∃ (l49 : List Int) (l52 : List Int) (l55 : List Int) (A47 : Option Addr) (c48 : Nat) (A50 : Option Addr) (c51 : Nat) (A53 : Option Addr) (c54 : Nat), selfA (fun u46 => ⟨((.slice A0 p0.length c0) :: (.slice A1 p1.length c1) :: (.int .u8 p2) :: (u46 3) :: un 4 ((u5 8) :: (.slice A47 l49.length c48) :: (.slice A50 l52.length c51) :: (.slice A53 l55.length c54) :: dd u46 12 2 (un 7 (dd u5 21 16 (dd u46 37 69 (un 127 ([]))))))).toArray, []⟩) a ∧ (l49, l52, l55) = c56 ∧ St [] w0 w [poolE ([]) w0, rowE .u8 34 A47 c48 l49, rowE .u8 5 A50 c51 l52, rowE .i64 3 A53 c54 l55]) ?_ ?_
  ·refine gx_seq (fun K59 hK60 => ?_)
   refine gx_region ?_
   refine gx_kA (.int .i64 0) w3 ?_
   refine gx_nil ?_
   refine gx_thenN ?_
   refine hK60 _ _ ?_
   refine gx_block ?_
   have hS61 : St _ _ w3 [poolE ([]) w0, rowE .u8 34 none 0 ([])] := hS4.nilrow .u8 34
   have hS62 : St _ _ w3 [poolE ([]) w0, rowE .u8 34 none 0 ([]), rowE .u8 5 none 0 ([])] := hS61.nilrow .u8 5
   have hS63 : St _ _ w3 [poolE ([]) w0, rowE .u8 34 none 0 ([]), rowE .u8 5 none 0 ([]), rowE .i64 3 none 0 ([])] := hS62.nilrow .i64 3
   refine gx_loop (fun k a w => ∃ (l69 : List Int) (l72 : List Int) (l75 : List Int) (x76 : Int) (A67 : Option Addr) (c68 : Nat) (A70 : Option Addr) (c71 : Nat) (A73 : Option Addr) (c74 : Nat), selfA (fun u66 => ⟨((.slice A0 p0.length c0) :: (.slice A1 p1.length c1) :: (.int .u8 p2) :: (.slice A3 p3.length c3) :: un 4 ((u5 8) :: (.slice A67 l69.length c68) :: (.slice A70 l72.length c71) :: (.slice A73 l75.length c74) :: (.int .i64 x76) :: (u66 13) :: un 7 (dd u5 21 16 (dd u66 37 69 (un 127 ([])))))).toArray, []⟩) a ∧ fWithout_L1 N p0 p1 p3 k l69 l72 l75 x76 = some c56 ∧ St [] w0 w [poolE ([]) w0, rowE .u8 34 A67 c68 l69, rowE .u8 5 A70 c71 l72, rowE .i64 3 A73 c74 l75]) N ?_ ?_
   ·exact ⟨([]), ([]), ([]), 0, none, 0, none, 0, none, 0, selfA_i (by as_aux_lemma => kernel_rfl), hE57, hS63⟩
   ·rintro k77 _ w64 ⟨l69, l72, l75, x76, A67, c68, A70, c71, A73, c74, hq224, hL78, hS65⟩
    obtain ⟨u66, rfl⟩ := selfA_u hq224
    cases k77 with
    | zero => cases hL78
    | succ k77 =>
     first | rw [fWithout_L1] at hL78 | unfold fWithout_L1 at hL78
     refine gx_seq (fun K79 hK80 => ?_)
     refine gx_seq (fun K81 hK82 => ?_)
     refine gx_region ?_
     refine gx_kA (.int .i64 x76) w64 (gx_kA (.slice A0 p0.length c0) w64 (gx_kA (.int .i64 ((p0.length : Nat) : Int)) w64 ?_))
     rcases if_in hL78 with ⟨h83, hL78⟩ | ⟨h83, hL78⟩
     ·refine gx_vA (.bool true) w64 (run_boolE (decide_eq_true h83) (by as_aux_lemma => kernel_rfl)) ?_
      refine gx_nil ?_
      refine gx_thenN ?_
      refine hK82 _ _ ?_
      refine gx_yes (by as_aux_lemma => kernel_rfl) ?_
      refine gx_pass ?_
      refine gx_thenN ?_
      refine hK80 _ _ ?_
      obtain ⟨c96, hE97, hO98⟩ := bind_in hL78
      refine gx_cut (fun a w => ∃ (l89 : List Int) (l92 : List Int) (l95 : List Int) (A87 : Option Addr) (c88 : Nat) (A90 : Option Addr) (c91 : Nat) (A93 : Option Addr) (c94 : Nat), selfA (fun u86 => ⟨((.slice A0 p0.length c0) :: (.slice A1 p1.length c1) :: (.int .u8 p2) :: (.slice A3 p3.length c3) :: un 4 ((u5 8) :: (.slice A87 l89.length c88) :: (.slice A90 l92.length c91) :: (.slice A93 l95.length c94) :: (.int .i64 x76) :: (u86 13) :: un 7 (dd u5 21 16 ((.int .i64 x76) :: (u86 38) :: (.int .i64 ((p0.length : Nat) : Int)) :: (.bool true) :: dd u66 41 2 (dd u86 43 63 (un 127 ([]))))))).toArray, []⟩) a ∧ (l89, l92, l95) = c96 ∧ St [] w0 w [poolE ([]) w0, rowE .u8 34 A87 c88 l89, rowE .u8 5 A90 c91 l92, rowE .i64 3 A93 c94 l95]) ?_ ?_
      ·refine gx_block ?_
       obtain ⟨c111, hE112, hO113⟩ := bind_in hE97
       refine gx_cut (fun a w => ∃ (l104 : List Int) (l107 : List Int) (l110 : List Int) (A102 : Option Addr) (c103 : Nat) (A105 : Option Addr) (c106 : Nat) (A108 : Option Addr) (c109 : Nat), selfA (fun u101 => ⟨((.slice A0 p0.length c0) :: (.slice A1 p1.length c1) :: (.int .u8 p2) :: (.slice A3 p3.length c3) :: un 4 ((u5 8) :: (.slice A102 l104.length c103) :: (.slice A105 l107.length c106) :: (.slice A108 l110.length c109) :: (.int .i64 x76) :: (u101 13) :: un 7 (dd u5 21 16 ((.int .i64 x76) :: (u101 38) :: (.int .i64 ((p0.length : Nat) : Int)) :: (.bool true) :: dd u66 41 2 (dd u101 43 41 (dd u66 84 22 (un 127 ([])))))))).toArray, []⟩) a ∧ (l104, l107, l110) = c111 ∧ St [] w0 w [poolE ([]) w0, rowE .u8 34 A102 c103 l104, rowE .u8 5 A105 c106 l107, rowE .i64 3 A108 c109 l110]) ?_ ?_
       ·refine gx_seq (fun K114 hK115 => ?_)
        refine gx_region ?_
        refine gx_kA (.int .i64 0) w64 ?_
        refine gx_nil ?_
        refine gx_thenN ?_
        refine hK115 _ _ ?_
        refine gx_block ?_
        refine gx_loop (fun k a w => ∃ (l121 : List Int) (l124 : List Int) (l127 : List Int) (x128 : Int) (A119 : Option Addr) (c120 : Nat) (A122 : Option Addr) (c123 : Nat) (A125 : Option Addr) (c126 : Nat), selfA (fun u118 => ⟨((.slice A0 p0.length c0) :: (.slice A1 p1.length c1) :: (.int .u8 p2) :: (.slice A3 p3.length c3) :: un 4 ((u5 8) :: (.slice A119 l121.length c120) :: (.slice A122 l124.length c123) :: (.slice A125 l127.length c126) :: (.int .i64 x76) :: (.int .i64 x128) :: un 7 (dd u5 21 16 ((.int .i64 x76) :: (u118 38) :: (.int .i64 ((p0.length : Nat) : Int)) :: (.bool true) :: dd u66 41 2 (dd u118 43 41 (dd u66 84 22 (un 127 ([])))))))).toArray, []⟩) a ∧ fWithout_L2 N p0 p3 x76 k l121 l124 l127 x128 = some c111 ∧ St [] w0 w [poolE ([]) w0, rowE .u8 34 A119 c120 l121, rowE .u8 5 A122 c123 l124, rowE .i64 3 A125 c126 l127]) N ?_ ?_
        ·exact ⟨l69, l72, l75, 0, A67, c68, A70, c71, A73, c74, selfA_i (by as_aux_lemma => kernel_rfl), hE112, hS65⟩
        ·rintro k129 _ w116 ⟨l121, l124, l127, x128, A119, c120, A122, c123, A125, c126, hq183, hL130, hS117⟩
         obtain ⟨u118, rfl⟩ := selfA_u hq183
         cases k129 with
         | zero => cases hL130
         | succ k129 =>
          first | rw [fWithout_L2] at hL130 | unfold fWithout_L2 at hL130
          refine gx_seq (fun K131 hK132 => ?_)
          refine gx_seq (fun K133 hK134 => ?_)
          refine gx_region ?_
          refine gx_kA (.int .i64 x128) w116 (gx_kA (.slice A3 p3.length c3) w116 (gx_kA (.int .i64 ((p3.length : Nat) : Int)) w116 ?_))
          rcases if_in hL130 with ⟨h135, hL130⟩ | ⟨h135, hL130⟩
          ·refine gx_vA (.bool true) w116 (run_boolE (decide_eq_true h135) (by as_aux_lemma => kernel_rfl)) ?_
           refine gx_nil ?_
           refine gx_thenN ?_
           refine hK134 _ _ ?_
           refine gx_yes (by as_aux_lemma => kernel_rfl) ?_
           refine gx_pass ?_
           refine gx_thenN ?_
           refine hK132 _ _ ?_
           refine gx_seq (fun K136 hK137 => ?_)
           refine gx_block ?_
           refine gx_seq (fun K138 hK139 => ?_)
           refine gx_region ?_
           refine gx_kA (.slice A3 p3.length c3) w116 (gx_kA (.int .i64 x128) w116 ?_)
           obtain ⟨x140, hx141, hL130⟩ := bind_in hL130
           refine gx_vA (.pointer (Option.map (fun (p : Addr) => p.add (Int.toNat x128 * 1)) A3)) w116 (run_ixaddr (E := 45) (s := 1) (k := .i64) (c := c3) rfl (by as_aux_lemma => kernel_rfl) (by as_aux_lemma => kernel_rfl) (by as_aux_lemma => kernel_rfl) (fun _ => by kernel_rfl) (ix_in hx141).1 (ix_in hx141).2.1 (num_nil (hS117.view hv3))) ?_
           refine gx_vA (.int .u16 x140) w116 (run_loadix rfl (by as_aux_lemma => kernel_rfl) (fun _ => by kernel_rfl) (hS117.view hv3) hx141) ?_
           refine gx_kA (.int .i64 (IntKind.i64.wrap x140)) w116 (gx_kA (.slice A0 p0.length c0) w116 (gx_kA (.int .i64 ((p0.length : Nat) : Int)) w116 (gx_kA (.int .i64 (IntKind.i64.wrap (((p0.length : Nat) : Int) + 1))) w116 ?_)))
           rcases if_in hL130 with ⟨h142, hL130⟩ | ⟨h142, hL130⟩
           ·cases hL130
           ·refine gx_vA (.int .i64 (Int.tmod (IntKind.i64.wrap x140) (IntKind.i64.wrap (((p0.length : Nat) : Int) + 1)))) w116 (run_rem (T := 3) rfl (by as_aux_lemma => kernel_rfl) (by as_aux_lemma => kernel_rfl) rfl h142) ?_
            refine gx_kA (.int .i64 x76) w116 ?_
            rcases if_in hL130 with ⟨h143, hL130⟩ | ⟨h143, hL130⟩
            ·refine gx_vA (.bool true) w116 (run_boolE (decide_eq_true h143) (by as_aux_lemma => kernel_rfl)) ?_
             refine gx_nil ?_
             refine gx_thenN ?_
             refine hK139 _ _ ?_
             refine gx_yes (by as_aux_lemma => kernel_rfl) ?_
             refine gx_seq (fun K144 hK145 => ?_)
             refine gx_region ?_
             refine gx_kA (.slice A119 l121.length c120) w116 ?_
             refine gx_rA (st_made .u8 34 [10, 19, 16, 17] hS117 (by show 4 ≤ 1000000000; decide) (by as_aux_lemma => kernel_rfl)) ?_
             rintro _ w146 ⟨rfl, hS147⟩
             have hS147 : St _ _ w146 [poolE ([]) w0, rowE .u8 34 A119 c120 l121, rowE .u8 5 A122 c123 l124, rowE .i64 3 A125 c126 l127, rowE .u8 34 (some ⟨w116.heap.size, 0, none⟩) 4 ([10, 19, 16, 17])] := hS147
             refine gx_kA (.slice A3 p3.length c3) w146 (gx_kA (.int .i64 x128) w146 ?_)
             obtain ⟨x148, hx149, hL130⟩ := bind_in hL130
             refine gx_vA (.pointer (Option.map (fun (p : Addr) => p.add (Int.toNat x128 * 1)) A3)) w146 (run_ixaddr (E := 45) (s := 1) (k := .i64) (c := c3) rfl (by as_aux_lemma => kernel_rfl) (by as_aux_lemma => kernel_rfl) (by as_aux_lemma => kernel_rfl) (fun _ => by kernel_rfl) (ix_in hx149).1 (ix_in hx149).2.1 (num_nil (hS147.view hv3))) ?_
             refine gx_vA (.int .u16 x148) w146 (run_loadix rfl (by as_aux_lemma => kernel_rfl) (fun _ => by kernel_rfl) (hS147.view hv3) hx149) ?_
             refine gx_kA (.int .u16 (IntKind.u16.wrap (Int.tdiv x148 7))) w146 (gx_kA (.int .u16 (Int.tmod (IntKind.u16.wrap (Int.tdiv x148 7)) 4)) w146 ?_)
             obtain ⟨x150, hx151, hL130⟩ := bind_in hL130
             refine gx_vA (.pointer (Option.map (fun (p : Addr) => p.add (Int.toNat (Int.tmod (IntKind.u16.wrap (Int.tdiv x148 7)) 4) * 1)) (some ⟨w116.heap.size, 0, none⟩))) w146 (run_ixaddr (E := 34) (s := 1) (k := .u16) (c := 4) rfl (by as_aux_lemma => kernel_rfl) (by as_aux_lemma => kernel_rfl) (by as_aux_lemma => kernel_rfl) (fun _ => by kernel_rfl) (ix_in hx151).1 (ix_in hx151).2.1 (num_nil (hS147.row 4 rfl).1)) ?_
             refine gx_vA (.int .u8 x150) w146 (run_loadix rfl (by as_aux_lemma => kernel_rfl) (fun _ => by kernel_rfl) (hS147.row 4 rfl).1 hx151) ?_
             refine gx_rA (st_made .u8 34 [x150] hS147 (by show 1 ≤ 1000000000; decide) (by as_aux_lemma => kernel_rfl)) ?_
             rintro _ w152 ⟨rfl, hS153⟩
             have hS153 : St _ _ w152 [poolE ([]) w0, rowE .u8 34 A119 c120 l121, rowE .u8 5 A122 c123 l124, rowE .i64 3 A125 c126 l127, rowE .u8 34 (some ⟨w116.heap.size, 0, none⟩) 4 ([10, 19, 16, 17]), rowE .u8 34 (some ⟨w146.heap.size, 0, none⟩) 1 ([x150])] := hS153
             obtain ⟨l154, ha155, hL130⟩ := bind_in hL130
             obtain ⟨ha155, hq156⟩ := apx_in ha155
             refine gx_rA (st_append rfl (by as_aux_lemma => kernel_rfl) (by as_aux_lemma => kernel_rfl) hS153 1 rfl (hS153.row 5 rfl).1 (hS153.row 5 rfl).2 ha155 (by as_aux_lemma => kernel_rfl) (by as_aux_lemma => kernel_rfl)) ?_
             rintro _ w159 ⟨A157, c158, rfl, hS160⟩
             rw [← hq156] at hS160 ⊢
             have hS160 : St _ _ w159 [poolE ([]) w0, rowE .u8 34 A157 c158 l154, rowE .u8 5 A122 c123 l124, rowE .i64 3 A125 c126 l127, rowE .u8 34 (some ⟨w116.heap.size, 0, none⟩) 4 ([10, 19, 16, 17]), rowE .u8 34 (some ⟨w146.heap.size, 0, none⟩) 1 ([x150])] := hS160
             refine gx_kA (.slice A157 l154.length c158) w159 ?_
             refine gx_nil ?_
             refine gx_thenN ?_
             refine hK145 _ _ ?_
             refine gx_seq (fun K161 hK162 => ?_)
             refine gx_region ?_
             refine gx_kA (.slice A122 l124.length c123) w159 (gx_kA (.slice A3 p3.length c3) w159 (gx_kA (.int .i64 x128) w159 ?_))
             obtain ⟨x163, hx164, hL130⟩ := bind_in hL130
             refine gx_vA (.pointer (Option.map (fun (p : Addr) => p.add (Int.toNat x128 * 1)) A3)) w159 (run_ixaddr (E := 45) (s := 1) (k := .i64) (c := c3) rfl (by as_aux_lemma => kernel_rfl) (by as_aux_lemma => kernel_rfl) (by as_aux_lemma => kernel_rfl) (fun _ => by kernel_rfl) (ix_in hx164).1 (ix_in hx164).2.1 (num_nil (hS160.view hv3))) ?_
             refine gx_vA (.int .u16 x163) w159 (run_loadix rfl (by as_aux_lemma => kernel_rfl) (fun _ => by kernel_rfl) (hS160.view hv3) hx164) ?_
             refine gx_kA (.int .u16 (Int.fdiv x163 256)) w159 (gx_kA (.int .u8 (IntKind.u8.wrap (Int.fdiv x163 256))) w159 ?_)
             refine gx_rA (st_made .u8 5 [(IntKind.u8.wrap (Int.fdiv x163 256))] hS160 (by show 1 ≤ 1000000000; decide) (by as_aux_lemma => kernel_rfl)) ?_
             rintro _ w165 ⟨rfl, hS166⟩
             have hS166 : St _ _ w165 [poolE ([]) w0, rowE .u8 34 A157 c158 l154, rowE .u8 5 A122 c123 l124, rowE .i64 3 A125 c126 l127, rowE .u8 34 (some ⟨w116.heap.size, 0, none⟩) 4 ([10, 19, 16, 17]), rowE .u8 34 (some ⟨w146.heap.size, 0, none⟩) 1 ([x150]), rowE .u8 5 (some ⟨w159.heap.size, 0, none⟩) 1 ([(IntKind.u8.wrap (Int.fdiv x163 256))])] := hS166
             obtain ⟨l167, ha168, hL130⟩ := bind_in hL130
             obtain ⟨ha168, hq169⟩ := apx_in ha168
             refine gx_rA (st_append rfl (by as_aux_lemma => kernel_rfl) (by as_aux_lemma => kernel_rfl) hS166 2 rfl (hS166.row 6 rfl).1 (hS166.row 6 rfl).2 ha168 (by as_aux_lemma => kernel_rfl) (by as_aux_lemma => kernel_rfl)) ?_
             rintro _ w172 ⟨A170, c171, rfl, hS173⟩
             rw [← hq169] at hS173 ⊢
             have hS173 : St _ _ w172 [poolE ([]) w0, rowE .u8 34 A157 c158 l154, rowE .u8 5 A170 c171 l167, rowE .i64 3 A125 c126 l127, rowE .u8 34 (some ⟨w116.heap.size, 0, none⟩) 4 ([10, 19, 16, 17]), rowE .u8 34 (some ⟨w146.heap.size, 0, none⟩) 1 ([x150]), rowE .u8 5 (some ⟨w159.heap.size, 0, none⟩) 1 ([(IntKind.u8.wrap (Int.fdiv x163 256))])] := hS173
             refine gx_kA (.slice A170 l167.length c171) w172 ?_
             refine gx_nil ?_
             refine gx_thenN ?_
             refine hK162 _ _ ?_
             refine gx_region ?_
             refine gx_kA (.slice A125 l127.length c126) w172 ?_
             refine gx_rA (st_made .i64 3 [-1] hS173 (by show 1 ≤ 1000000000; decide) (by as_aux_lemma => kernel_rfl)) ?_
             rintro _ w174 ⟨rfl, hS175⟩
             have hS175 : St _ _ w174 [poolE ([]) w0, rowE .u8 34 A157 c158 l154, rowE .u8 5 A170 c171 l167, rowE .i64 3 A125 c126 l127, rowE .u8 34 (some ⟨w116.heap.size, 0, none⟩) 4 ([10, 19, 16, 17]), rowE .u8 34 (some ⟨w146.heap.size, 0, none⟩) 1 ([x150]), rowE .u8 5 (some ⟨w159.heap.size, 0, none⟩) 1 ([(IntKind.u8.wrap (Int.fdiv x163 256))]), rowE .i64 3 (some ⟨w172.heap.size, 0, none⟩) 1 ([-1])] := hS175
             obtain ⟨l176, ha177, hL130⟩ := bind_in hL130
             obtain ⟨ha177, hq178⟩ := apx_in ha177
             refine gx_rA (st_append rfl (by as_aux_lemma => kernel_rfl) (by as_aux_lemma => kernel_rfl) hS175 3 rfl (hS175.row 7 rfl).1 (hS175.row 7 rfl).2 ha177 (by as_aux_lemma => kernel_rfl) (by as_aux_lemma => kernel_rfl)) ?_
             rintro _ w181 ⟨A179, c180, rfl, hS182⟩
             rw [← hq178] at hS182 ⊢
             have hS182 : St _ _ w181 [poolE ([]) w0, rowE .u8 34 A157 c158 l154, rowE .u8 5 A170 c171 l167, rowE .i64 3 A179 c180 l176, rowE .u8 34 (some ⟨w116.heap.size, 0, none⟩) 4 ([10, 19, 16, 17]), rowE .u8 34 (some ⟨w146.heap.size, 0, none⟩) 1 ([x150]), rowE .u8 5 (some ⟨w159.heap.size, 0, none⟩) 1 ([(IntKind.u8.wrap (Int.fdiv x163 256))]), rowE .i64 3 (some ⟨w172.heap.size, 0, none⟩) 1 ([-1])] := hS182
             refine gx_kA (.slice A179 l176.length c180) w181 ?_
             refine gx_nil ?_
             refine gx_blkN ?_
             refine gx_thenN ?_
             refine hK137 _ _ ?_
             refine gx_region ?_
             refine gx_kA (.int .i64 x128) w181 (gx_kA (.int .i64 (IntKind.i64.wrap (x128 + 1))) w181 (gx_kA (.int .i64 (IntKind.i64.wrap (x128 + 1))) w181 ?_))
             refine gx_nil ?_
             refine gx_thenN ?_
             exact ⟨k129, Nat.lt_succ_self k129, l154, l167, l176, (IntKind.i64.wrap (x128 + 1)), A157, c158, A170, c171, A179, c180, selfA_i (by as_aux_lemma => kernel_rfl), hL130, (hS182.pick [0, 1, 2, 3] rfl rfl)⟩
            ·refine gx_vA (.bool false) w116 (run_boolE (decide_eq_false h143) (by as_aux_lemma => kernel_rfl)) ?_
             refine gx_nil ?_
             refine gx_thenN ?_
             refine hK139 _ _ ?_
             refine gx_no (by as_aux_lemma => kernel_rfl) ?_
             refine gx_pass ?_
             refine gx_blkN ?_
             refine gx_thenN ?_
             refine hK137 _ _ ?_
             refine gx_region ?_
             refine gx_kA (.int .i64 x128) w116 (gx_kA (.int .i64 (IntKind.i64.wrap (x128 + 1))) w116 (gx_kA (.int .i64 (IntKind.i64.wrap (x128 + 1))) w116 ?_))
             refine gx_nil ?_
             refine gx_thenN ?_
             exact ⟨k129, Nat.lt_succ_self k129, l121, l124, l127, (IntKind.i64.wrap (x128 + 1)), A119, c120, A122, c123, A125, c126, selfA_i (by as_aux_lemma => kernel_rfl), hL130, hS117⟩
          ·refine gx_vA (.bool false) w116 (run_boolE (decide_eq_false h135) (by as_aux_lemma => kernel_rfl)) ?_
           refine gx_nil ?_
           refine gx_thenN ?_
           refine hK134 _ _ ?_
           refine gx_no (by as_aux_lemma => kernel_rfl) ?_
           refine gx_exit ?_
           refine gx_thenE ?_
           refine gx_thenE ?_
           refine gx_blkE ?_
           refine gx_thenN ?_
           exact ⟨l121, l124, l127, A119, c120, A122, c123, A125, c126, selfA_i (by as_aux_lemma => kernel_rfl), (Option.some.inj hL130), hS117⟩
       ·rintro _ w99 ⟨l104, l107, l110, A102, c103, A105, c106, A108, c109, hq222, rfl, hS100⟩
        obtain ⟨u101, rfl⟩ := selfA_u hq222
        try dsimp only at hO113
        refine gx_seq (fun K184 hK185 => ?_)
        refine gx_region ?_
        refine gx_kA (.int .i64 x76) w99 (gx_kA (.slice A0 p0.length c0) w99 (gx_kA (.int .i64 ((p0.length : Nat) : Int)) w99 ?_))
        rcases if_in hO113 with ⟨h186, hO113⟩ | ⟨h186, hO113⟩
        ·refine gx_vA (.bool true) w99 (run_boolE (decide_eq_true h186) (by as_aux_lemma => kernel_rfl)) ?_
         refine gx_nil ?_
         refine gx_thenN ?_
         refine hK185 _ _ ?_
         refine gx_yes (by as_aux_lemma => kernel_rfl) ?_
         refine gx_seq (fun K187 hK188 => ?_)
         refine gx_region ?_
         refine gx_kA (.slice A102 l104.length c103) w99 (gx_kA (.slice A0 p0.length c0) w99 (gx_kA (.int .i64 x76) w99 ?_))
         obtain ⟨x189, hx190, hO113⟩ := bind_in hO113
         refine gx_vA (.pointer (Option.map (fun (p : Addr) => p.add (Int.toNat x76 * 1)) A0)) w99 (run_ixaddr (E := 34) (s := 1) (k := .i64) (c := c0) rfl (by as_aux_lemma => kernel_rfl) (by as_aux_lemma => kernel_rfl) (by as_aux_lemma => kernel_rfl) (fun _ => by kernel_rfl) (ix_in hx190).1 (ix_in hx190).2.1 (num_nil (hS100.view hv0))) ?_
         refine gx_vA (.int .u8 x189) w99 (run_loadix rfl (by as_aux_lemma => kernel_rfl) (fun _ => by kernel_rfl) (hS100.view hv0) hx190) ?_
         refine gx_rA (st_made .u8 34 [x189] hS100 (by show 1 ≤ 1000000000; decide) (by as_aux_lemma => kernel_rfl)) ?_
         rintro _ w191 ⟨rfl, hS192⟩
         have hS192 : St _ _ w191 [poolE ([]) w0, rowE .u8 34 A102 c103 l104, rowE .u8 5 A105 c106 l107, rowE .i64 3 A108 c109 l110, rowE .u8 34 (some ⟨w99.heap.size, 0, none⟩) 1 ([x189])] := hS192
         obtain ⟨l193, ha194, hO113⟩ := bind_in hO113
         obtain ⟨ha194, hq195⟩ := apx_in ha194
         refine gx_rA (st_append rfl (by as_aux_lemma => kernel_rfl) (by as_aux_lemma => kernel_rfl) hS192 1 rfl (hS192.row 4 rfl).1 (hS192.row 4 rfl).2 ha194 (by as_aux_lemma => kernel_rfl) (by as_aux_lemma => kernel_rfl)) ?_
         rintro _ w198 ⟨A196, c197, rfl, hS199⟩
         rw [← hq195] at hS199 ⊢
         have hS199 : St _ _ w198 [poolE ([]) w0, rowE .u8 34 A196 c197 l193, rowE .u8 5 A105 c106 l107, rowE .i64 3 A108 c109 l110, rowE .u8 34 (some ⟨w99.heap.size, 0, none⟩) 1 ([x189])] := hS199
         refine gx_kA (.slice A196 l193.length c197) w198 ?_
         refine gx_nil ?_
         refine gx_thenN ?_
         refine hK188 _ _ ?_
         refine gx_seq (fun K200 hK201 => ?_)
         refine gx_region ?_
         refine gx_kA (.slice A105 l107.length c106) w198 (gx_kA (.slice A1 p1.length c1) w198 (gx_kA (.int .i64 x76) w198 ?_))
         obtain ⟨x202, hx203, hO113⟩ := bind_in hO113
         refine gx_vA (.pointer (Option.map (fun (p : Addr) => p.add (Int.toNat x76 * 1)) A1)) w198 (run_ixaddr (E := 5) (s := 1) (k := .i64) (c := c1) rfl (by as_aux_lemma => kernel_rfl) (by as_aux_lemma => kernel_rfl) (by as_aux_lemma => kernel_rfl) (fun _ => by kernel_rfl) (ix_in hx203).1 (ix_in hx203).2.1 (num_nil (hS199.view hv1))) ?_
         refine gx_vA (.int .u8 x202) w198 (run_loadix rfl (by as_aux_lemma => kernel_rfl) (fun _ => by kernel_rfl) (hS199.view hv1) hx203) ?_
         refine gx_rA (st_made .u8 5 [x202] hS199 (by show 1 ≤ 1000000000; decide) (by as_aux_lemma => kernel_rfl)) ?_
         rintro _ w204 ⟨rfl, hS205⟩
         have hS205 : St _ _ w204 [poolE ([]) w0, rowE .u8 34 A196 c197 l193, rowE .u8 5 A105 c106 l107, rowE .i64 3 A108 c109 l110, rowE .u8 34 (some ⟨w99.heap.size, 0, none⟩) 1 ([x189]), rowE .u8 5 (some ⟨w198.heap.size, 0, none⟩) 1 ([x202])] := hS205
         obtain ⟨l206, ha207, hO113⟩ := bind_in hO113
         obtain ⟨ha207, hq208⟩ := apx_in ha207
         refine gx_rA (st_append rfl (by as_aux_lemma => kernel_rfl) (by as_aux_lemma => kernel_rfl) hS205 2 rfl (hS205.row 5 rfl).1 (hS205.row 5 rfl).2 ha207 (by as_aux_lemma => kernel_rfl) (by as_aux_lemma => kernel_rfl)) ?_
         rintro _ w211 ⟨A209, c210, rfl, hS212⟩
         rw [← hq208] at hS212 ⊢
         have hS212 : St _ _ w211 [poolE ([]) w0, rowE .u8 34 A196 c197 l193, rowE .u8 5 A209 c210 l206, rowE .i64 3 A108 c109 l110, rowE .u8 34 (some ⟨w99.heap.size, 0, none⟩) 1 ([x189]), rowE .u8 5 (some ⟨w198.heap.size, 0, none⟩) 1 ([x202])] := hS212
         refine gx_kA (.slice A209 l206.length c210) w211 ?_
         refine gx_nil ?_
         refine gx_thenN ?_
         refine hK201 _ _ ?_
         refine gx_region ?_
         refine gx_kA (.slice A108 l110.length c109) w211 (gx_kA (.int .i64 x76) w211 ?_)
         refine gx_rA (st_made .i64 3 [x76] hS212 (by show 1 ≤ 1000000000; decide) (by as_aux_lemma => kernel_rfl)) ?_
         rintro _ w213 ⟨rfl, hS214⟩
         have hS214 : St _ _ w213 [poolE ([]) w0, rowE .u8 34 A196 c197 l193, rowE .u8 5 A209 c210 l206, rowE .i64 3 A108 c109 l110, rowE .u8 34 (some ⟨w99.heap.size, 0, none⟩) 1 ([x189]), rowE .u8 5 (some ⟨w198.heap.size, 0, none⟩) 1 ([x202]), rowE .i64 3 (some ⟨w211.heap.size, 0, none⟩) 1 ([x76])] := hS214
         obtain ⟨l215, ha216, hO113⟩ := bind_in hO113
         obtain ⟨ha216, hq217⟩ := apx_in ha216
         refine gx_rA (st_append rfl (by as_aux_lemma => kernel_rfl) (by as_aux_lemma => kernel_rfl) hS214 3 rfl (hS214.row 6 rfl).1 (hS214.row 6 rfl).2 ha216 (by as_aux_lemma => kernel_rfl) (by as_aux_lemma => kernel_rfl)) ?_
         rintro _ w220 ⟨A218, c219, rfl, hS221⟩
         rw [← hq217] at hS221 ⊢
         have hS221 : St _ _ w220 [poolE ([]) w0, rowE .u8 34 A196 c197 l193, rowE .u8 5 A209 c210 l206, rowE .i64 3 A218 c219 l215, rowE .u8 34 (some ⟨w99.heap.size, 0, none⟩) 1 ([x189]), rowE .u8 5 (some ⟨w198.heap.size, 0, none⟩) 1 ([x202]), rowE .i64 3 (some ⟨w211.heap.size, 0, none⟩) 1 ([x76])] := hS221
         refine gx_kA (.slice A218 l215.length c219) w220 ?_
         refine gx_nil ?_
         refine gx_blkN ?_
         refine gx_thenN ?_
         exact ⟨l193, l206, l215, A196, c197, A209, c210, A218, c219, selfA_i (by as_aux_lemma => kernel_rfl), (Option.some.inj hO113), (hS221.pick [0, 1, 2, 3] rfl rfl)⟩
        ·refine gx_vA (.bool false) w99 (run_boolE (decide_eq_false h186) (by as_aux_lemma => kernel_rfl)) ?_
         refine gx_nil ?_
         refine gx_thenN ?_
         refine hK185 _ _ ?_
         refine gx_no (by as_aux_lemma => kernel_rfl) ?_
         refine gx_pass ?_
         refine gx_blkN ?_
         refine gx_thenN ?_
         exact ⟨l104, l107, l110, A102, c103, A105, c106, A108, c109, selfA_i (by as_aux_lemma => kernel_rfl), (Option.some.inj hO113), hS100⟩
      ·rintro _ w84 ⟨l89, l92, l95, A87, c88, A90, c91, A93, c94, hq223, rfl, hS85⟩
       obtain ⟨u86, rfl⟩ := selfA_u hq223
       try dsimp only at hO98
       refine gx_region ?_
       refine gx_kA (.int .i64 x76) w84 (gx_kA (.int .i64 (IntKind.i64.wrap (x76 + 1))) w84 (gx_kA (.int .i64 (IntKind.i64.wrap (x76 + 1))) w84 ?_))
       refine gx_nil ?_
       refine gx_thenN ?_
       exact ⟨k77, Nat.lt_succ_self k77, l89, l92, l95, (IntKind.i64.wrap (x76 + 1)), A87, c88, A90, c91, A93, c94, selfA_i (by as_aux_lemma => kernel_rfl), hO98, hS85⟩
     ·refine gx_vA (.bool false) w64 (run_boolE (decide_eq_false h83) (by as_aux_lemma => kernel_rfl)) ?_
      refine gx_nil ?_
      refine gx_thenN ?_
      refine hK82 _ _ ?_
      refine gx_no (by as_aux_lemma => kernel_rfl) ?_
      refine gx_exit ?_
      refine gx_thenE ?_
      refine gx_thenE ?_
      refine gx_blkE ?_
      refine gx_thenN ?_
      exact ⟨l69, l72, l75, A67, c68, A70, c71, A73, c74, selfA_i (by as_aux_lemma => kernel_rfl), (Option.some.inj hL78), hS65⟩
  ·rintro _ w44 ⟨l49, l52, l55, A47, c48, A50, c51, A53, c54, hq677, rfl, hS45⟩
   obtain ⟨u46, rfl⟩ := selfA_u hq677
   try dsimp only at hO58
   refine gx_seq (fun K225 hK226 => ?_)
   refine gx_region ?_
   refine gx_kA (.slice A0 p0.length c0) w44 (gx_kA (.slice A1 p1.length c1) w44 (gx_kA (.int .u8 p2) w44 ?_))
   have hP227 : St _ _ w44 ([] ++ [poolE ([]) w0, rowE .u8 34 A47 c48 l49, rowE .u8 5 A50 c51 l52, rowE .i64 3 A53 c54 l55]) := hS45
   obtain ⟨⟨l229, x233⟩, hc228, hO58⟩ := bind_in hO58
   try dsimp only at hO58
   refine gx_cA (pSeqs_R (l229, x233) w44) (pSeqs_ok N p0 p1 p2 A0 c0 A1 c1 _ hc228 w44 (hP227.vwA hv0) (hP227.vwA hv1)) ?_
   rintro _ w234 ⟨A230, c231, ads232, rfl, hT236⟩
   have hS235 : St _ _ w234 [poolE ([]) w0, rowE .u8 34 A47 c48 l49, rowE .u8 5 A50 c51 l52, rowE .i64 3 A53 c54 l55, rowO oembedSeq 36 A230 l229.length c231 ads232 l229] := hS45.take _ hT236
   obtain ⟨ft237, W238, hS239, hT240, hf241, hn242⟩ := hS235.freezeO 4 0 rfl rfl (by decide)
   have hS239 : St _ _ w234 [poolE ft237 W238, rowE .u8 34 A47 c48 l49, rowE .u8 5 A50 c51 l52, rowE .i64 3 A53 c54 l55, rowG 36 4 (.slice A230 l229.length c231) l229.length (cellsB oembedSeq ads232 l229)] := hS239
   have hT240 : Turn [] w0 w0 ([]) W238 ft237 := hT240
   have hf241 : (fEach encembedSeq (cellsB oembedSeq ads232 l229) l229).rd W238 ft237 := hf241
   refine gx_kA (.tuple #[.slice A230 l229.length c231, .int .i64 x233]) w234 (gx_kA (.slice A230 l229.length c231) w234 (gx_kA (.int .i64 x233) w234 (gx_kA (.slice A230 l229.length c231) w234 (gx_kA (.int .i64 x233) w234 ?_))))
   refine gx_nil ?_
   refine gx_thenN ?_
   refine hK226 _ _ ?_
   refine gx_seq (fun K243 hK244 => ?_)
   refine gx_region ?_
   refine gx_kA (.slice A47 l49.length c48) w234 (gx_kA (.slice A50 l52.length c51) w234 (gx_kA (.int .u8 p2) w234 ?_))
   have hP245 : St _ _ w234 ([] ++ [poolE ft237 W238, rowE .u8 34 A47 c48 l49, rowE .u8 5 A50 c51 l52, rowE .i64 3 A53 c54 l55, rowG 36 4 (.slice A230 l229.length c231) l229.length (cellsB oembedSeq ads232 l229)]) := hS239
   obtain ⟨⟨l247, x251⟩, hc246, hO58⟩ := bind_in hO58
   try dsimp only at hO58
   refine gx_cA (pSeqs_R (l247, x251) w234) (pSeqs_ok N l49 l52 p2 A47 c48 A50 c51 _ hc246 w234 (hP245.vwB 1 rfl) (hP245.vwB 2 rfl)) ?_
   rintro _ w252 ⟨A248, c249, ads250, rfl, hT254⟩
   have hS253 : St _ _ w252 [poolE ft237 W238, rowE .u8 34 A47 c48 l49, rowE .u8 5 A50 c51 l52, rowE .i64 3 A53 c54 l55, rowG 36 4 (.slice A230 l229.length c231) l229.length (cellsB oembedSeq ads232 l229), rowO oembedSeq 36 A248 l247.length c249 ads250 l247] := hS239.take _ hT254
   obtain ⟨ft255, W256, hS257, hT258, hf259, hn260⟩ := hS253.freezeO 5 0 rfl rfl (by decide)
   have hS257 : St _ _ w252 [poolE ft255 W256, rowE .u8 34 A47 c48 l49, rowE .u8 5 A50 c51 l52, rowE .i64 3 A53 c54 l55, rowG 36 4 (.slice A230 l229.length c231) l229.length (cellsB oembedSeq ads232 l229), rowG 36 4 (.slice A248 l247.length c249) l247.length (cellsB oembedSeq ads250 l247)] := hS257
   have hT258 : Turn [] w0 W238 ft237 W256 ft255 := hT258
   have hf259 : (fEach encembedSeq (cellsB oembedSeq ads250 l247) l247).rd W256 ft255 := hf259
   refine gx_kA (.tuple #[.slice A248 l247.length c249, .int .i64 x251]) w252 (gx_kA (.slice A248 l247.length c249) w252 (gx_kA (.int .i64 x251) w252 (gx_kA (.slice A248 l247.length c249) w252 (gx_kA (.int .i64 x251) w252 ?_))))
   refine gx_nil ?_
   refine gx_thenN ?_
   refine hK244 _ _ ?_
   obtain ⟨c264, hE265, hO266⟩ := bind_in hO58
   refine gx_cut (fun a w => selfA (fun u263 => ⟨(dd u263 0 2 ((.int .u8 p2) :: (u46 3) :: un 4 (dd u263 8 3 ((.slice A53 l55.length c54) :: dd u46 12 2 ((.slice A230 l229.length c231) :: (.int .i64 x233) :: (.slice A248 l247.length c249) :: (.int .i64 x251) :: un 3 (dd u5 21 16 (dd u46 37 69 (dd u263 106 3 ((.int .u8 p2) :: dd u263 110 2 ((.int .i64 x233) :: dd u263 113 3 ((.int .u8 p2) :: dd u263 117 2 ((.int .i64 x251) :: dd u263 120 13 (un 100 ([])))))))))))))).toArray, []⟩) a ∧ Ctl.go () = c264 ∧ St [] w0 w [poolE ft255 W256, rowE .i64 3 A53 c54 l55, rowG 36 4 (.slice A230 l229.length c231) l229.length (cellsB oembedSeq ads232 l229), rowG 36 4 (.slice A248 l247.length c249) l247.length (cellsB oembedSeq ads250 l247)]) ?_ ?_
   ·refine gx_seq (fun K267 hK268 => ?_)
    refine gx_region ?_
    refine gx_kA (.int .i64 x233) w252 ?_
    obtain ⟨c273, hE274, hO275⟩ := bind_in hE265
    refine gx_part (l1 := [_, _, _, _, _]) (fun a w => ∃ (b272 : Bool), selfA (fun u271 => ⟨(dd u271 0 2 ((.int .u8 p2) :: (u46 3) :: un 4 ((u5 8) :: dd u271 9 2 ((.slice A53 l55.length c54) :: dd u46 12 2 ((.slice A230 l229.length c231) :: (.int .i64 x233) :: (.slice A248 l247.length c249) :: (.int .i64 x251) :: un 3 (dd u5 21 16 (dd u46 37 69 (dd u271 106 3 ((.int .u8 p2) :: dd u271 110 2 ((.int .i64 x233) :: dd u271 113 3 ((.int .u8 p2) :: dd u271 117 2 ((.int .i64 x251) :: (.int .i64 x233) :: dd u271 121 4 ((.bool b272) :: un 107 ([])))))))))))))).toArray, []⟩) a ∧ b272 = c273 ∧ St [] w0 w [poolE ft255 W256, rowE .i64 3 A53 c54 l55, rowG 36 4 (.slice A230 l229.length c231) l229.length (cellsB oembedSeq ads232 l229), rowG 36 4 (.slice A248 l247.length c249) l247.length (cellsB oembedSeq ads250 l247)]) rfl ?_ ?_
    ·rcases if_in hE274 with ⟨h277, hE274⟩ | ⟨h277, hE274⟩
     ·refine gx_vA (.bool true) w252 (run_boolE (ne_yes h277) (by as_aux_lemma => kernel_rfl)) ?_
      refine gx_kA (.bool true) w252 (gx_oA (gx_oA (gx_kA (.bool true) w252 ?_)))
      refine gx_nil ?_
      refine gx_thenN ?_
      exact ⟨true, selfA_i (by as_aux_lemma => kernel_rfl), (Option.some.inj hE274), (hS257.pick [0, 3, 4, 5] rfl rfl)⟩
     ·refine gx_vA (.bool false) w252 (run_boolE (ne_no h277) (by as_aux_lemma => kernel_rfl)) ?_
      refine gx_kA (.bool false) w252 (gx_kA (.int .i64 x251) w252 ?_)
      rcases if_in hE274 with ⟨h278, hE274⟩ | ⟨h278, hE274⟩
      ·refine gx_vA (.bool true) w252 (run_boolE (ne_yes h278) (by as_aux_lemma => kernel_rfl)) ?_
       refine gx_kA (.bool true) w252 ?_
       refine gx_nil ?_
       refine gx_thenN ?_
       exact ⟨true, selfA_i (by as_aux_lemma => kernel_rfl), (Option.some.inj hE274), (hS257.pick [0, 3, 4, 5] rfl rfl)⟩
      ·refine gx_vA (.bool false) w252 (run_boolE (ne_no h278) (by as_aux_lemma => kernel_rfl)) ?_
       refine gx_kA (.bool false) w252 ?_
       refine gx_nil ?_
       refine gx_thenN ?_
       exact ⟨false, selfA_i (by as_aux_lemma => kernel_rfl), (Option.some.inj hE274), (hS257.pick [0, 3, 4, 5] rfl rfl)⟩
    ·rintro _ w269 ⟨b272, hq276, rfl, hS270⟩
     obtain ⟨u271, rfl⟩ := selfA_u hq276
     try dsimp only at hO275
     refine gx_kA (.bool b272) w269 ?_
     cases b272 with
     | true =>
      try dsimp only at hO275
      refine gx_oA (gx_oA (gx_oA (gx_oA (gx_oA (gx_kA (.bool true) w269 ?_)))))
      refine gx_nil ?_
      refine gx_thenN ?_
      refine hK268 _ _ ?_
      refine gx_yes (by as_aux_lemma => kernel_rfl) ?_
      refine gx_seq (fun K279 hK280 => ?_)
      refine gx_region ?_
      refine gx_kA (.bool false) w269 ?_
      refine gx_nil ?_
      refine gx_thenN ?_
      refine hK280 _ _ ?_
      refine gx_ret ?_
      refine gx_thenR ?_
      obtain rfl := Option.some.inj hO275
      try dsimp only at hO266
      obtain rfl := Option.some.inj hO266
      exact gx_fin (.bool false) (by as_aux_lemma => kernel_rfl) (by as_aux_lemma => kernel_rfl) ⟨_, rfl, rfl, (hS270.pick [] rfl rfl)⟩
     | false =>
      try dsimp only at hO275
      refine gx_kA (.slice A230 l229.length c231) w269 (gx_kA (.int .i64 ((l229.length : Nat) : Int)) w269 (gx_kA (.slice A248 l247.length c249) w269 (gx_kA (.int .i64 ((l247.length : Nat) : Int)) w269 ?_)))
      rcases if_in hO275 with ⟨h281, hO275⟩ | ⟨h281, hO275⟩
      ·refine gx_vA (.bool true) w269 (run_boolE (ne_yes h281) (by as_aux_lemma => kernel_rfl)) ?_
       refine gx_kA (.bool true) w269 ?_
       refine gx_nil ?_
       refine gx_thenN ?_
       refine hK268 _ _ ?_
       refine gx_yes (by as_aux_lemma => kernel_rfl) ?_
       refine gx_seq (fun K282 hK283 => ?_)
       refine gx_region ?_
       refine gx_kA (.bool false) w269 ?_
       refine gx_nil ?_
       refine gx_thenN ?_
       refine hK283 _ _ ?_
       refine gx_ret ?_
       refine gx_thenR ?_
       obtain rfl := Option.some.inj hO275
       try dsimp only at hO266
       obtain rfl := Option.some.inj hO266
       exact gx_fin (.bool false) (by as_aux_lemma => kernel_rfl) (by as_aux_lemma => kernel_rfl) ⟨_, rfl, rfl, (hS270.pick [] rfl rfl)⟩
      ·refine gx_vA (.bool false) w269 (run_boolE (ne_no h281) (by as_aux_lemma => kernel_rfl)) ?_
       refine gx_kA (.bool false) w269 ?_
       refine gx_nil ?_
       refine gx_thenN ?_
       refine hK268 _ _ ?_
       refine gx_no (by as_aux_lemma => kernel_rfl) ?_
       refine gx_pass ?_
       refine gx_thenN ?_
       exact ⟨selfA_i (by as_aux_lemma => kernel_rfl), (Option.some.inj hO275), hS270⟩
   ·rintro _ w261 ⟨hq676, rfl, hS262⟩
    obtain ⟨u263, rfl⟩ := selfA_u hq676
    try dsimp only at hO266
    obtain ⟨c287, hE288, hO289⟩ := bind_in hO266
    refine gx_cut (fun a w => selfA (fun u286 => ⟨(dd u263 0 2 ((.int .u8 p2) :: (u46 3) :: un 4 ((u286 8) :: dd u263 9 2 ((u286 11) :: dd u46 12 2 ((u286 14) :: (.int .i64 x233) :: (u286 16) :: (.int .i64 x251) :: dd u286 18 3 (dd u5 21 16 (dd u46 37 69 (dd u263 106 3 ((.int .u8 p2) :: dd u263 110 2 ((.int .i64 x233) :: dd u263 113 3 ((.int .u8 p2) :: dd u263 117 2 ((.int .i64 x251) :: dd u263 120 13 (dd u286 133 99 (undef :: [])))))))))))))).toArray, []⟩) a ∧ Ctl.go () = c287 ∧ St [] w0 w [poolE ft255 W256]) ?_ ?_
    ·refine gx_seq (fun K290 hK291 => ?_)
     refine gx_region ?_
     refine gx_kA (.int .i64 0) w261 ?_
     refine gx_nil ?_
     refine gx_thenN ?_
     refine hK291 _ _ ?_
     refine gx_block ?_
     refine gx_loop (fun k a w => ∃ (x295 : Int), selfA (fun u294 => ⟨(dd u263 0 2 ((.int .u8 p2) :: (u46 3) :: un 4 ((u294 8) :: dd u263 9 2 ((.slice A53 l55.length c54) :: dd u46 12 2 ((.slice A230 l229.length c231) :: (.int .i64 x233) :: (.slice A248 l247.length c249) :: (.int .i64 x251) :: (.int .i64 x295) :: dd u294 19 2 (dd u5 21 16 (dd u46 37 69 (dd u263 106 3 ((.int .u8 p2) :: dd u263 110 2 ((.int .i64 x233) :: dd u263 113 3 ((.int .u8 p2) :: dd u263 117 2 ((.int .i64 x251) :: dd u263 120 13 (dd u294 133 99 (undef :: [])))))))))))))).toArray, []⟩) a ∧ fWithout_L3 N l55 l229 l247 k x295 = some c287 ∧ St [] w0 w [poolE ft255 W256, rowE .i64 3 A53 c54 l55, rowG 36 4 (.slice A230 l229.length c231) l229.length (cellsB oembedSeq ads232 l229), rowG 36 4 (.slice A248 l247.length c249) l247.length (cellsB oembedSeq ads250 l247)]) N ?_ ?_
     ·exact ⟨0, selfA_i (by as_aux_lemma => kernel_rfl), hE288, hS262⟩
     ·rintro k296 _ w292 ⟨x295, hq666, hL297, hS293⟩
      obtain ⟨u294, rfl⟩ := selfA_u hq666
      cases k296 with
      | zero => cases hL297
      | succ k296 =>
       first | rw [fWithout_L3] at hL297 | unfold fWithout_L3 at hL297
       refine gx_seq (fun K298 hK299 => ?_)
       refine gx_seq (fun K300 hK301 => ?_)
       refine gx_region ?_
       refine gx_kA (.int .i64 x295) w292 (gx_kA (.slice A230 l229.length c231) w292 (gx_kA (.int .i64 ((l229.length : Nat) : Int)) w292 ?_))
       rcases if_in hL297 with ⟨h302, hL297⟩ | ⟨h302, hL297⟩
       ·refine gx_vA (.bool true) w292 (run_boolE (decide_eq_true h302) (by as_aux_lemma => kernel_rfl)) ?_
        refine gx_nil ?_
        refine gx_thenN ?_
        refine hK301 _ _ ?_
        refine gx_yes (by as_aux_lemma => kernel_rfl) ?_
        refine gx_pass ?_
        refine gx_thenN ?_
        refine hK299 _ _ ?_
        obtain ⟨c306, hE307, hO308⟩ := bind_in hL297
        refine gx_cut (fun a w => selfA (fun u305 => ⟨(dd u263 0 2 ((.int .u8 p2) :: (u46 3) :: un 4 ((u305 8) :: dd u263 9 2 ((.slice A53 l55.length c54) :: dd u46 12 2 ((.slice A230 l229.length c231) :: (.int .i64 x233) :: (.slice A248 l247.length c249) :: (.int .i64 x251) :: (.int .i64 x295) :: dd u305 19 2 (dd u5 21 16 (dd u46 37 69 (dd u263 106 3 ((.int .u8 p2) :: dd u263 110 2 ((.int .i64 x233) :: dd u263 113 3 ((.int .u8 p2) :: dd u263 117 2 ((.int .i64 x251) :: dd u263 120 13 ((.int .i64 x295) :: (u305 134) :: (.int .i64 ((l229.length : Nat) : Int)) :: (.bool true) :: dd u294 137 2 (dd u305 139 93 (undef :: []))))))))))))))).toArray, []⟩) a ∧ Ctl.go () = c306 ∧ St [] w0 w [poolE ft255 W256, rowE .i64 3 A53 c54 l55, rowG 36 4 (.slice A230 l229.length c231) l229.length (cellsB oembedSeq ads232 l229), rowG 36 4 (.slice A248 l247.length c249) l247.length (cellsB oembedSeq ads250 l247)]) ?_ ?_
        ·refine gx_block ?_
         obtain ⟨c312, hE313, hO314⟩ := bind_in hE307
         refine gx_cut (fun a w => selfA (fun u311 => ⟨(dd u263 0 2 ((.int .u8 p2) :: (u46 3) :: un 4 ((u311 8) :: dd u263 9 2 ((.slice A53 l55.length c54) :: dd u46 12 2 ((.slice A230 l229.length c231) :: (.int .i64 x233) :: (.slice A248 l247.length c249) :: (.int .i64 x251) :: (.int .i64 x295) :: dd u294 19 2 (dd u5 21 16 (dd u46 37 69 (dd u263 106 3 ((.int .u8 p2) :: dd u263 110 2 ((.int .i64 x233) :: dd u263 113 3 ((.int .u8 p2) :: dd u263 117 2 ((.int .i64 x251) :: dd u263 120 13 ((.int .i64 x295) :: (u311 134) :: (.int .i64 ((l229.length : Nat) : Int)) :: (.bool true) :: dd u294 137 2 (dd u311 139 52 (dd u294 191 41 (undef :: [])))))))))))))))).toArray, []⟩) a ∧ Ctl.go () = c312 ∧ St [] w0 w [poolE ft255 W256, rowE .i64 3 A53 c54 l55, rowG 36 4 (.slice A230 l229.length c231) l229.length (cellsB oembedSeq ads232 l229), rowG 36 4 (.slice A248 l247.length c249) l247.length (cellsB oembedSeq ads250 l247)]) ?_ ?_
         ·refine gx_seq (fun K315 hK316 => ?_)
          refine gd_start (fun w => St [] w0 w [poolE ft255 W256, rowE .i64 3 A53 c54 l55, rowG 36 4 (.slice A230 l229.length c231) l229.length (cellsB oembedSeq ads232 l229), rowG 36 4 (.slice A248 l247.length c249) l247.length (cellsB oembedSeq ads250 l247)]) 52 #[false, false, false, false, false, false, false, false, false, false, false, false, false, false, false, false, false, false, false, false, false, false, false, false, false, false, false, false, false, false, false, false, false, false, false, false, false, false, false, false, false, false, false, false, false, false, false, false, false, false, false, false] (by as_aux_lemma => kernel_rfl) (by as_aux_lemma => kernel_rfl) ?_
          have hS318 := hS293.drew
          generalize w292.drew = w317 at hS318 ⊢
          refine gd1 0 { dst := some 139, op := _, type := _, pos := _, after := _, guard := _ } (.slice A230 l229.length c231) rfl hS318 (fun w hSw => by kernel_rfl) ?_
          refine gd1 1 { dst := some 140, op := _, type := _, pos := _, after := _, guard := _ } (.int .i64 x295) rfl hS318 (fun w hSw => by kernel_rfl) ?_
          obtain ⟨x319, hx320, hE313⟩ := bind_in hE313
          obtain ⟨g321, o322, e323, hA324, he325, h326, ha327⟩ := elem_at (e := encembedSeq) (rowG_lies (e := encembedSeq) hn242 (hS318.get 2 rfl)) (hT258.pool hf241) hx320 (by decide)
          obtain ⟨e328, e329, rfl, h330, h331⟩ := h326
          obtain ⟨A332, c333, vs334, rfl, hf335⟩ := h330
          obtain ⟨e336, e337, rfl, h338, h339⟩ := h331
          obtain rfl := h338
          obtain ⟨e340, e341, rfl, h342, h343⟩ := h339
          obtain rfl := h342
          obtain rfl := h343
          have ha327 : ∀ w', Lies w' A230 (cellsB oembedSeq ads232 l229) → w'.rangeAt g321 o322 [.slice A332 ((x319.1).length) c333, .int .u8 x319.2.1, .int .u8 x319.2.2.1, .int .u8 x319.2.2.2] := ha327
          refine gd1 2 { dst := some 141, op := _, type := _, pos := _, after := _, guard := _ } (.pointer (some ⟨g321, o322, none⟩)) rfl hS318 (fun w hSw => run_ixaddrN (E := 36) (s := 4) (k := .i64) (c := c231) rfl (by as_aux_lemma => kernel_rfl) (by as_aux_lemma => kernel_rfl) (by as_aux_lemma => kernel_rfl) (fun _ => by kernel_rfl) (ixg_in hx320).1 (lt_len hn242 (ixg_in hx320).2.1) hA324) ?_
          refine gd1 3 { dst := some 142, op := _, type := _, pos := _, after := _, guard := _ } (.pointer (some ⟨g321, o322, none⟩)) rfl hS318 (fun w hSw => by kernel_rfl) ?_
          refine gd1 4 { dst := some 143, op := _, type := _, pos := _, after := _, guard := _ } (.slice A332 ((x319.1).length) c333) rfl hS318 (fun w hSw => run_loadN1 0 rfl (by as_aux_lemma => kernel_rfl) (fun _ => by kernel_rfl) (ha327 _ (rowG_lies (e := encembedSeq) hn242 (hSw.get 2 rfl))) rfl) ?_
          refine gd1 5 { dst := some 144, op := _, type := _, pos := _, after := _, guard := _ } (.int .i64 (((x319.1).length : Nat) : Int)) rfl hS318 (fun w hSw => by kernel_rfl) ?_
          refine gd1 6 { dst := some 145, op := _, type := _, pos := _, after := _, guard := _ } (.slice A248 l247.length c249) rfl hS318 (fun w hSw => by kernel_rfl) ?_
          refine gd1 7 { dst := some 146, op := _, type := _, pos := _, after := _, guard := _ } (.int .i64 x295) rfl hS318 (fun w hSw => by kernel_rfl) ?_
          obtain ⟨x344, hx345, hE313⟩ := bind_in hE313
          obtain ⟨g346, o347, e348, hA349, he350, h351, ha352⟩ := elem_at (e := encembedSeq) (rowG_lies (e := encembedSeq) hn260 (hS318.get 3 rfl)) hf259 hx345 (by decide)
          obtain ⟨e353, e354, rfl, h355, h356⟩ := h351
          obtain ⟨A357, c358, vs359, rfl, hf360⟩ := h355
          obtain ⟨e361, e362, rfl, h363, h364⟩ := h356
          obtain rfl := h363
          obtain ⟨e365, e366, rfl, h367, h368⟩ := h364
          obtain rfl := h367
          obtain rfl := h368
          have ha352 : ∀ w', Lies w' A248 (cellsB oembedSeq ads250 l247) → w'.rangeAt g346 o347 [.slice A357 ((x344.1).length) c358, .int .u8 x344.2.1, .int .u8 x344.2.2.1, .int .u8 x344.2.2.2] := ha352
          refine gd1 8 { dst := some 147, op := _, type := _, pos := _, after := _, guard := _ } (.pointer (some ⟨g346, o347, none⟩)) rfl hS318 (fun w hSw => run_ixaddrN (E := 36) (s := 4) (k := .i64) (c := c249) rfl (by as_aux_lemma => kernel_rfl) (by as_aux_lemma => kernel_rfl) (by as_aux_lemma => kernel_rfl) (fun _ => by kernel_rfl) (ixg_in hx345).1 (lt_len hn260 (ixg_in hx345).2.1) hA349) ?_
          refine gd1 9 { dst := some 148, op := _, type := _, pos := _, after := _, guard := _ } (.pointer (some ⟨g346, o347, none⟩)) rfl hS318 (fun w hSw => by kernel_rfl) ?_
          refine gd1 10 { dst := some 149, op := _, type := _, pos := _, after := _, guard := _ } (.slice A357 ((x344.1).length) c358) rfl hS318 (fun w hSw => run_loadN1 0 rfl (by as_aux_lemma => kernel_rfl) (fun _ => by kernel_rfl) (ha352 _ (rowG_lies (e := encembedSeq) hn260 (hSw.get 3 rfl))) rfl) ?_
          refine gd1 11 { dst := some 150, op := _, type := _, pos := _, after := _, guard := _ } (.int .i64 (((x344.1).length : Nat) : Int)) rfl hS318 (fun w hSw => by kernel_rfl) ?_
          obtain ⟨c373, hE374, hO375⟩ := bind_in hE313
          refine gd_mid (fun a w => ∃ (b372 : Bool), selfA (fun u371 => ⟨(dd u263 0 2 ((.int .u8 p2) :: (u46 3) :: un 4 ((u294 8) :: dd u263 9 2 ((.slice A53 l55.length c54) :: dd u46 12 2 ((.slice A230 l229.length c231) :: (.int .i64 x233) :: (.slice A248 l247.length c249) :: (.int .i64 x251) :: (.int .i64 x295) :: dd u294 19 2 (dd u5 21 16 (dd u46 37 69 (dd u263 106 3 ((.int .u8 p2) :: dd u263 110 2 ((.int .i64 x233) :: dd u263 113 3 ((.int .u8 p2) :: dd u263 117 2 ((.int .i64 x251) :: dd u263 120 13 ((.int .i64 x295) :: (u371 134) :: (.int .i64 ((l229.length : Nat) : Int)) :: (.bool true) :: dd u294 137 2 ((u371 139) :: (.int .i64 x295) :: dd u371 141 3 ((.int .i64 (((x319.1).length : Nat) : Int)) :: (u371 145) :: (.int .i64 x295) :: dd u371 147 3 ((.int .i64 (((x344.1).length : Nat) : Int)) :: dd u371 151 13 ((.bool b372) :: dd u294 165 67 (undef :: [])))))))))))))))))).toArray, []⟩) a ∧ b372 = c373 ∧ St [] w0 w [poolE ft255 W256, rowE .i64 3 A53 c54 l55, rowG 36 4 (.slice A230 l229.length c231) l229.length (cellsB oembedSeq ads232 l229), rowG 36 4 (.slice A248 l247.length c249) l247.length (cellsB oembedSeq ads250 l247)]) 26 #[true, true, true, true, true, true, true, true, true, true, true, true, true, true, true, true, true, true, true, true, true, true, true, true, true, true, false, false, false, false, false, false, false, false, false, false, false, false, false, false, false, false, false, false, false, false, false, false, false, false, false, false] ?_ ?_
          ·rintro _ w369 ⟨b372, hq376, rfl, hS370⟩
           obtain ⟨u371, rfl⟩ := selfA_u hq376
           try dsimp only at hO375
           obtain ⟨c434, hE435, hO436⟩ := bind_in hO375
           refine gd_mid (fun a w => ∃ (b433 : Bool), selfA (fun u432 => ⟨(dd u263 0 2 ((.int .u8 p2) :: (u46 3) :: un 4 ((u294 8) :: dd u263 9 2 ((.slice A53 l55.length c54) :: dd u46 12 2 ((.slice A230 l229.length c231) :: (.int .i64 x233) :: (.slice A248 l247.length c249) :: (.int .i64 x251) :: (.int .i64 x295) :: dd u294 19 2 (dd u5 21 16 (dd u46 37 69 (dd u263 106 3 ((.int .u8 p2) :: dd u263 110 2 ((.int .i64 x233) :: dd u263 113 3 ((.int .u8 p2) :: dd u263 117 2 ((.int .i64 x251) :: dd u263 120 13 ((.int .i64 x295) :: (u371 134) :: (.int .i64 ((l229.length : Nat) : Int)) :: (.bool true) :: dd u294 137 2 ((u371 139) :: (.int .i64 x295) :: dd u371 141 3 ((.int .i64 (((x319.1).length : Nat) : Int)) :: (u371 145) :: (.int .i64 x295) :: dd u371 147 3 ((.int .i64 (((x344.1).length : Nat) : Int)) :: dd u371 151 13 ((.bool b372) :: dd u432 165 12 ((.bool b433) :: dd u294 178 54 (undef :: []))))))))))))))))))).toArray, []⟩) a ∧ b433 = c434 ∧ St [] w0 w [poolE ft255 W256, rowE .i64 3 A53 c54 l55, rowG 36 4 (.slice A230 l229.length c231) l229.length (cellsB oembedSeq ads232 l229), rowG 36 4 (.slice A248 l247.length c249) l247.length (cellsB oembedSeq ads250 l247)]) 13 #[true, true, true, true, true, true, true, true, true, true, true, true, true, true, true, true, true, true, true, true, true, true, true, true, true, true, true, true, true, true, true, true, true, true, true, true, true, true, true, false, false, false, false, false, false, false, false, false, false, false, false, false] ?_ ?_
           ·rintro _ w430 ⟨b433, hq437, rfl, hS431⟩
            obtain ⟨u432, rfl⟩ := selfA_u hq437
            try dsimp only at hO436
            refine gd1 39 { dst := some 178, op := _, type := _, pos := _, after := _, guard := _ } (.bool b433) rfl hS431 (fun w hSw => by kernel_rfl) ?_
            cases b433 with
            | true =>
             try dsimp only at hO436
             refine gd0 40 { dst := some 179, op := _, type := _, pos := _, after := _, guard := _ } rfl hS431 ?_
             refine gd0 41 { dst := some 180, op := _, type := _, pos := _, after := _, guard := _ } rfl hS431 ?_
             refine gd0 42 { dst := some 181, op := _, type := _, pos := _, after := _, guard := _ } rfl hS431 ?_
             refine gd0 43 { dst := some 182, op := _, type := _, pos := _, after := _, guard := _ } rfl hS431 ?_
             refine gd0 44 { dst := some 183, op := _, type := _, pos := _, after := _, guard := _ } rfl hS431 ?_
             refine gd0 45 { dst := some 184, op := _, type := _, pos := _, after := _, guard := _ } rfl hS431 ?_
             refine gd0 46 { dst := some 185, op := _, type := _, pos := _, after := _, guard := _ } rfl hS431 ?_
             refine gd0 47 { dst := some 186, op := _, type := _, pos := _, after := _, guard := _ } rfl hS431 ?_
             refine gd0 48 { dst := some 187, op := _, type := _, pos := _, after := _, guard := _ } rfl hS431 ?_
             refine gd0 49 { dst := some 188, op := _, type := _, pos := _, after := _, guard := _ } rfl hS431 ?_
             refine gd0 50 { dst := some 189, op := _, type := _, pos := _, after := _, guard := _ } rfl hS431 ?_
             refine gd1 51 { dst := some 190, op := _, type := _, pos := _, after := _, guard := _ } (.bool true) rfl hS431 (fun w hSw => by kernel_rfl) ?_
             refine gd_done (by as_aux_lemma => kernel_rfl) ?_
             refine gx_thenN ?_
             refine hK316 _ _ ?_
             refine gx_yes (by as_aux_lemma => kernel_rfl) ?_
             refine gx_seq (fun K490 hK491 => ?_)
             refine gx_region ?_
             refine gx_kA (.bool false) w430 ?_
             refine gx_nil ?_
             refine gx_thenN ?_
             refine hK491 _ _ ?_
             refine gx_ret ?_
             refine gx_thenR ?_
             obtain rfl := Option.some.inj hO436
             try dsimp only at hO314
             refine gx_blkR ?_
             refine gx_thenR ?_
             obtain rfl := Option.some.inj hO314
             try dsimp only at hO308
             refine gx_thenR ?_
             refine gx_blkR ?_
             refine gx_thenR ?_
             obtain rfl := Option.some.inj hO308
             try dsimp only at hO289
             obtain rfl := Option.some.inj hO289
             exact gx_fin (.bool false) (by as_aux_lemma => kernel_rfl) (by as_aux_lemma => kernel_rfl) ⟨_, rfl, rfl, (hS431.pick [] rfl rfl)⟩
            | false =>
             try dsimp only at hO436
             refine gd1 40 { dst := some 179, op := _, type := _, pos := _, after := _, guard := _ } (.slice A230 l229.length c231) rfl hS431 (fun w hSw => by kernel_rfl) ?_
             refine gd1 41 { dst := some 180, op := _, type := _, pos := _, after := _, guard := _ } (.int .i64 x295) rfl hS431 (fun w hSw => by kernel_rfl) ?_
             obtain ⟨x492, hx493, hO436⟩ := bind_in hO436
             obtain ⟨g494, o495, e496, hA497, he498, h499, ha500⟩ := elem_at (e := encembedSeq) (rowG_lies (e := encembedSeq) hn242 (hS431.get 2 rfl)) (hT258.pool hf241) hx493 (by decide)
             obtain ⟨e501, e502, rfl, h503, h504⟩ := h499
             obtain ⟨A505, c506, vs507, rfl, hf508⟩ := h503
             obtain ⟨e509, e510, rfl, h511, h512⟩ := h504
             obtain rfl := h511
             obtain ⟨e513, e514, rfl, h515, h516⟩ := h512
             obtain rfl := h515
             obtain rfl := h516
             have ha500 : ∀ w', Lies w' A230 (cellsB oembedSeq ads232 l229) → w'.rangeAt g494 o495 [.slice A505 ((x492.1).length) c506, .int .u8 x492.2.1, .int .u8 x492.2.2.1, .int .u8 x492.2.2.2] := ha500
             refine gd1 42 { dst := some 181, op := _, type := _, pos := _, after := _, guard := _ } (.pointer (some ⟨g494, o495, none⟩)) rfl hS431 (fun w hSw => run_ixaddrN (E := 36) (s := 4) (k := .i64) (c := c231) rfl (by as_aux_lemma => kernel_rfl) (by as_aux_lemma => kernel_rfl) (by as_aux_lemma => kernel_rfl) (fun _ => by kernel_rfl) (ixg_in hx493).1 (lt_len hn242 (ixg_in hx493).2.1) hA497) ?_
             refine gd1 43 { dst := some 182, op := _, type := _, pos := _, after := _, guard := _ } (.pointer (some ⟨g494, o495 + 3, none⟩)) rfl hS431 (fun w hSw => by kernel_rfl) ?_
             refine gd1 44 { dst := some 183, op := _, type := _, pos := _, after := _, guard := _ } (.int .u8 x492.2.2.2) rfl hS431 (fun w hSw => run_loadN1 3 rfl (by as_aux_lemma => kernel_rfl) (fun _ => by kernel_rfl) (ha500 _ (rowG_lies (e := encembedSeq) hn242 (hSw.get 2 rfl))) rfl) ?_
             refine gd1 45 { dst := some 184, op := _, type := _, pos := _, after := _, guard := _ } (.slice A248 l247.length c249) rfl hS431 (fun w hSw => by kernel_rfl) ?_
             refine gd1 46 { dst := some 185, op := _, type := _, pos := _, after := _, guard := _ } (.int .i64 x295) rfl hS431 (fun w hSw => by kernel_rfl) ?_
             obtain ⟨x517, hx518, hO436⟩ := bind_in hO436
             obtain ⟨g519, o520, e521, hA522, he523, h524, ha525⟩ := elem_at (e := encembedSeq) (rowG_lies (e := encembedSeq) hn260 (hS431.get 3 rfl)) hf259 hx518 (by decide)
             obtain ⟨e526, e527, rfl, h528, h529⟩ := h524
             obtain ⟨A530, c531, vs532, rfl, hf533⟩ := h528
             obtain ⟨e534, e535, rfl, h536, h537⟩ := h529
             obtain rfl := h536
             obtain ⟨e538, e539, rfl, h540, h541⟩ := h537
             obtain rfl := h540
             obtain rfl := h541
             have ha525 : ∀ w', Lies w' A248 (cellsB oembedSeq ads250 l247) → w'.rangeAt g519 o520 [.slice A530 ((x517.1).length) c531, .int .u8 x517.2.1, .int .u8 x517.2.2.1, .int .u8 x517.2.2.2] := ha525
             refine gd1 47 { dst := some 186, op := _, type := _, pos := _, after := _, guard := _ } (.pointer (some ⟨g519, o520, none⟩)) rfl hS431 (fun w hSw => run_ixaddrN (E := 36) (s := 4) (k := .i64) (c := c249) rfl (by as_aux_lemma => kernel_rfl) (by as_aux_lemma => kernel_rfl) (by as_aux_lemma => kernel_rfl) (fun _ => by kernel_rfl) (ixg_in hx518).1 (lt_len hn260 (ixg_in hx518).2.1) hA522) ?_
             refine gd1 48 { dst := some 187, op := _, type := _, pos := _, after := _, guard := _ } (.pointer (some ⟨g519, o520 + 3, none⟩)) rfl hS431 (fun w hSw => by kernel_rfl) ?_
             refine gd1 49 { dst := some 188, op := _, type := _, pos := _, after := _, guard := _ } (.int .u8 x517.2.2.2) rfl hS431 (fun w hSw => run_loadN1 3 rfl (by as_aux_lemma => kernel_rfl) (fun _ => by kernel_rfl) (ha525 _ (rowG_lies (e := encembedSeq) hn260 (hSw.get 3 rfl))) rfl) ?_
             rcases if_in hO436 with ⟨h542, hO436⟩ | ⟨h542, hO436⟩
             ·refine gd1 50 { dst := some 189, op := _, type := _, pos := _, after := _, guard := _ } (.bool true) rfl hS431 (fun w hSw => run_boolE (ne_yes h542) (by as_aux_lemma => kernel_rfl)) ?_
              refine gd1 51 { dst := some 190, op := _, type := _, pos := _, after := _, guard := _ } (.bool true) rfl hS431 (fun w hSw => by kernel_rfl) ?_
              refine gd_done (by as_aux_lemma => kernel_rfl) ?_
              refine gx_thenN ?_
              refine hK316 _ _ ?_
              refine gx_yes (by as_aux_lemma => kernel_rfl) ?_
              refine gx_seq (fun K543 hK544 => ?_)
              refine gx_region ?_
              refine gx_kA (.bool false) w430 ?_
              refine gx_nil ?_
              refine gx_thenN ?_
              refine hK544 _ _ ?_
              refine gx_ret ?_
              refine gx_thenR ?_
              obtain rfl := Option.some.inj hO436
              try dsimp only at hO314
              refine gx_blkR ?_
              refine gx_thenR ?_
              obtain rfl := Option.some.inj hO314
              try dsimp only at hO308
              refine gx_thenR ?_
              refine gx_blkR ?_
              refine gx_thenR ?_
              obtain rfl := Option.some.inj hO308
              try dsimp only at hO289
              obtain rfl := Option.some.inj hO289
              exact gx_fin (.bool false) (by as_aux_lemma => kernel_rfl) (by as_aux_lemma => kernel_rfl) ⟨_, rfl, rfl, (hS431.pick [] rfl rfl)⟩
             ·refine gd1 50 { dst := some 189, op := _, type := _, pos := _, after := _, guard := _ } (.bool false) rfl hS431 (fun w hSw => run_boolE (ne_no h542) (by as_aux_lemma => kernel_rfl)) ?_
              refine gd1 51 { dst := some 190, op := _, type := _, pos := _, after := _, guard := _ } (.bool false) rfl hS431 (fun w hSw => by kernel_rfl) ?_
              refine gd_done (by as_aux_lemma => kernel_rfl) ?_
              refine gx_thenN ?_
              refine hK316 _ _ ?_
              refine gx_no (by as_aux_lemma => kernel_rfl) ?_
              refine gx_pass ?_
              refine gx_thenN ?_
              exact ⟨selfA_i (by as_aux_lemma => kernel_rfl), (Option.some.inj hO436), hS431⟩
           ·intro hK438
            refine gd1 26 { dst := some 165, op := _, type := _, pos := _, after := _, guard := _ } (.bool b372) rfl hS370 (fun w hSw => by kernel_rfl) ?_
            cases b372 with
            | true =>
             try dsimp only at hE435
             refine gd0 27 { dst := some 166, op := _, type := _, pos := _, after := _, guard := _ } rfl hS370 ?_
             refine gd0 28 { dst := some 167, op := _, type := _, pos := _, after := _, guard := _ } rfl hS370 ?_
             refine gd0 29 { dst := some 168, op := _, type := _, pos := _, after := _, guard := _ } rfl hS370 ?_
             refine gd0 30 { dst := some 169, op := _, type := _, pos := _, after := _, guard := _ } rfl hS370 ?_
             refine gd0 31 { dst := some 170, op := _, type := _, pos := _, after := _, guard := _ } rfl hS370 ?_
             refine gd0 32 { dst := some 171, op := _, type := _, pos := _, after := _, guard := _ } rfl hS370 ?_
             refine gd0 33 { dst := some 172, op := _, type := _, pos := _, after := _, guard := _ } rfl hS370 ?_
             refine gd0 34 { dst := some 173, op := _, type := _, pos := _, after := _, guard := _ } rfl hS370 ?_
             refine gd0 35 { dst := some 174, op := _, type := _, pos := _, after := _, guard := _ } rfl hS370 ?_
             refine gd0 36 { dst := some 175, op := _, type := _, pos := _, after := _, guard := _ } rfl hS370 ?_
             refine gd0 37 { dst := some 176, op := _, type := _, pos := _, after := _, guard := _ } rfl hS370 ?_
             refine gd1 38 { dst := some 177, op := _, type := _, pos := _, after := _, guard := _ } (.bool true) rfl hS370 (fun w hSw => by kernel_rfl) ?_
             exact gd_to hK438 (by as_aux_lemma => kernel_rfl) ⟨true, selfA_i (by as_aux_lemma => kernel_rfl), (Option.some.inj hE435), hS370⟩
            | false =>
             try dsimp only at hE435
             refine gd1 27 { dst := some 166, op := _, type := _, pos := _, after := _, guard := _ } (.slice A230 l229.length c231) rfl hS370 (fun w hSw => by kernel_rfl) ?_
             refine gd1 28 { dst := some 167, op := _, type := _, pos := _, after := _, guard := _ } (.int .i64 x295) rfl hS370 (fun w hSw => by kernel_rfl) ?_
             obtain ⟨x439, hx440, hE435⟩ := bind_in hE435
             obtain ⟨g441, o442, e443, hA444, he445, h446, ha447⟩ := elem_at (e := encembedSeq) (rowG_lies (e := encembedSeq) hn242 (hS370.get 2 rfl)) (hT258.pool hf241) hx440 (by decide)
             obtain ⟨e448, e449, rfl, h450, h451⟩ := h446
             obtain ⟨A452, c453, vs454, rfl, hf455⟩ := h450
             obtain ⟨e456, e457, rfl, h458, h459⟩ := h451
             obtain rfl := h458
             obtain ⟨e460, e461, rfl, h462, h463⟩ := h459
             obtain rfl := h462
             obtain rfl := h463
             have ha447 : ∀ w', Lies w' A230 (cellsB oembedSeq ads232 l229) → w'.rangeAt g441 o442 [.slice A452 ((x439.1).length) c453, .int .u8 x439.2.1, .int .u8 x439.2.2.1, .int .u8 x439.2.2.2] := ha447
             refine gd1 29 { dst := some 168, op := _, type := _, pos := _, after := _, guard := _ } (.pointer (some ⟨g441, o442, none⟩)) rfl hS370 (fun w hSw => run_ixaddrN (E := 36) (s := 4) (k := .i64) (c := c231) rfl (by as_aux_lemma => kernel_rfl) (by as_aux_lemma => kernel_rfl) (by as_aux_lemma => kernel_rfl) (fun _ => by kernel_rfl) (ixg_in hx440).1 (lt_len hn242 (ixg_in hx440).2.1) hA444) ?_
             refine gd1 30 { dst := some 169, op := _, type := _, pos := _, after := _, guard := _ } (.pointer (some ⟨g441, o442 + 2, none⟩)) rfl hS370 (fun w hSw => by kernel_rfl) ?_
             refine gd1 31 { dst := some 170, op := _, type := _, pos := _, after := _, guard := _ } (.int .u8 x439.2.2.1) rfl hS370 (fun w hSw => run_loadN1 2 rfl (by as_aux_lemma => kernel_rfl) (fun _ => by kernel_rfl) (ha447 _ (rowG_lies (e := encembedSeq) hn242 (hSw.get 2 rfl))) rfl) ?_
             refine gd1 32 { dst := some 171, op := _, type := _, pos := _, after := _, guard := _ } (.slice A248 l247.length c249) rfl hS370 (fun w hSw => by kernel_rfl) ?_
             refine gd1 33 { dst := some 172, op := _, type := _, pos := _, after := _, guard := _ } (.int .i64 x295) rfl hS370 (fun w hSw => by kernel_rfl) ?_
             obtain ⟨x464, hx465, hE435⟩ := bind_in hE435
             obtain ⟨g466, o467, e468, hA469, he470, h471, ha472⟩ := elem_at (e := encembedSeq) (rowG_lies (e := encembedSeq) hn260 (hS370.get 3 rfl)) hf259 hx465 (by decide)
             obtain ⟨e473, e474, rfl, h475, h476⟩ := h471
             obtain ⟨A477, c478, vs479, rfl, hf480⟩ := h475
             obtain ⟨e481, e482, rfl, h483, h484⟩ := h476
             obtain rfl := h483
             obtain ⟨e485, e486, rfl, h487, h488⟩ := h484
             obtain rfl := h487
             obtain rfl := h488
             have ha472 : ∀ w', Lies w' A248 (cellsB oembedSeq ads250 l247) → w'.rangeAt g466 o467 [.slice A477 ((x464.1).length) c478, .int .u8 x464.2.1, .int .u8 x464.2.2.1, .int .u8 x464.2.2.2] := ha472
             refine gd1 34 { dst := some 173, op := _, type := _, pos := _, after := _, guard := _ } (.pointer (some ⟨g466, o467, none⟩)) rfl hS370 (fun w hSw => run_ixaddrN (E := 36) (s := 4) (k := .i64) (c := c249) rfl (by as_aux_lemma => kernel_rfl) (by as_aux_lemma => kernel_rfl) (by as_aux_lemma => kernel_rfl) (fun _ => by kernel_rfl) (ixg_in hx465).1 (lt_len hn260 (ixg_in hx465).2.1) hA469) ?_
             refine gd1 35 { dst := some 174, op := _, type := _, pos := _, after := _, guard := _ } (.pointer (some ⟨g466, o467 + 2, none⟩)) rfl hS370 (fun w hSw => by kernel_rfl) ?_
             refine gd1 36 { dst := some 175, op := _, type := _, pos := _, after := _, guard := _ } (.int .u8 x464.2.2.1) rfl hS370 (fun w hSw => run_loadN1 2 rfl (by as_aux_lemma => kernel_rfl) (fun _ => by kernel_rfl) (ha472 _ (rowG_lies (e := encembedSeq) hn260 (hSw.get 3 rfl))) rfl) ?_
             rcases if_in hE435 with ⟨h489, hE435⟩ | ⟨h489, hE435⟩
             ·refine gd1 37 { dst := some 176, op := _, type := _, pos := _, after := _, guard := _ } (.bool true) rfl hS370 (fun w hSw => run_boolE (ne_yes h489) (by as_aux_lemma => kernel_rfl)) ?_
              refine gd1 38 { dst := some 177, op := _, type := _, pos := _, after := _, guard := _ } (.bool true) rfl hS370 (fun w hSw => by kernel_rfl) ?_
              exact gd_to hK438 (by as_aux_lemma => kernel_rfl) ⟨true, selfA_i (by as_aux_lemma => kernel_rfl), (Option.some.inj hE435), hS370⟩
             ·refine gd1 37 { dst := some 176, op := _, type := _, pos := _, after := _, guard := _ } (.bool false) rfl hS370 (fun w hSw => run_boolE (ne_no h489) (by as_aux_lemma => kernel_rfl)) ?_
              refine gd1 38 { dst := some 177, op := _, type := _, pos := _, after := _, guard := _ } (.bool false) rfl hS370 (fun w hSw => by kernel_rfl) ?_
              exact gd_to hK438 (by as_aux_lemma => kernel_rfl) ⟨false, selfA_i (by as_aux_lemma => kernel_rfl), (Option.some.inj hE435), hS370⟩
          ·intro hK377
           rcases if_in hE374 with ⟨h378, hE374⟩ | ⟨h378, hE374⟩
           ·refine gd1 12 { dst := some 151, op := _, type := _, pos := _, after := _, guard := _ } (.bool true) rfl hS318 (fun w hSw => run_boolE (ne_yes h378) (by as_aux_lemma => kernel_rfl)) ?_
            refine gd1 13 { dst := some 152, op := _, type := _, pos := _, after := _, guard := _ } (.bool true) rfl hS318 (fun w hSw => by kernel_rfl) ?_
            refine gd0 14 { dst := some 153, op := _, type := _, pos := _, after := _, guard := _ } rfl hS318 ?_
            refine gd0 15 { dst := some 154, op := _, type := _, pos := _, after := _, guard := _ } rfl hS318 ?_
            refine gd0 16 { dst := some 155, op := _, type := _, pos := _, after := _, guard := _ } rfl hS318 ?_
            refine gd0 17 { dst := some 156, op := _, type := _, pos := _, after := _, guard := _ } rfl hS318 ?_
            refine gd0 18 { dst := some 157, op := _, type := _, pos := _, after := _, guard := _ } rfl hS318 ?_
            refine gd0 19 { dst := some 158, op := _, type := _, pos := _, after := _, guard := _ } rfl hS318 ?_
            refine gd0 20 { dst := some 159, op := _, type := _, pos := _, after := _, guard := _ } rfl hS318 ?_
            refine gd0 21 { dst := some 160, op := _, type := _, pos := _, after := _, guard := _ } rfl hS318 ?_
            refine gd0 22 { dst := some 161, op := _, type := _, pos := _, after := _, guard := _ } rfl hS318 ?_
            refine gd0 23 { dst := some 162, op := _, type := _, pos := _, after := _, guard := _ } rfl hS318 ?_
            refine gd0 24 { dst := some 163, op := _, type := _, pos := _, after := _, guard := _ } rfl hS318 ?_
            refine gd1 25 { dst := some 164, op := _, type := _, pos := _, after := _, guard := _ } (.bool true) rfl hS318 (fun w hSw => by kernel_rfl) ?_
            exact gd_to hK377 (by as_aux_lemma => kernel_rfl) ⟨true, selfA_i (by as_aux_lemma => kernel_rfl), (Option.some.inj hE374), hS318⟩
           ·refine gd1 12 { dst := some 151, op := _, type := _, pos := _, after := _, guard := _ } (.bool false) rfl hS318 (fun w hSw => run_boolE (ne_no h378) (by as_aux_lemma => kernel_rfl)) ?_
            refine gd1 13 { dst := some 152, op := _, type := _, pos := _, after := _, guard := _ } (.bool false) rfl hS318 (fun w hSw => by kernel_rfl) ?_
            refine gd1 14 { dst := some 153, op := _, type := _, pos := _, after := _, guard := _ } (.slice A230 l229.length c231) rfl hS318 (fun w hSw => by kernel_rfl) ?_
            refine gd1 15 { dst := some 154, op := _, type := _, pos := _, after := _, guard := _ } (.int .i64 x295) rfl hS318 (fun w hSw => by kernel_rfl) ?_
            obtain ⟨x379, hx380, hE374⟩ := bind_in hE374
            obtain ⟨g381, o382, e383, hA384, he385, h386, ha387⟩ := elem_at (e := encembedSeq) (rowG_lies (e := encembedSeq) hn242 (hS318.get 2 rfl)) (hT258.pool hf241) hx380 (by decide)
            obtain ⟨e388, e389, rfl, h390, h391⟩ := h386
            obtain ⟨A392, c393, vs394, rfl, hf395⟩ := h390
            obtain ⟨e396, e397, rfl, h398, h399⟩ := h391
            obtain rfl := h398
            obtain ⟨e400, e401, rfl, h402, h403⟩ := h399
            obtain rfl := h402
            obtain rfl := h403
            have ha387 : ∀ w', Lies w' A230 (cellsB oembedSeq ads232 l229) → w'.rangeAt g381 o382 [.slice A392 ((x379.1).length) c393, .int .u8 x379.2.1, .int .u8 x379.2.2.1, .int .u8 x379.2.2.2] := ha387
            refine gd1 16 { dst := some 155, op := _, type := _, pos := _, after := _, guard := _ } (.pointer (some ⟨g381, o382, none⟩)) rfl hS318 (fun w hSw => run_ixaddrN (E := 36) (s := 4) (k := .i64) (c := c231) rfl (by as_aux_lemma => kernel_rfl) (by as_aux_lemma => kernel_rfl) (by as_aux_lemma => kernel_rfl) (fun _ => by kernel_rfl) (ixg_in hx380).1 (lt_len hn242 (ixg_in hx380).2.1) hA384) ?_
            refine gd1 17 { dst := some 156, op := _, type := _, pos := _, after := _, guard := _ } (.pointer (some ⟨g381, o382 + 1, none⟩)) rfl hS318 (fun w hSw => by kernel_rfl) ?_
            refine gd1 18 { dst := some 157, op := _, type := _, pos := _, after := _, guard := _ } (.int .u8 x379.2.1) rfl hS318 (fun w hSw => run_loadN1 1 rfl (by as_aux_lemma => kernel_rfl) (fun _ => by kernel_rfl) (ha387 _ (rowG_lies (e := encembedSeq) hn242 (hSw.get 2 rfl))) rfl) ?_
            refine gd1 19 { dst := some 158, op := _, type := _, pos := _, after := _, guard := _ } (.slice A248 l247.length c249) rfl hS318 (fun w hSw => by kernel_rfl) ?_
            refine gd1 20 { dst := some 159, op := _, type := _, pos := _, after := _, guard := _ } (.int .i64 x295) rfl hS318 (fun w hSw => by kernel_rfl) ?_
            obtain ⟨x404, hx405, hE374⟩ := bind_in hE374
            obtain ⟨g406, o407, e408, hA409, he410, h411, ha412⟩ := elem_at (e := encembedSeq) (rowG_lies (e := encembedSeq) hn260 (hS318.get 3 rfl)) hf259 hx405 (by decide)
            obtain ⟨e413, e414, rfl, h415, h416⟩ := h411
            obtain ⟨A417, c418, vs419, rfl, hf420⟩ := h415
            obtain ⟨e421, e422, rfl, h423, h424⟩ := h416
            obtain rfl := h423
            obtain ⟨e425, e426, rfl, h427, h428⟩ := h424
            obtain rfl := h427
            obtain rfl := h428
            have ha412 : ∀ w', Lies w' A248 (cellsB oembedSeq ads250 l247) → w'.rangeAt g406 o407 [.slice A417 ((x404.1).length) c418, .int .u8 x404.2.1, .int .u8 x404.2.2.1, .int .u8 x404.2.2.2] := ha412
            refine gd1 21 { dst := some 160, op := _, type := _, pos := _, after := _, guard := _ } (.pointer (some ⟨g406, o407, none⟩)) rfl hS318 (fun w hSw => run_ixaddrN (E := 36) (s := 4) (k := .i64) (c := c249) rfl (by as_aux_lemma => kernel_rfl) (by as_aux_lemma => kernel_rfl) (by as_aux_lemma => kernel_rfl) (fun _ => by kernel_rfl) (ixg_in hx405).1 (lt_len hn260 (ixg_in hx405).2.1) hA409) ?_
            refine gd1 22 { dst := some 161, op := _, type := _, pos := _, after := _, guard := _ } (.pointer (some ⟨g406, o407 + 1, none⟩)) rfl hS318 (fun w hSw => by kernel_rfl) ?_
            refine gd1 23 { dst := some 162, op := _, type := _, pos := _, after := _, guard := _ } (.int .u8 x404.2.1) rfl hS318 (fun w hSw => run_loadN1 1 rfl (by as_aux_lemma => kernel_rfl) (fun _ => by kernel_rfl) (ha412 _ (rowG_lies (e := encembedSeq) hn260 (hSw.get 3 rfl))) rfl) ?_
            rcases if_in hE374 with ⟨h429, hE374⟩ | ⟨h429, hE374⟩
            ·refine gd1 24 { dst := some 163, op := _, type := _, pos := _, after := _, guard := _ } (.bool true) rfl hS318 (fun w hSw => run_boolE (ne_yes h429) (by as_aux_lemma => kernel_rfl)) ?_
             refine gd1 25 { dst := some 164, op := _, type := _, pos := _, after := _, guard := _ } (.bool true) rfl hS318 (fun w hSw => by kernel_rfl) ?_
             exact gd_to hK377 (by as_aux_lemma => kernel_rfl) ⟨true, selfA_i (by as_aux_lemma => kernel_rfl), (Option.some.inj hE374), hS318⟩
            ·refine gd1 24 { dst := some 163, op := _, type := _, pos := _, after := _, guard := _ } (.bool false) rfl hS318 (fun w hSw => run_boolE (ne_no h429) (by as_aux_lemma => kernel_rfl)) ?_
             refine gd1 25 { dst := some 164, op := _, type := _, pos := _, after := _, guard := _ } (.bool false) rfl hS318 (fun w hSw => by kernel_rfl) ?_
             exact gd_to hK377 (by as_aux_lemma => kernel_rfl) ⟨false, selfA_i (by as_aux_lemma => kernel_rfl), (Option.some.inj hE374), hS318⟩
         ·rintro _ w309 ⟨hq664, rfl, hS310⟩
          obtain ⟨u311, rfl⟩ := selfA_u hq664
          try dsimp only at hO314
          refine gx_seq (fun K545 hK546 => ?_)
          refine gx_region ?_
          refine gx_kA (.int .i64 0) w309 ?_
          refine gx_nil ?_
          refine gx_thenN ?_
          refine hK546 _ _ ?_
          refine gx_block ?_
          refine gx_loop (fun k a w => ∃ (x550 : Int), selfA (fun u549 => ⟨(dd u263 0 2 ((.int .u8 p2) :: (u46 3) :: un 4 ((u549 8) :: dd u263 9 2 ((.slice A53 l55.length c54) :: dd u46 12 2 ((.slice A230 l229.length c231) :: (.int .i64 x233) :: (.slice A248 l247.length c249) :: (.int .i64 x251) :: (.int .i64 x295) :: (.int .i64 x550) :: (u549 20) :: dd u5 21 16 (dd u46 37 69 (dd u263 106 3 ((.int .u8 p2) :: dd u263 110 2 ((.int .i64 x233) :: dd u263 113 3 ((.int .u8 p2) :: dd u263 117 2 ((.int .i64 x251) :: dd u263 120 13 ((.int .i64 x295) :: (u311 134) :: (.int .i64 ((l229.length : Nat) : Int)) :: (.bool true) :: dd u294 137 2 (dd u311 139 52 (dd u549 191 41 (undef :: []))))))))))))))).toArray, []⟩) a ∧ fWithout_L4 N l55 l229 l247 x295 k x550 = some c306 ∧ St [] w0 w [poolE ft255 W256, rowE .i64 3 A53 c54 l55, rowG 36 4 (.slice A230 l229.length c231) l229.length (cellsB oembedSeq ads232 l229), rowG 36 4 (.slice A248 l247.length c249) l247.length (cellsB oembedSeq ads250 l247)]) N ?_ ?_
          ·exact ⟨0, selfA_i (by as_aux_lemma => kernel_rfl), hO314, hS310⟩
          ·rintro k551 _ w547 ⟨x550, hq663, hL552, hS548⟩
           obtain ⟨u549, rfl⟩ := selfA_u hq663
           cases k551 with
           | zero => cases hL552
           | succ k551 =>
            first | rw [fWithout_L4] at hL552 | unfold fWithout_L4 at hL552
            refine gx_seq (fun K553 hK554 => ?_)
            refine gx_seq (fun K555 hK556 => ?_)
            refine gx_region ?_
            refine gx_kA (.int .i64 x550) w547 (gx_kA (.slice A230 l229.length c231) w547 (gx_kA (.int .i64 x295) w547 ?_))
            obtain ⟨x557, hx558, hL552⟩ := bind_in hL552
            obtain ⟨g559, o560, e561, hA562, he563, h564, ha565⟩ := elem_at (e := encembedSeq) (rowG_lies (e := encembedSeq) hn242 (hS548.get 2 rfl)) (hT258.pool hf241) hx558 (by decide)
            obtain ⟨e566, e567, rfl, h568, h569⟩ := h564
            obtain ⟨A570, c571, vs572, rfl, hf573⟩ := h568
            obtain ⟨e574, e575, rfl, h576, h577⟩ := h569
            obtain rfl := h576
            obtain ⟨e578, e579, rfl, h580, h581⟩ := h577
            obtain rfl := h580
            obtain rfl := h581
            have ha565 : ∀ w', Lies w' A230 (cellsB oembedSeq ads232 l229) → w'.rangeAt g559 o560 [.slice A570 ((x557.1).length) c571, .int .u8 x557.2.1, .int .u8 x557.2.2.1, .int .u8 x557.2.2.2] := ha565
            refine gx_vA (.pointer (some ⟨g559, o560, none⟩)) w547 (run_ixaddrN (E := 36) (s := 4) (k := .i64) (c := c231) rfl (by as_aux_lemma => kernel_rfl) (by as_aux_lemma => kernel_rfl) (by as_aux_lemma => kernel_rfl) (fun _ => by kernel_rfl) (ixg_in hx558).1 (lt_len hn242 (ixg_in hx558).2.1) hA562) ?_
            refine gx_kA (.pointer (some ⟨g559, o560, none⟩)) w547 ?_
            refine gx_vA (.slice A570 ((x557.1).length) c571) w547 (run_loadN1 0 rfl (by as_aux_lemma => kernel_rfl) (fun _ => by kernel_rfl) (ha565 _ (rowG_lies (e := encembedSeq) hn242 (hS548.get 2 rfl))) rfl) ?_
            refine gx_kA (.int .i64 (((x557.1).length : Nat) : Int)) w547 ?_
            rcases if_in hL552 with ⟨h582, hL552⟩ | ⟨h582, hL552⟩
            ·refine gx_vA (.bool true) w547 (run_boolE (decide_eq_true h582) (by as_aux_lemma => kernel_rfl)) ?_
             refine gx_nil ?_
             refine gx_thenN ?_
             refine hK556 _ _ ?_
             refine gx_yes (by as_aux_lemma => kernel_rfl) ?_
             refine gx_pass ?_
             refine gx_thenN ?_
             refine hK554 _ _ ?_
             refine gx_seq (fun K583 hK584 => ?_)
             refine gx_block ?_
             refine gx_seq (fun K585 hK586 => ?_)
             refine gx_region ?_
             refine gx_kA (.slice A248 l247.length c249) w547 (gx_kA (.int .i64 x295) w547 ?_)
             obtain ⟨x587, hx588, hL552⟩ := bind_in hL552
             obtain ⟨g589, o590, e591, hA592, he593, h594, ha595⟩ := elem_at (e := encembedSeq) (rowG_lies (e := encembedSeq) hn260 (hS548.get 3 rfl)) hf259 hx588 (by decide)
             obtain ⟨e596, e597, rfl, h598, h599⟩ := h594
             obtain ⟨A600, c601, vs602, rfl, hf603⟩ := h598
             obtain ⟨e604, e605, rfl, h606, h607⟩ := h599
             obtain rfl := h606
             obtain ⟨e608, e609, rfl, h610, h611⟩ := h607
             obtain rfl := h610
             obtain rfl := h611
             have ha595 : ∀ w', Lies w' A248 (cellsB oembedSeq ads250 l247) → w'.rangeAt g589 o590 [.slice A600 ((x587.1).length) c601, .int .u8 x587.2.1, .int .u8 x587.2.2.1, .int .u8 x587.2.2.2] := ha595
             refine gx_vA (.pointer (some ⟨g589, o590, none⟩)) w547 (run_ixaddrN (E := 36) (s := 4) (k := .i64) (c := c249) rfl (by as_aux_lemma => kernel_rfl) (by as_aux_lemma => kernel_rfl) (by as_aux_lemma => kernel_rfl) (fun _ => by kernel_rfl) (ixg_in hx588).1 (lt_len hn260 (ixg_in hx588).2.1) hA592) ?_
             refine gx_kA (.pointer (some ⟨g589, o590, none⟩)) w547 ?_
             refine gx_vA (.slice A600 ((x587.1).length) c601) w547 (run_loadN1 0 rfl (by as_aux_lemma => kernel_rfl) (fun _ => by kernel_rfl) (ha595 _ (rowG_lies (e := encembedSeq) hn260 (hS548.get 3 rfl))) rfl) ?_
             refine gx_kA (.int .i64 x550) w547 ?_
             obtain ⟨x612, hx613, hL552⟩ := bind_in hL552
             refine gx_vA (.pointer (Option.map (fun (p : Addr) => p.add (Int.toNat x550 * 1)) A600)) w547 (run_ixaddr (E := 3) (s := 1) (k := .i64) (c := c601) rfl (by as_aux_lemma => kernel_rfl) (by as_aux_lemma => kernel_rfl) (by as_aux_lemma => kernel_rfl) (fun _ => by kernel_rfl) (ix_in hx613).1 (ix_in hx613).2.1 (num_nil (num_sl (hS548.now 0 rfl hf603)))) ?_
             refine gx_vA (.int .i64 x612) w547 (run_loadix rfl (by as_aux_lemma => kernel_rfl) (fun _ => by kernel_rfl) (num_sl (hS548.now 0 rfl hf603)) hx613) ?_
             refine gx_kA (.int .i64 x612) w547 ?_
             refine gx_nil ?_
             refine gx_thenN ?_
             refine hK586 _ _ ?_
             refine gx_seq (fun K614 hK615 => ?_)
             refine gd_start (fun w => St [] w0 w [poolE ft255 W256, rowE .i64 3 A53 c54 l55, rowG 36 4 (.slice A230 l229.length c231) l229.length (cellsB oembedSeq ads232 l229), rowG 36 4 (.slice A248 l247.length c249) l247.length (cellsB oembedSeq ads250 l247)]) 23 #[false, false, false, false, false, false, false, false, false, false, false, false, false, false, false, false, false, false, false, false, false, false, false] (by as_aux_lemma => kernel_rfl) (by as_aux_lemma => kernel_rfl) ?_
             have hS617 := hS548.drew
             generalize w547.drew = w616 at hS617 ⊢
             refine gd1 0 { dst := some 209, op := _, type := _, pos := _, after := _, guard := _ } (.int .i64 x612) rfl hS617 (fun w hSw => by kernel_rfl) ?_
             obtain ⟨c622, hE623, hO624⟩ := bind_in hL552
             refine gd_mid (fun a w => ∃ (b621 : Bool), selfA (fun u620 => ⟨(dd u263 0 2 ((.int .u8 p2) :: (u46 3) :: un 4 ((u549 8) :: dd u263 9 2 ((.slice A53 l55.length c54) :: dd u46 12 2 ((.slice A230 l229.length c231) :: (.int .i64 x233) :: (.slice A248 l247.length c249) :: (.int .i64 x251) :: (.int .i64 x295) :: (.int .i64 x550) :: (.int .i64 x612) :: dd u5 21 16 (dd u46 37 69 (dd u263 106 3 ((.int .u8 p2) :: dd u263 110 2 ((.int .i64 x233) :: dd u263 113 3 ((.int .u8 p2) :: dd u263 117 2 ((.int .i64 x251) :: dd u263 120 13 ((.int .i64 x295) :: (u311 134) :: (.int .i64 ((l229.length : Nat) : Int)) :: (.bool true) :: dd u294 137 2 (dd u311 139 52 ((.int .i64 x550) :: (u620 192) :: (.int .i64 x295) :: dd u620 194 3 ((.int .i64 (((x557.1).length : Nat) : Int)) :: (.bool true) :: dd u549 199 2 ((u620 201) :: (.int .i64 x295) :: dd u620 203 3 ((.int .i64 x550) :: (.pointer (Option.map (fun (p : Addr) => p.add (Int.toNat x550 * 1)) A600)) :: (.int .i64 x612) :: (.int .i64 x612) :: dd u620 210 6 ((.bool b621) :: dd u549 217 15 (undef :: []))))))))))))))))))).toArray, []⟩) a ∧ b621 = c622 ∧ St [] w0 w [poolE ft255 W256, rowE .i64 3 A53 c54 l55, rowG 36 4 (.slice A230 l229.length c231) l229.length (cellsB oembedSeq ads232 l229), rowG 36 4 (.slice A248 l247.length c249) l247.length (cellsB oembedSeq ads250 l247)]) 15 #[true, true, true, true, true, true, true, true, false, false, false, false, false, false, false, false, false, false, false, false, false, false, false] ?_ ?_
             ·rintro _ w618 ⟨b621, hq625, rfl, hS619⟩
              obtain ⟨u620, rfl⟩ := selfA_u hq625
              try dsimp only at hO624
              refine gd1 8 { dst := some 217, op := _, type := _, pos := _, after := _, guard := _ } (.bool b621) rfl hS619 (fun w hSw => by kernel_rfl) ?_
              cases b621 with
              | true =>
               try dsimp only at hO624
               refine gd0 9 { dst := some 218, op := _, type := _, pos := _, after := _, guard := _ } rfl hS619 ?_
               refine gd0 10 { dst := some 219, op := _, type := _, pos := _, after := _, guard := _ } rfl hS619 ?_
               refine gd0 11 { dst := some 220, op := _, type := _, pos := _, after := _, guard := _ } rfl hS619 ?_
               refine gd0 12 { dst := some 221, op := _, type := _, pos := _, after := _, guard := _ } rfl hS619 ?_
               refine gd0 13 { dst := some 222, op := _, type := _, pos := _, after := _, guard := _ } rfl hS619 ?_
               refine gd0 14 { dst := some 223, op := _, type := _, pos := _, after := _, guard := _ } rfl hS619 ?_
               refine gd0 15 { dst := some 224, op := _, type := _, pos := _, after := _, guard := _ } rfl hS619 ?_
               refine gd0 16 { dst := some 225, op := _, type := _, pos := _, after := _, guard := _ } rfl hS619 ?_
               refine gd0 17 { dst := some 226, op := _, type := _, pos := _, after := _, guard := _ } rfl hS619 ?_
               refine gd0 18 { dst := some 227, op := _, type := _, pos := _, after := _, guard := _ } rfl hS619 ?_
               refine gd0 19 { dst := some 228, op := _, type := _, pos := _, after := _, guard := _ } rfl hS619 ?_
               refine gd0 20 { dst := some 229, op := _, type := _, pos := _, after := _, guard := _ } rfl hS619 ?_
               refine gd0 21 { dst := some 230, op := _, type := _, pos := _, after := _, guard := _ } rfl hS619 ?_
               refine gd1 22 { dst := some 231, op := _, type := _, pos := _, after := _, guard := _ } (.bool true) rfl hS619 (fun w hSw => by kernel_rfl) ?_
               refine gd_done (by as_aux_lemma => kernel_rfl) ?_
               refine gx_thenN ?_
               refine hK615 _ _ ?_
               refine gx_yes (by as_aux_lemma => kernel_rfl) ?_
               refine gx_seq (fun K629 hK630 => ?_)
               refine gx_region ?_
               refine gx_kA (.bool false) w618 ?_
               refine gx_nil ?_
               refine gx_thenN ?_
               refine hK630 _ _ ?_
               refine gx_ret ?_
               refine gx_blkR ?_
               refine gx_thenR ?_
               refine gx_thenR ?_
               refine gx_blkR ?_
               refine gx_blkR ?_
               refine gx_thenR ?_
               obtain rfl := Option.some.inj hO624
               try dsimp only at hO308
               refine gx_thenR ?_
               refine gx_blkR ?_
               refine gx_thenR ?_
               obtain rfl := Option.some.inj hO308
               try dsimp only at hO289
               obtain rfl := Option.some.inj hO289
               exact gx_fin (.bool false) (by as_aux_lemma => kernel_rfl) (by as_aux_lemma => kernel_rfl) ⟨_, rfl, rfl, (hS619.pick [] rfl rfl)⟩
              | false =>
               try dsimp only at hO624
               refine gd1 9 { dst := some 218, op := _, type := _, pos := _, after := _, guard := _ } (.slice A53 l55.length c54) rfl hS619 (fun w hSw => by kernel_rfl) ?_
               refine gd1 10 { dst := some 219, op := _, type := _, pos := _, after := _, guard := _ } (.int .i64 x612) rfl hS619 (fun w hSw => by kernel_rfl) ?_
               obtain ⟨x631, hx632, hO624⟩ := bind_in hO624
               refine gd1 11 { dst := some 220, op := _, type := _, pos := _, after := _, guard := _ } (.pointer (Option.map (fun (p : Addr) => p.add (Int.toNat x612 * 1)) A53)) rfl hS619 (fun w hSw => run_ixaddr (E := 3) (s := 1) (k := .i64) (c := c54) rfl (by as_aux_lemma => kernel_rfl) (by as_aux_lemma => kernel_rfl) (by as_aux_lemma => kernel_rfl) (fun _ => by kernel_rfl) (ix_in hx632).1 (ix_in hx632).2.1 (num_nil (hS619.row 1 rfl).1)) ?_
               refine gd1 12 { dst := some 221, op := _, type := _, pos := _, after := _, guard := _ } (.int .i64 x631) rfl hS619 (fun w hSw => run_loadix rfl (by as_aux_lemma => kernel_rfl) (fun _ => by kernel_rfl) (hSw.row 1 rfl).1 hx632) ?_
               refine gd1 13 { dst := some 222, op := _, type := _, pos := _, after := _, guard := _ } (.slice A230 l229.length c231) rfl hS619 (fun w hSw => by kernel_rfl) ?_
               refine gd1 14 { dst := some 223, op := _, type := _, pos := _, after := _, guard := _ } (.int .i64 x295) rfl hS619 (fun w hSw => by kernel_rfl) ?_
               obtain ⟨x633, hx634, hO624⟩ := bind_in hO624
               obtain ⟨g635, o636, e637, hA638, he639, h640, ha641⟩ := elem_at (e := encembedSeq) (rowG_lies (e := encembedSeq) hn242 (hS619.get 2 rfl)) (hT258.pool hf241) hx634 (by decide)
               obtain ⟨e642, e643, rfl, h644, h645⟩ := h640
               obtain ⟨A646, c647, vs648, rfl, hf649⟩ := h644
               obtain ⟨e650, e651, rfl, h652, h653⟩ := h645
               obtain rfl := h652
               obtain ⟨e654, e655, rfl, h656, h657⟩ := h653
               obtain rfl := h656
               obtain rfl := h657
               have ha641 : ∀ w', Lies w' A230 (cellsB oembedSeq ads232 l229) → w'.rangeAt g635 o636 [.slice A646 ((x633.1).length) c647, .int .u8 x633.2.1, .int .u8 x633.2.2.1, .int .u8 x633.2.2.2] := ha641
               refine gd1 15 { dst := some 224, op := _, type := _, pos := _, after := _, guard := _ } (.pointer (some ⟨g635, o636, none⟩)) rfl hS619 (fun w hSw => run_ixaddrN (E := 36) (s := 4) (k := .i64) (c := c231) rfl (by as_aux_lemma => kernel_rfl) (by as_aux_lemma => kernel_rfl) (by as_aux_lemma => kernel_rfl) (fun _ => by kernel_rfl) (ixg_in hx634).1 (lt_len hn242 (ixg_in hx634).2.1) hA638) ?_
               refine gd1 16 { dst := some 225, op := _, type := _, pos := _, after := _, guard := _ } (.pointer (some ⟨g635, o636, none⟩)) rfl hS619 (fun w hSw => by kernel_rfl) ?_
               refine gd1 17 { dst := some 226, op := _, type := _, pos := _, after := _, guard := _ } (.slice A646 ((x633.1).length) c647) rfl hS619 (fun w hSw => run_loadN1 0 rfl (by as_aux_lemma => kernel_rfl) (fun _ => by kernel_rfl) (ha641 _ (rowG_lies (e := encembedSeq) hn242 (hSw.get 2 rfl))) rfl) ?_
               refine gd1 18 { dst := some 227, op := _, type := _, pos := _, after := _, guard := _ } (.int .i64 x550) rfl hS619 (fun w hSw => by kernel_rfl) ?_
               obtain ⟨x658, hx659, hO624⟩ := bind_in hO624
               refine gd1 19 { dst := some 228, op := _, type := _, pos := _, after := _, guard := _ } (.pointer (Option.map (fun (p : Addr) => p.add (Int.toNat x550 * 1)) A646)) rfl hS619 (fun w hSw => run_ixaddr (E := 3) (s := 1) (k := .i64) (c := c647) rfl (by as_aux_lemma => kernel_rfl) (by as_aux_lemma => kernel_rfl) (by as_aux_lemma => kernel_rfl) (fun _ => by kernel_rfl) (ix_in hx659).1 (ix_in hx659).2.1 (num_nil (num_sl (hS619.now 0 rfl hf649)))) ?_
               refine gd1 20 { dst := some 229, op := _, type := _, pos := _, after := _, guard := _ } (.int .i64 x658) rfl hS619 (fun w hSw => run_loadix rfl (by as_aux_lemma => kernel_rfl) (fun _ => by kernel_rfl) (num_sl (hSw.now 0 rfl hf649)) hx659) ?_
               rcases if_in hO624 with ⟨h660, hO624⟩ | ⟨h660, hO624⟩
               ·refine gd1 21 { dst := some 230, op := _, type := _, pos := _, after := _, guard := _ } (.bool true) rfl hS619 (fun w hSw => run_boolE (ne_yes h660) (by as_aux_lemma => kernel_rfl)) ?_
                refine gd1 22 { dst := some 231, op := _, type := _, pos := _, after := _, guard := _ } (.bool true) rfl hS619 (fun w hSw => by kernel_rfl) ?_
                refine gd_done (by as_aux_lemma => kernel_rfl) ?_
                refine gx_thenN ?_
                refine hK615 _ _ ?_
                refine gx_yes (by as_aux_lemma => kernel_rfl) ?_
                refine gx_seq (fun K661 hK662 => ?_)
                refine gx_region ?_
                refine gx_kA (.bool false) w618 ?_
                refine gx_nil ?_
                refine gx_thenN ?_
                refine hK662 _ _ ?_
                refine gx_ret ?_
                refine gx_blkR ?_
                refine gx_thenR ?_
                refine gx_thenR ?_
                refine gx_blkR ?_
                refine gx_blkR ?_
                refine gx_thenR ?_
                obtain rfl := Option.some.inj hO624
                try dsimp only at hO308
                refine gx_thenR ?_
                refine gx_blkR ?_
                refine gx_thenR ?_
                obtain rfl := Option.some.inj hO308
                try dsimp only at hO289
                obtain rfl := Option.some.inj hO289
                exact gx_fin (.bool false) (by as_aux_lemma => kernel_rfl) (by as_aux_lemma => kernel_rfl) ⟨_, rfl, rfl, (hS619.pick [] rfl rfl)⟩
               ·refine gd1 21 { dst := some 230, op := _, type := _, pos := _, after := _, guard := _ } (.bool false) rfl hS619 (fun w hSw => run_boolE (ne_no h660) (by as_aux_lemma => kernel_rfl)) ?_
                refine gd1 22 { dst := some 231, op := _, type := _, pos := _, after := _, guard := _ } (.bool false) rfl hS619 (fun w hSw => by kernel_rfl) ?_
                refine gd_done (by as_aux_lemma => kernel_rfl) ?_
                refine gx_thenN ?_
                refine hK615 _ _ ?_
                refine gx_no (by as_aux_lemma => kernel_rfl) ?_
                refine gx_pass ?_
                refine gx_blkN ?_
                refine gx_thenN ?_
                refine hK584 _ _ ?_
                refine gx_region ?_
                refine gx_kA (.int .i64 x550) w618 (gx_kA (.int .i64 (IntKind.i64.wrap (x550 + 1))) w618 (gx_kA (.int .i64 (IntKind.i64.wrap (x550 + 1))) w618 ?_))
                refine gx_nil ?_
                refine gx_thenN ?_
                exact ⟨k551, Nat.lt_succ_self k551, (IntKind.i64.wrap (x550 + 1)), selfA_i (by as_aux_lemma => kernel_rfl), hO624, hS619⟩
             ·intro hK626
              rcases if_in hE623 with ⟨h627, hE623⟩ | ⟨h627, hE623⟩
              ·refine gd1 1 { dst := some 210, op := _, type := _, pos := _, after := _, guard := _ } (.bool true) rfl hS617 (fun w hSw => run_boolE (decide_eq_true h627) (by as_aux_lemma => kernel_rfl)) ?_
               refine gd1 2 { dst := some 211, op := _, type := _, pos := _, after := _, guard := _ } (.bool true) rfl hS617 (fun w hSw => by kernel_rfl) ?_
               refine gd0 3 { dst := some 212, op := _, type := _, pos := _, after := _, guard := _ } rfl hS617 ?_
               refine gd0 4 { dst := some 213, op := _, type := _, pos := _, after := _, guard := _ } rfl hS617 ?_
               refine gd0 5 { dst := some 214, op := _, type := _, pos := _, after := _, guard := _ } rfl hS617 ?_
               refine gd0 6 { dst := some 215, op := _, type := _, pos := _, after := _, guard := _ } rfl hS617 ?_
               refine gd1 7 { dst := some 216, op := _, type := _, pos := _, after := _, guard := _ } (.bool true) rfl hS617 (fun w hSw => by kernel_rfl) ?_
               exact gd_to hK626 (by as_aux_lemma => kernel_rfl) ⟨true, selfA_i (by as_aux_lemma => kernel_rfl), (Option.some.inj hE623), hS617⟩
              ·refine gd1 1 { dst := some 210, op := _, type := _, pos := _, after := _, guard := _ } (.bool false) rfl hS617 (fun w hSw => run_boolE (decide_eq_false h627) (by as_aux_lemma => kernel_rfl)) ?_
               refine gd1 2 { dst := some 211, op := _, type := _, pos := _, after := _, guard := _ } (.bool false) rfl hS617 (fun w hSw => by kernel_rfl) ?_
               refine gd1 3 { dst := some 212, op := _, type := _, pos := _, after := _, guard := _ } (.int .i64 x612) rfl hS617 (fun w hSw => by kernel_rfl) ?_
               refine gd1 4 { dst := some 213, op := _, type := _, pos := _, after := _, guard := _ } (.slice A53 l55.length c54) rfl hS617 (fun w hSw => by kernel_rfl) ?_
               refine gd1 5 { dst := some 214, op := _, type := _, pos := _, after := _, guard := _ } (.int .i64 ((l55.length : Nat) : Int)) rfl hS617 (fun w hSw => by kernel_rfl) ?_
               rcases if_in hE623 with ⟨h628, hE623⟩ | ⟨h628, hE623⟩
               ·refine gd1 6 { dst := some 215, op := _, type := _, pos := _, after := _, guard := _ } (.bool true) rfl hS617 (fun w hSw => run_boolE (decide_eq_true h628) (by as_aux_lemma => kernel_rfl)) ?_
                refine gd1 7 { dst := some 216, op := _, type := _, pos := _, after := _, guard := _ } (.bool true) rfl hS617 (fun w hSw => by kernel_rfl) ?_
                exact gd_to hK626 (by as_aux_lemma => kernel_rfl) ⟨true, selfA_i (by as_aux_lemma => kernel_rfl), (Option.some.inj hE623), hS617⟩
               ·refine gd1 6 { dst := some 215, op := _, type := _, pos := _, after := _, guard := _ } (.bool false) rfl hS617 (fun w hSw => run_boolE (decide_eq_false h628) (by as_aux_lemma => kernel_rfl)) ?_
                refine gd1 7 { dst := some 216, op := _, type := _, pos := _, after := _, guard := _ } (.bool false) rfl hS617 (fun w hSw => by kernel_rfl) ?_
                exact gd_to hK626 (by as_aux_lemma => kernel_rfl) ⟨false, selfA_i (by as_aux_lemma => kernel_rfl), (Option.some.inj hE623), hS617⟩
            ·refine gx_vA (.bool false) w547 (run_boolE (decide_eq_false h582) (by as_aux_lemma => kernel_rfl)) ?_
             refine gx_nil ?_
             refine gx_thenN ?_
             refine hK556 _ _ ?_
             refine gx_no (by as_aux_lemma => kernel_rfl) ?_
             refine gx_exit ?_
             refine gx_thenE ?_
             refine gx_thenE ?_
             refine gx_blkE ?_
             refine gx_blkN ?_
             refine gx_thenN ?_
             exact ⟨selfA_i (by as_aux_lemma => kernel_rfl), (Option.some.inj hL552), hS548⟩
        ·rintro _ w303 ⟨hq665, rfl, hS304⟩
         obtain ⟨u305, rfl⟩ := selfA_u hq665
         try dsimp only at hO308
         refine gx_region ?_
         refine gx_kA (.int .i64 x295) w303 (gx_kA (.int .i64 (IntKind.i64.wrap (x295 + 1))) w303 (gx_kA (.int .i64 (IntKind.i64.wrap (x295 + 1))) w303 ?_))
         refine gx_nil ?_
         refine gx_thenN ?_
         exact ⟨k296, Nat.lt_succ_self k296, (IntKind.i64.wrap (x295 + 1)), selfA_i (by as_aux_lemma => kernel_rfl), hO308, hS304⟩
       ·refine gx_vA (.bool false) w292 (run_boolE (decide_eq_false h302) (by as_aux_lemma => kernel_rfl)) ?_
        refine gx_nil ?_
        refine gx_thenN ?_
        refine hK301 _ _ ?_
        refine gx_no (by as_aux_lemma => kernel_rfl) ?_
        refine gx_exit ?_
        refine gx_thenE ?_
        refine gx_thenE ?_
        refine gx_blkE ?_
        refine gx_thenN ?_
        exact ⟨selfA_i (by as_aux_lemma => kernel_rfl), (Option.some.inj hL297), (hS293.pick [0] rfl rfl)⟩
    ·rintro _ w284 ⟨hq675, rfl, hS285⟩
     obtain ⟨u286, rfl⟩ := selfA_u hq675
     try dsimp only at hO289
     refine gx_seq (fun K667 hK668 => ?_)
     refine gx_region ?_
     have hP669 : St _ _ w284 ([] ++ [poolE ft255 W256]) := hS285
     obtain ⟨b671, hc670, hO289⟩ := bind_in hO289
     try dsimp only at hO289
     refine gx_cA (kIso_R b671 w284) (kIso_ok N  _ hc670 w284 ) ?_
     rintro _ w672 ⟨rfl, hT674⟩
     have hS673 : St _ _ w672 [poolE ft255 W256] := hS285.take _ hT674
     refine gx_kA (.bool b671) w672 ?_
     refine gx_nil ?_
     refine gx_thenN ?_
     refine hK668 _ _ ?_
     refine gx_ret ?_
     obtain rfl := Option.some.inj hO289
     exact gx_fin (.bool b671) (by as_aux_lemma => kernel_rfl) (by as_aux_lemma => kernel_rfl) ⟨_, rfl, rfl, (hS673.pick [] rfl rfl)⟩

end Go.Proofs.Ytjndolnjhbgflaa
