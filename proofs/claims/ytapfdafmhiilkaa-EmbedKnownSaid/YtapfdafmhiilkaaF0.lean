/-
  The statements, walked.
-/
import Derived.Test.YtapfdafmhiilkaaP3
import Derived.Test.YtapfdafmhiilkaaR1
namespace Go.Proofs.Ytapfdafmhiilkaa
open Go Go.RowKit
set_option linter.unusedVariables false

def kSame_L1 (N : Nat) (p1 : List Int) (p3 : List Int) : Nat → Int → Option (Ctl (Unit) (Bool))
 | 0, _ => none
 | k30+1, x29 => (if x29 < ((p1.length : Nat) : Int) then ((ix p1 x29).bind fun x43 => ((ix p3 x29).bind fun x45 => (if x43 ≠ x45 then some (Ctl.ret false) else kSame_L1 N p1 p3 k30 (IntKind.i64.wrap (x29 + 1))))) else some (Ctl.go ()))
def kSame (N : Nat) (p0 : List Int) (p1 : List Int) (p2 : List Int) (p3 : List Int) : Option (Bool) :=
 ((((some (!((strOfNums p0).toList == (strOfNums p2).toList))).bind fun b11 => (match b11 with | true => some (Ctl.ret false) | false => (if ((p1.length : Nat) : Int) ≠ ((p3.length : Nat) : Int) then some (Ctl.ret false) else some (Ctl.go ())))) : Option (Ctl (Unit) (Bool))).bind fun | Ctl.go () => ((kSame_L1 N p1 p3 N 0 : Option (Ctl (Unit) (Bool))).bind fun | Ctl.go () => some true | Ctl.ret r => some r) | Ctl.ret r => some r)

set_option linter.unusedVariables false in
def kSame_R (r : Bool) (w0 : World) (v : Value) (w : World) : Prop := v = .bool r ∧ St [] w0 w []

set_option maxRecDepth 100000 in
set_option maxHeartbeats 4000000 in
theorem kSame_ok (N : Nat) (p0 : List Int) (p1 : List Int) (p2 : List Int) (p3 : List Int) (A0 : Option Addr) (c0 : Nat) (A1 : Option Addr) (c1 : Nat) (A2 : Option Addr) (c2 : Nat) (A3 : Option Addr) (c3 : Nat) (r : Bool) (hF : kSame N p0 p1 p2 p3 = some r) (w0 : World) (hv0 : Vw [] .u8 w0 A0 c0 p0) (hv1 : Vw [] .u8 w0 A1 c1 p1) (hv2 : Vw [] .u8 w0 A2 c2 p2) (hv3 : Vw [] .u8 w0 A3 c3 p3) :
  Calls Try.prog 22 #[.slice A0 p0.length c0, .slice A1 p1.length c1, .slice A2 p2.length c2, .slice A3 p3.length c3] w0 fun e w => ∃ v, e = .returned v ∧ kSame_R r w0 v w := by
 have hS0 := St.start w0
 unfold kSame at hF
 refine calls_of Try.func22 rfl ⟨((.slice A0 p0.length c0) :: (.slice A1 p1.length c1) :: (.slice A2 p2.length c2) :: (.slice A3 p3.length c3) :: un 33 ([])).toArray, []⟩ (by kernel_rfl) ?_
 refine gx_seq (fun K1 hK2 => ?_)
 refine gx_region ?_
 refine gx_k (.bool false) w0 ?_
 refine gx_nil ?_
 refine gx_thenN ?_
 refine hK2 _ _ ?_
 obtain ⟨c6, hE7, hO8⟩ := bind_in hF
 refine gx_cut (fun a w => selfA (fun u5 => ⟨((u5 0) :: (.slice A1 p1.length c1) :: (u5 2) :: (.slice A3 p3.length c3) :: un 4 ((u5 8) :: undef :: dd u5 10 12 (un 15 ([])))).toArray, []⟩) a ∧ Ctl.go () = c6 ∧ St [] w0 w []) ?_ ?_
 ·refine gx_seq (fun K9 hK10 => ?_)
  refine gx_region ?_
  refine gx_k (.slice A0 p0.length c0) w0 ?_
  refine gx_v (.string (strOfNums p0)) w0 (run_conv rfl (by kernel_rfl) (conv_b _ _ _ (hS0.view hv0))) ?_
  refine gx_k (.slice A2 p2.length c2) w0 ?_
  refine gx_v (.string (strOfNums p2)) w0 (run_conv rfl (by kernel_rfl) (conv_b _ _ _ (hS0.view hv2))) ?_
  obtain ⟨b11, h12, hE7⟩ := bind_in hE7
  refine gx_v (.bool b11) w0 (run_boolE (Option.some.inj h12) (by kernel_rfl)) ?_
  refine gx_k (.bool b11) w0 ?_
  cases b11 with
  | true =>
   try dsimp only at hE7
   refine gx_o (gx_o (gx_o (gx_o (gx_o (gx_k (.bool true) w0 ?_)))))
   refine gx_nil ?_
   refine gx_thenN ?_
   refine hK10 _ _ ?_
   refine gx_yes (by kernel_rfl) ?_
   refine gx_seq (fun K13 hK14 => ?_)
   refine gx_region ?_
   refine gx_k (.bool false) w0 ?_
   refine gx_nil ?_
   refine gx_thenN ?_
   refine hK14 _ _ ?_
   refine gx_ret ?_
   refine gx_thenR ?_
   obtain rfl := Option.some.inj hE7
   try dsimp only at hO8
   obtain rfl := Option.some.inj hO8
   exact gx_fin (.bool false) (by kernel_rfl) (by kernel_rfl) ⟨_, rfl, rfl, hS0⟩
  | false =>
   try dsimp only at hE7
   refine gx_k (.slice A1 p1.length c1) w0 (gx_k (.int .i64 ((p1.length : Nat) : Int)) w0 (gx_k (.slice A3 p3.length c3) w0 (gx_k (.int .i64 ((p3.length : Nat) : Int)) w0 ?_)))
   rcases if_in hE7 with ⟨h15, hE7⟩ | ⟨h15, hE7⟩
   ·refine gx_v (.bool true) w0 (run_boolE (ne_yes h15) (by kernel_rfl)) ?_
    refine gx_k (.bool true) w0 ?_
    refine gx_nil ?_
    refine gx_thenN ?_
    refine hK10 _ _ ?_
    refine gx_yes (by kernel_rfl) ?_
    refine gx_seq (fun K16 hK17 => ?_)
    refine gx_region ?_
    refine gx_k (.bool false) w0 ?_
    refine gx_nil ?_
    refine gx_thenN ?_
    refine hK17 _ _ ?_
    refine gx_ret ?_
    refine gx_thenR ?_
    obtain rfl := Option.some.inj hE7
    try dsimp only at hO8
    obtain rfl := Option.some.inj hO8
    exact gx_fin (.bool false) (by kernel_rfl) (by kernel_rfl) ⟨_, rfl, rfl, hS0⟩
   ·refine gx_v (.bool false) w0 (run_boolE (ne_no h15) (by kernel_rfl)) ?_
    refine gx_k (.bool false) w0 ?_
    refine gx_nil ?_
    refine gx_thenN ?_
    refine hK10 _ _ ?_
    refine gx_no (by kernel_rfl) ?_
    refine gx_pass ?_
    refine gx_thenN ?_
    exact ⟨selfA_i (by kernel_rfl), (Option.some.inj hE7), hS0⟩
 ·rintro _ w3 ⟨hq54, rfl, hS4⟩
  obtain ⟨u5, rfl⟩ := selfA_u hq54
  try dsimp only at hO8
  obtain ⟨c21, hE22, hO23⟩ := bind_in hO8
  refine gx_cut (fun a w => selfA (fun u20 => ⟨((u5 0) :: (u20 1) :: (u5 2) :: (u20 3) :: un 4 (dd u20 8 2 (dd u5 10 12 (dd u20 22 15 ([]))))).toArray, []⟩) a ∧ Ctl.go () = c21 ∧ St [] w0 w []) ?_ ?_
  ·refine gx_seq (fun K24 hK25 => ?_)
   refine gx_region ?_
   refine gx_k (.int .i64 0) w3 ?_
   refine gx_nil ?_
   refine gx_thenN ?_
   refine hK25 _ _ ?_
   refine gx_block ?_
   refine gx_loop (fun k a w => ∃ (x29 : Int), selfA (fun u28 => ⟨((u5 0) :: (.slice A1 p1.length c1) :: (u5 2) :: (.slice A3 p3.length c3) :: un 4 ((u28 8) :: (.int .i64 x29) :: dd u5 10 12 (dd u28 22 15 ([])))).toArray, []⟩) a ∧ kSame_L1 N p1 p3 k x29 = some c21 ∧ St [] w0 w []) N ?_ ?_
   ·exact ⟨0, selfA_i (by kernel_rfl), hE22, hS4⟩
   ·rintro k30 _ w26 ⟨x29, hq50, hL31, hS27⟩
    obtain ⟨u28, rfl⟩ := selfA_u hq50
    cases k30 with
    | zero => cases hL31
    | succ k30 =>
     rw [kSame_L1] at hL31
     refine gx_seq (fun K32 hK33 => ?_)
     refine gx_seq (fun K34 hK35 => ?_)
     refine gx_region ?_
     refine gx_k (.int .i64 x29) w26 (gx_k (.slice A1 p1.length c1) w26 (gx_k (.int .i64 ((p1.length : Nat) : Int)) w26 ?_))
     rcases if_in hL31 with ⟨h36, hL31⟩ | ⟨h36, hL31⟩
     ·refine gx_v (.bool true) w26 (run_boolE (decide_eq_true h36) (by kernel_rfl)) ?_
      refine gx_nil ?_
      refine gx_thenN ?_
      refine hK35 _ _ ?_
      refine gx_yes (by kernel_rfl) ?_
      refine gx_pass ?_
      refine gx_thenN ?_
      refine hK33 _ _ ?_
      refine gx_seq (fun K37 hK38 => ?_)
      refine gx_block ?_
      refine gx_seq (fun K39 hK40 => ?_)
      refine gd_start (fun w => St [] w0 w []) 9 #[false, false, false, false, false, false, false, false, false] (by kernel_rfl) (by kernel_rfl) ?_
      have hS42 := hS27.drew
      generalize w26.drew = w41 at hS42 ⊢
      refine gd1 0 { dst := some 28, op := _, type := _, pos := _, after := _, guard := _ } (.slice A1 p1.length c1) rfl hS42 (fun w hSw => by kernel_rfl) ?_
      refine gd1 1 { dst := some 29, op := _, type := _, pos := _, after := _, guard := _ } (.int .i64 x29) rfl hS42 (fun w hSw => by kernel_rfl) ?_
      obtain ⟨x43, hx44, hL31⟩ := bind_in hL31
      refine gd1 2 { dst := some 30, op := _, type := _, pos := _, after := _, guard := _ } (.pointer (Option.map (fun (p : Addr) => p.add (Int.toNat x29 * 1)) A1)) rfl hS42 (fun w hSw => run_ixaddr (E := 26) (s := 1) (k := .i64) (c := c1) rfl (by kernel_rfl) (by kernel_rfl) (by kernel_rfl) (fun _ => by kernel_rfl) (ix_in hx44).1 (ix_in hx44).2.1 (num_nil (hS42.view hv1))) ?_
      refine gd1 3 { dst := some 31, op := _, type := _, pos := _, after := _, guard := _ } (.int .u8 x43) rfl hS42 (fun w hSw => run_loadix rfl (by kernel_rfl) (fun _ => by kernel_rfl) (hSw.view hv1) hx44) ?_
      refine gd1 4 { dst := some 32, op := _, type := _, pos := _, after := _, guard := _ } (.slice A3 p3.length c3) rfl hS42 (fun w hSw => by kernel_rfl) ?_
      refine gd1 5 { dst := some 33, op := _, type := _, pos := _, after := _, guard := _ } (.int .i64 x29) rfl hS42 (fun w hSw => by kernel_rfl) ?_
      obtain ⟨x45, hx46, hL31⟩ := bind_in hL31
      refine gd1 6 { dst := some 34, op := _, type := _, pos := _, after := _, guard := _ } (.pointer (Option.map (fun (p : Addr) => p.add (Int.toNat x29 * 1)) A3)) rfl hS42 (fun w hSw => run_ixaddr (E := 26) (s := 1) (k := .i64) (c := c3) rfl (by kernel_rfl) (by kernel_rfl) (by kernel_rfl) (fun _ => by kernel_rfl) (ix_in hx46).1 (ix_in hx46).2.1 (num_nil (hS42.view hv3))) ?_
      refine gd1 7 { dst := some 35, op := _, type := _, pos := _, after := _, guard := _ } (.int .u8 x45) rfl hS42 (fun w hSw => run_loadix rfl (by kernel_rfl) (fun _ => by kernel_rfl) (hSw.view hv3) hx46) ?_
      rcases if_in hL31 with ⟨h47, hL31⟩ | ⟨h47, hL31⟩
      ·refine gd1 8 { dst := some 36, op := _, type := _, pos := _, after := _, guard := _ } (.bool true) rfl hS42 (fun w hSw => run_boolE (ne_yes h47) (by kernel_rfl)) ?_
       refine gd_done (by kernel_rfl) ?_
       refine gx_thenN ?_
       refine hK40 _ _ ?_
       refine gx_yes (by kernel_rfl) ?_
       refine gx_seq (fun K48 hK49 => ?_)
       refine gx_region ?_
       refine gx_k (.bool false) w41 ?_
       refine gx_nil ?_
       refine gx_thenN ?_
       refine hK49 _ _ ?_
       refine gx_ret ?_
       refine gx_blkR ?_
       refine gx_thenR ?_
       refine gx_thenR ?_
       refine gx_blkR ?_
       refine gx_thenR ?_
       obtain rfl := Option.some.inj hL31
       try dsimp only at hO23
       obtain rfl := Option.some.inj hO23
       exact gx_fin (.bool false) (by kernel_rfl) (by kernel_rfl) ⟨_, rfl, rfl, hS42⟩
      ·refine gd1 8 { dst := some 36, op := _, type := _, pos := _, after := _, guard := _ } (.bool false) rfl hS42 (fun w hSw => run_boolE (ne_no h47) (by kernel_rfl)) ?_
       refine gd_done (by kernel_rfl) ?_
       refine gx_thenN ?_
       refine hK40 _ _ ?_
       refine gx_no (by kernel_rfl) ?_
       refine gx_pass ?_
       refine gx_blkN ?_
       refine gx_thenN ?_
       refine hK38 _ _ ?_
       refine gx_region ?_
       refine gx_k (.int .i64 x29) w41 (gx_k (.int .i64 (IntKind.i64.wrap (x29 + 1))) w41 (gx_k (.int .i64 (IntKind.i64.wrap (x29 + 1))) w41 ?_))
       refine gx_nil ?_
       refine gx_thenN ?_
       exact ⟨k30, Nat.lt_succ_self k30, (IntKind.i64.wrap (x29 + 1)), selfA_i (by kernel_rfl), hL31, hS42⟩
     ·refine gx_v (.bool false) w26 (run_boolE (decide_eq_false h36) (by kernel_rfl)) ?_
      refine gx_nil ?_
      refine gx_thenN ?_
      refine hK35 _ _ ?_
      refine gx_no (by kernel_rfl) ?_
      refine gx_exit ?_
      refine gx_thenE ?_
      refine gx_thenE ?_
      refine gx_blkE ?_
      refine gx_thenN ?_
      exact ⟨selfA_i (by kernel_rfl), (Option.some.inj hL31), hS27⟩
  ·rintro _ w18 ⟨hq53, rfl, hS19⟩
   obtain ⟨u20, rfl⟩ := selfA_u hq53
   try dsimp only at hO23
   refine gx_seq (fun K51 hK52 => ?_)
   refine gx_region ?_
   refine gx_k (.bool true) w18 ?_
   refine gx_nil ?_
   refine gx_thenN ?_
   refine hK52 _ _ ?_
   refine gx_ret ?_
   obtain rfl := Option.some.inj hO23
   exact gx_fin (.bool true) (by kernel_rfl) (by kernel_rfl) ⟨_, rfl, rfl, hS19⟩

def kWorks (N : Nat) : Option (Bool) :=
 ((pLevels N ([1, 21, 2, 17, 14, 23, 2]) (2 : Int)).bind fun (l9, l12, x15, x16) => (((if x16 = 0 then (if x15 = 0 then some (true) else some (false)) else some (false)) : Option (Bool)).bind fun b25 => (((match b25 with | true => ((some (((strOfNums l9).toList == (⟨#[0, 0, 1, 1, 2, 0, 0]⟩ : ByteArray).toList))).bind fun b40 => some (b40)) | false => some (false)) : Option (Bool)).bind fun b35 => (((match b35 with | true => (if ((l12.length : Nat) : Int) = 7 then some (true) else some (false)) | false => some (false)) : Option (Bool)).bind fun b45 => (((match b45 with | true => ((ix l12 (4 : Int)).bind fun x59 => (if x59 = 1 then some (true) else some (false))) | false => some (false)) : Option (Bool)).bind fun b54 => (match b54 with | true => ((ix l12 (3 : Int)).bind fun x62 => (if x62 = 10 then ((pBase N ([14, 3])).bind fun x69 => some (decide (x69 = 1))) else some false)) | false => some false))))))

set_option linter.unusedVariables false in
def kWorks_R (r : Bool) (w0 : World) (v : Value) (w : World) : Prop := v = .bool r ∧ St [] w0 w []

set_option maxRecDepth 100000 in
set_option maxHeartbeats 4000000 in
theorem kWorks_ok (N : Nat)  (r : Bool) (hF : kWorks N = some r) (w0 : World)  :
  Calls Try.prog 15 #[] w0 fun e w => ∃ v, e = .returned v ∧ kWorks_R r w0 v w := by
 have hS0 := St.start w0
 unfold kWorks at hF
 refine calls_of Try.func15 rfl ⟨(un 45 ([])).toArray, []⟩ (by kernel_rfl) ?_
 refine gx_seq (fun K1 hK2 => ?_)
 refine gx_region ?_
 refine gx_k (.bool false) w0 ?_
 refine gx_nil ?_
 refine gx_thenN ?_
 refine hK2 _ _ ?_
 refine gx_seq (fun K3 hK4 => ?_)
 refine gx_region ?_
 refine gx_r (st_made .u8 26 [1, 21, 2, 17, 14, 23, 2] hS0 (by show 7 ≤ 1000000000; decide) (by kernel_rfl)) ?_
 rintro _ w5 ⟨rfl, hS6⟩
 have hS6 : St _ _ w5 [rowE .u8 26 (some ⟨w0.heap.size, 0, none⟩) 7 ([1, 21, 2, 17, 14, 23, 2])] := hS6
 have hP7 : St _ _ w5 ([] ++ [rowE .u8 26 (some ⟨w0.heap.size, 0, none⟩) 7 ([1, 21, 2, 17, 14, 23, 2])]) := hS6
 obtain ⟨⟨l9, l12, x15, x16⟩, hc8, hF⟩ := bind_in hF
 try dsimp only at hF
 refine gx_c (pLevels_R (l9, l12, x15, x16) w5) (pLevels_ok N ([1, 21, 2, 17, 14, 23, 2]) (2 : Int) (some ⟨w0.heap.size, 0, none⟩) 7 _ hc8 w5 (hP7.vwB 0 rfl)) ?_
 rintro _ w17 ⟨A10, c11, A13, c14, rfl, hT19⟩
 have hS18 : St _ _ w17 [rowE .u8 26 (some ⟨w0.heap.size, 0, none⟩) 7 ([1, 21, 2, 17, 14, 23, 2]), rowE .u8 5 A10 c11 l9, rowE .u8 26 A13 c14 l12] := hS6.take _ hT19
 refine gx_k (.tuple #[.slice A10 l9.length c11, .slice A13 l12.length c14, .int .u8 x15, .int .i64 x16]) w17 (gx_k (.slice A10 l9.length c11) w17 (gx_k (.slice A13 l12.length c14) w17 (gx_k (.int .u8 x15) w17 (gx_k (.int .i64 x16) w17 (gx_k (.slice A10 l9.length c11) w17 (gx_k (.slice A13 l12.length c14) w17 (gx_k (.int .u8 x15) w17 ?_)))))))
 refine gx_k (.int .i64 x16) w17 ?_
 refine gx_nil ?_
 refine gx_thenN ?_
 refine hK4 _ _ ?_
 refine gx_seq (fun K20 hK21 => ?_)
 refine gx_region ?_
 refine gx_k (.int .i64 x16) w17 ?_
 obtain ⟨c26, hE27, hO28⟩ := bind_in hF
 refine gx_part (l1 := [_, _, _, _, _]) (fun a w => ∃ (b25 : Bool), selfA (fun u24 => ⟨((.bool false) :: (.slice A10 l9.length c11) :: (.slice A13 l12.length c14) :: (.int .u8 x15) :: (.int .i64 x16) :: dd u24 5 5 ((.int .u8 x15) :: (.int .i64 x16) :: (.int .i64 x16) :: dd u24 13 4 ((.bool b25) :: un 27 ([])))).toArray, []⟩) a ∧ b25 = c26 ∧ St [] w0 w [rowE .u8 5 A10 c11 l9, rowE .u8 26 A13 c14 l12]) rfl ?_ ?_
 ·rcases if_in hE27 with ⟨h30, hE27⟩ | ⟨h30, hE27⟩
  ·refine gx_v (.bool true) w17 (run_boolE (decide_eq_true h30) (by kernel_rfl)) ?_
   refine gx_k (.bool true) w17 (gx_k (.int .u8 x15) w17 ?_)
   rcases if_in hE27 with ⟨h31, hE27⟩ | ⟨h31, hE27⟩
   ·refine gx_v (.bool true) w17 (run_boolE (decide_eq_true h31) (by kernel_rfl)) ?_
    refine gx_k (.bool true) w17 ?_
    refine gx_nil ?_
    refine gx_thenN ?_
    exact ⟨true, selfA_i (by kernel_rfl), (Option.some.inj hE27), (hS18.pick [1, 2] rfl rfl)⟩
   ·refine gx_v (.bool false) w17 (run_boolE (decide_eq_false h31) (by kernel_rfl)) ?_
    refine gx_k (.bool false) w17 ?_
    refine gx_nil ?_
    refine gx_thenN ?_
    exact ⟨false, selfA_i (by kernel_rfl), (Option.some.inj hE27), (hS18.pick [1, 2] rfl rfl)⟩
  ·refine gx_v (.bool false) w17 (run_boolE (decide_eq_false h30) (by kernel_rfl)) ?_
   refine gx_k (.bool false) w17 (gx_o (gx_o (gx_k (.bool false) w17 ?_)))
   refine gx_nil ?_
   refine gx_thenN ?_
   exact ⟨false, selfA_i (by kernel_rfl), (Option.some.inj hE27), (hS18.pick [1, 2] rfl rfl)⟩
 ·rintro _ w22 ⟨b25, hq29, rfl, hS23⟩
  obtain ⟨u24, rfl⟩ := selfA_u hq29
  try dsimp only at hO28
  obtain ⟨c36, hE37, hO38⟩ := bind_in hO28
  refine gx_part (l1 := [_, _, _, _, _]) (fun a w => ∃ (b35 : Bool), selfA (fun u34 => ⟨((.bool false) :: (u34 1) :: (.slice A13 l12.length c14) :: (.int .u8 x15) :: (.int .i64 x16) :: dd u24 5 5 ((.int .u8 x15) :: (.int .i64 x16) :: (.int .i64 x16) :: dd u24 13 4 ((.bool b25) :: dd u34 18 4 ((.bool b35) :: un 22 ([]))))).toArray, []⟩) a ∧ b35 = c36 ∧ St [] w0 w [rowE .u8 26 A13 c14 l12]) rfl ?_ ?_
  ·refine gx_k (.bool b25) w22 ?_
   cases b25 with
   | true =>
    try dsimp only at hE37
    refine gx_k (.slice A10 l9.length c11) w22 ?_
    refine gx_v (.string (strOfNums l9)) w22 (run_conv rfl (by kernel_rfl) (conv_b _ _ _ (hS23.row 0 rfl).1)) ?_
    obtain ⟨b40, h41, hE37⟩ := bind_in hE37
    refine gx_v (.bool b40) w22 (run_boolE (Option.some.inj h41) (by kernel_rfl)) ?_
    refine gx_k (.bool b40) w22 ?_
    refine gx_nil ?_
    refine gx_thenN ?_
    exact ⟨b40, selfA_i (by kernel_rfl), (Option.some.inj hE37), (hS23.pick [1] rfl rfl)⟩
   | false =>
    try dsimp only at hE37
    refine gx_o (gx_o (gx_o (gx_k (.bool false) w22 ?_)))
    refine gx_nil ?_
    refine gx_thenN ?_
    exact ⟨false, selfA_i (by kernel_rfl), (Option.some.inj hE37), (hS23.pick [1] rfl rfl)⟩
  ·rintro _ w32 ⟨b35, hq39, rfl, hS33⟩
   obtain ⟨u34, rfl⟩ := selfA_u hq39
   try dsimp only at hO38
   obtain ⟨c46, hE47, hO48⟩ := bind_in hO38
   refine gx_part (l1 := [_, _, _, _, _]) (fun a w => ∃ (b45 : Bool), selfA (fun u44 => ⟨((.bool false) :: (u34 1) :: (.slice A13 l12.length c14) :: (.int .u8 x15) :: (.int .i64 x16) :: dd u24 5 5 ((.int .u8 x15) :: (.int .i64 x16) :: (.int .i64 x16) :: dd u24 13 4 ((.bool b25) :: dd u34 18 4 ((.bool b35) :: dd u44 23 4 ((.bool b45) :: un 17 ([])))))).toArray, []⟩) a ∧ b45 = c46 ∧ St [] w0 w [rowE .u8 26 A13 c14 l12]) rfl ?_ ?_
   ·refine gx_k (.bool b35) w32 ?_
    cases b35 with
    | true =>
     try dsimp only at hE47
     refine gx_k (.slice A13 l12.length c14) w32 (gx_k (.int .i64 ((l12.length : Nat) : Int)) w32 ?_)
     rcases if_in hE47 with ⟨h50, hE47⟩ | ⟨h50, hE47⟩
     ·refine gx_v (.bool true) w32 (run_boolE (decide_eq_true h50) (by kernel_rfl)) ?_
      refine gx_k (.bool true) w32 ?_
      refine gx_nil ?_
      refine gx_thenN ?_
      exact ⟨true, selfA_i (by kernel_rfl), (Option.some.inj hE47), hS33⟩
     ·refine gx_v (.bool false) w32 (run_boolE (decide_eq_false h50) (by kernel_rfl)) ?_
      refine gx_k (.bool false) w32 ?_
      refine gx_nil ?_
      refine gx_thenN ?_
      exact ⟨false, selfA_i (by kernel_rfl), (Option.some.inj hE47), hS33⟩
    | false =>
     try dsimp only at hE47
     refine gx_o (gx_o (gx_o (gx_k (.bool false) w32 ?_)))
     refine gx_nil ?_
     refine gx_thenN ?_
     exact ⟨false, selfA_i (by kernel_rfl), (Option.some.inj hE47), hS33⟩
   ·rintro _ w42 ⟨b45, hq49, rfl, hS43⟩
    obtain ⟨u44, rfl⟩ := selfA_u hq49
    try dsimp only at hO48
    obtain ⟨c55, hE56, hO57⟩ := bind_in hO48
    refine gx_part (l1 := [_, _, _, _, _, _]) (fun a w => ∃ (b54 : Bool), selfA (fun u53 => ⟨((.bool false) :: (u34 1) :: (.slice A13 l12.length c14) :: (.int .u8 x15) :: (.int .i64 x16) :: dd u24 5 5 ((.int .u8 x15) :: (.int .i64 x16) :: (.int .i64 x16) :: dd u24 13 4 ((.bool b25) :: dd u34 18 4 ((.bool b35) :: dd u44 23 4 ((.bool b45) :: dd u53 28 5 ((.bool b54) :: un 11 ([]))))))).toArray, []⟩) a ∧ b54 = c55 ∧ St [] w0 w [rowE .u8 26 A13 c14 l12]) rfl ?_ ?_
    ·refine gx_k (.bool b45) w42 ?_
     cases b45 with
     | true =>
      try dsimp only at hE56
      refine gx_k (.slice A13 l12.length c14) w42 ?_
      obtain ⟨x59, hx60, hE56⟩ := bind_in hE56
      refine gx_v (.pointer (Option.map (fun (p : Addr) => p.add (Int.toNat 4 * 1)) A13)) w42 (run_ixaddr (E := 26) (s := 1) (k := .i64) (c := c14) rfl (by kernel_rfl) (by kernel_rfl) (by kernel_rfl) (fun _ => by kernel_rfl) (ix_in hx60).1 (ix_in hx60).2.1 (num_nil (hS43.row 0 rfl).1)) ?_
      refine gx_v (.int .u8 x59) w42 (run_loadix rfl (by kernel_rfl) (fun _ => by kernel_rfl) (hS43.row 0 rfl).1 hx60) ?_
      rcases if_in hE56 with ⟨h61, hE56⟩ | ⟨h61, hE56⟩
      ·refine gx_v (.bool true) w42 (run_boolE (decide_eq_true h61) (by kernel_rfl)) ?_
       refine gx_k (.bool true) w42 ?_
       refine gx_nil ?_
       refine gx_thenN ?_
       exact ⟨true, selfA_i (by kernel_rfl), (Option.some.inj hE56), hS43⟩
      ·refine gx_v (.bool false) w42 (run_boolE (decide_eq_false h61) (by kernel_rfl)) ?_
       refine gx_k (.bool false) w42 ?_
       refine gx_nil ?_
       refine gx_thenN ?_
       exact ⟨false, selfA_i (by kernel_rfl), (Option.some.inj hE56), hS43⟩
     | false =>
      try dsimp only at hE56
      refine gx_o (gx_o (gx_o (gx_o (gx_k (.bool false) w42 ?_))))
      refine gx_nil ?_
      refine gx_thenN ?_
      exact ⟨false, selfA_i (by kernel_rfl), (Option.some.inj hE56), hS43⟩
    ·rintro _ w51 ⟨b54, hq58, rfl, hS52⟩
     obtain ⟨u53, rfl⟩ := selfA_u hq58
     try dsimp only at hO57
     refine gx_k (.bool b54) w51 ?_
     cases b54 with
     | true =>
      try dsimp only at hO57
      refine gx_k (.slice A13 l12.length c14) w51 ?_
      obtain ⟨x62, hx63, hO57⟩ := bind_in hO57
      refine gx_v (.pointer (Option.map (fun (p : Addr) => p.add (Int.toNat 3 * 1)) A13)) w51 (run_ixaddr (E := 26) (s := 1) (k := .i64) (c := c14) rfl (by kernel_rfl) (by kernel_rfl) (by kernel_rfl) (fun _ => by kernel_rfl) (ix_in hx63).1 (ix_in hx63).2.1 (num_nil (hS52.row 0 rfl).1)) ?_
      refine gx_v (.int .u8 x62) w51 (run_loadix rfl (by kernel_rfl) (fun _ => by kernel_rfl) (hS52.row 0 rfl).1 hx63) ?_
      rcases if_in hO57 with ⟨h64, hO57⟩ | ⟨h64, hO57⟩
      ·refine gx_v (.bool true) w51 (run_boolE (decide_eq_true h64) (by kernel_rfl)) ?_
       refine gx_k (.bool true) w51 (gx_k (.bool true) w51 ?_)
       refine gx_r (st_made .u8 26 [14, 3] hS52 (by show 2 ≤ 1000000000; decide) (by kernel_rfl)) ?_
       rintro _ w65 ⟨rfl, hS66⟩
       have hS66 : St _ _ w65 [rowE .u8 26 A13 c14 l12, rowE .u8 26 (some ⟨w51.heap.size, 0, none⟩) 2 ([14, 3])] := hS66
       have hP67 : St _ _ w65 ([] ++ [rowE .u8 26 A13 c14 l12, rowE .u8 26 (some ⟨w51.heap.size, 0, none⟩) 2 ([14, 3])]) := hS66
       obtain ⟨x69, hc68, hO57⟩ := bind_in hO57
       try dsimp only at hO57
       refine gx_c (pBase_R x69 w65) (pBase_ok N ([14, 3]) (some ⟨w51.heap.size, 0, none⟩) 2 _ hc68 w65 (hP67.vwB 1 rfl)) ?_
       rintro _ w70 ⟨rfl, hT72⟩
       have hS71 : St _ _ w70 [rowE .u8 26 A13 c14 l12, rowE .u8 26 (some ⟨w51.heap.size, 0, none⟩) 2 ([14, 3])] := hS66.take _ hT72
       refine gx_k (.bool (decide (x69 = 1))) w70 (gx_k (.bool (decide (x69 = 1))) w70 (gx_k (.bool (decide (x69 = 1))) w70 ?_))
       refine gx_nil ?_
       refine gx_thenN ?_
       refine hK21 _ _ ?_
       refine gx_ret ?_
       obtain rfl := Option.some.inj hO57
       exact gx_fin (.bool (decide (x69 = 1))) (by kernel_rfl) (by kernel_rfl) ⟨_, rfl, rfl, (hS71.pick [] rfl rfl)⟩
      ·refine gx_v (.bool false) w51 (run_boolE (decide_eq_false h64) (by kernel_rfl)) ?_
       refine gx_k (.bool false) w51 (gx_k (.bool false) w51 (gx_o (gx_o (gx_o (gx_k (.bool false) w51 (gx_k (.bool false) w51 ?_))))))
       refine gx_nil ?_
       refine gx_thenN ?_
       refine hK21 _ _ ?_
       refine gx_ret ?_
       obtain rfl := Option.some.inj hO57
       exact gx_fin (.bool false) (by kernel_rfl) (by kernel_rfl) ⟨_, rfl, rfl, (hS52.pick [] rfl rfl)⟩
     | false =>
      try dsimp only at hO57
      refine gx_o (gx_o (gx_o (gx_o (gx_k (.bool false) w51 (gx_k (.bool false) w51 (gx_o (gx_o ?_)))))))
      refine gx_o (gx_k (.bool false) w51 (gx_k (.bool false) w51 ?_))
      refine gx_nil ?_
      refine gx_thenN ?_
      refine hK21 _ _ ?_
      refine gx_ret ?_
      obtain rfl := Option.some.inj hO57
      exact gx_fin (.bool false) (by kernel_rfl) (by kernel_rfl) ⟨_, rfl, rfl, (hS52.pick [] rfl rfl)⟩

def kPlain_L1 (N : Nat) (p0 : List Int) : Nat → Int → Int → Option (Ctl (Int) (Bool))
 | 0, _, _ => none
 | k19+1, x17, x18 => (if x18 < ((p0.length : Nat) : Int) then ((((ix p0 x18).bind fun x35 => (((if x35 < 1 then some (true) else ((ix p0 x18).bind fun x46 => (if x46 > 23 then some (true) else some (false)))) : Option (Bool)).bind fun b40 => (match b40 with | true => some (true) | false => ((ix p0 x18).bind fun x49 => (if x49 = 11 then some (true) else some (false)))))) : Option (Bool)).bind fun b31 => (match b31 with | true => some (Ctl.ret false) | false => ((ix p0 x18).bind fun x56 => ((rInit N x56).bind fun b60 => (match b60 with | true => kPlain_L1 N p0 k19 (IntKind.i64.wrap (x17 + 1)) (IntKind.i64.wrap (x18 + 1)) | false => ((ix p0 x18).bind fun x66 => (if x66 = 23 then (if (IntKind.i64.wrap (x17 - 1)) < 0 then some (Ctl.ret false) else kPlain_L1 N p0 k19 (IntKind.i64.wrap (x17 - 1)) (IntKind.i64.wrap (x18 + 1))) else kPlain_L1 N p0 k19 x17 (IntKind.i64.wrap (x18 + 1))))))))) else some (Ctl.go x17))
def kPlain (N : Nat) (p0 : List Int) : Option (Bool) :=
 ((kPlain_L1 N p0 N 0 0 : Option (Ctl (Int) (Bool))).bind fun | Ctl.go x8 => some (decide (x8 = 0)) | Ctl.ret r => some r)

set_option linter.unusedVariables false in
def kPlain_R (r : Bool) (w0 : World) (v : Value) (w : World) : Prop := v = .bool r ∧ St [] w0 w []

set_option maxRecDepth 100000 in
set_option maxHeartbeats 4000000 in
theorem kPlain_ok (N : Nat) (p0 : List Int) (A0 : Option Addr) (c0 : Nat) (r : Bool) (hF : kPlain N p0 = some r) (w0 : World) (hv0 : Vw [] .u8 w0 A0 c0 p0) :
  Calls Try.prog 23 #[.slice A0 p0.length c0] w0 fun e w => ∃ v, e = .returned v ∧ kPlain_R r w0 v w := by
 have hS0 := St.start w0
 unfold kPlain at hF
 refine calls_of Try.func23 rfl ⟨((.slice A0 p0.length c0) :: un 50 ([])).toArray, []⟩ (by kernel_rfl) ?_
 refine gx_seq (fun K1 hK2 => ?_)
 refine gx_region ?_
 refine gx_k (.bool false) w0 ?_
 refine gx_nil ?_
 refine gx_thenN ?_
 refine hK2 _ _ ?_
 refine gx_seq (fun K3 hK4 => ?_)
 refine gx_region ?_
 refine gx_k (.int .i64 0) w0 ?_
 refine gx_nil ?_
 refine gx_thenN ?_
 refine hK4 _ _ ?_
 obtain ⟨c9, hE10, hO11⟩ := bind_in hF
 refine gx_cut (fun a w => ∃ (x8 : Int), selfA (fun u7 => ⟨((u7 0) :: undef :: (u7 2) :: (.int .i64 x8) :: dd u7 4 45 (undef :: undef :: [])).toArray, []⟩) a ∧ Ctl.go x8 = c9 ∧ St [] w0 w []) ?_ ?_
 ·refine gx_seq (fun K12 hK13 => ?_)
  refine gx_region ?_
  refine gx_k (.int .i64 0) w0 ?_
  refine gx_nil ?_
  refine gx_thenN ?_
  refine hK13 _ _ ?_
  refine gx_block ?_
  refine gx_loop (fun k a w => ∃ (x17 : Int) (x18 : Int), selfA (fun u16 => ⟨((.slice A0 p0.length c0) :: undef :: (u16 2) :: (.int .i64 x17) :: (.int .i64 x18) :: dd u16 5 44 (undef :: undef :: [])).toArray, []⟩) a ∧ kPlain_L1 N p0 k x17 x18 = some c9 ∧ St [] w0 w []) N ?_ ?_
  ·exact ⟨0, 0, selfA_i (by kernel_rfl), hE10, hS0⟩
  ·rintro k19 _ w14 ⟨x17, x18, hq77, hL20, hS15⟩
   obtain ⟨u16, rfl⟩ := selfA_u hq77
   cases k19 with
   | zero => cases hL20
   | succ k19 =>
    rw [kPlain_L1] at hL20
    refine gx_seq (fun K21 hK22 => ?_)
    refine gx_seq (fun K23 hK24 => ?_)
    refine gx_region ?_
    refine gx_k (.int .i64 x18) w14 (gx_k (.slice A0 p0.length c0) w14 (gx_k (.int .i64 ((p0.length : Nat) : Int)) w14 ?_))
    rcases if_in hL20 with ⟨h25, hL20⟩ | ⟨h25, hL20⟩
    ·refine gx_v (.bool true) w14 (run_boolE (decide_eq_true h25) (by kernel_rfl)) ?_
     refine gx_nil ?_
     refine gx_thenN ?_
     refine hK24 _ _ ?_
     refine gx_yes (by kernel_rfl) ?_
     refine gx_pass ?_
     refine gx_thenN ?_
     refine hK22 _ _ ?_
     refine gx_seq (fun K26 hK27 => ?_)
     refine gx_block ?_
     refine gx_block ?_
     obtain ⟨c32, hE33, hO34⟩ := bind_in hL20
     refine gx_cut (fun a w => ∃ (b31 : Bool), selfA (fun u30 => ⟨((.slice A0 p0.length c0) :: undef :: (u16 2) :: (.int .i64 x17) :: (.int .i64 x18) :: (.int .i64 x18) :: (u30 6) :: (.int .i64 ((p0.length : Nat) : Int)) :: (.bool true) :: dd u16 9 2 ((.bool b31) :: dd u30 12 19 (dd u16 31 18 (undef :: undef :: [])))).toArray, []⟩) a ∧ b31 = c32 ∧ St [] w0 w []) ?_ ?_
     ·refine gx_region ?_
      refine gx_k (.slice A0 p0.length c0) w14 (gx_k (.int .i64 x18) w14 ?_)
      obtain ⟨x35, hx36, hE33⟩ := bind_in hE33
      refine gx_v (.pointer (Option.map (fun (p : Addr) => p.add (Int.toNat x18 * 1)) A0)) w14 (run_ixaddr (E := 26) (s := 1) (k := .i64) (c := c0) rfl (by kernel_rfl) (by kernel_rfl) (by kernel_rfl) (fun _ => by kernel_rfl) (ix_in hx36).1 (ix_in hx36).2.1 (num_nil (hS15.view hv0))) ?_
      refine gx_v (.int .u8 x35) w14 (run_loadix rfl (by kernel_rfl) (fun _ => by kernel_rfl) (hS15.view hv0) hx36) ?_
      obtain ⟨c41, hE42, hO43⟩ := bind_in hE33
      refine gx_part (l1 := [_, _, _, _, _, _, _, _]) (fun a w => ∃ (b40 : Bool), selfA (fun u39 => ⟨((.slice A0 p0.length c0) :: undef :: (u16 2) :: (.int .i64 x17) :: (.int .i64 x18) :: (.int .i64 x18) :: (u39 6) :: (.int .i64 ((p0.length : Nat) : Int)) :: (.bool true) :: dd u16 9 3 ((u39 12) :: (.int .i64 x18) :: (.pointer (Option.map (fun (p : Addr) => p.add (Int.toNat x18 * 1)) A0)) :: (.int .u8 x35) :: dd u39 16 7 ((.bool b40) :: dd u16 24 25 (undef :: undef :: [])))).toArray, []⟩) a ∧ b40 = c41 ∧ St [] w0 w []) rfl ?_ ?_
      ·rcases if_in hE42 with ⟨h45, hE42⟩ | ⟨h45, hE42⟩
       ·refine gx_v (.bool true) w14 (run_boolE (decide_eq_true h45) (by kernel_rfl)) ?_
        refine gx_k (.bool true) w14 (gx_o (gx_o (gx_o (gx_o (gx_o (gx_k (.bool true) w14 ?_))))))
        refine gx_nil ?_
        refine gx_thenN ?_
        exact ⟨true, selfA_i (by kernel_rfl), (Option.some.inj hE42), hS15⟩
       ·refine gx_v (.bool false) w14 (run_boolE (decide_eq_false h45) (by kernel_rfl)) ?_
        refine gx_k (.bool false) w14 (gx_k (.slice A0 p0.length c0) w14 (gx_k (.int .i64 x18) w14 ?_))
        obtain ⟨x46, hx47, hE42⟩ := bind_in hE42
        refine gx_v (.pointer (Option.map (fun (p : Addr) => p.add (Int.toNat x18 * 1)) A0)) w14 (run_ixaddr (E := 26) (s := 1) (k := .i64) (c := c0) rfl (by kernel_rfl) (by kernel_rfl) (by kernel_rfl) (fun _ => by kernel_rfl) (ix_in hx47).1 (ix_in hx47).2.1 (num_nil (hS15.view hv0))) ?_
        refine gx_v (.int .u8 x46) w14 (run_loadix rfl (by kernel_rfl) (fun _ => by kernel_rfl) (hS15.view hv0) hx47) ?_
        rcases if_in hE42 with ⟨h48, hE42⟩ | ⟨h48, hE42⟩
        ·refine gx_v (.bool true) w14 (run_boolE (decide_eq_true h48) (by kernel_rfl)) ?_
         refine gx_k (.bool true) w14 ?_
         refine gx_nil ?_
         refine gx_thenN ?_
         exact ⟨true, selfA_i (by kernel_rfl), (Option.some.inj hE42), hS15⟩
        ·refine gx_v (.bool false) w14 (run_boolE (decide_eq_false h48) (by kernel_rfl)) ?_
         refine gx_k (.bool false) w14 ?_
         refine gx_nil ?_
         refine gx_thenN ?_
         exact ⟨false, selfA_i (by kernel_rfl), (Option.some.inj hE42), hS15⟩
      ·rintro _ w37 ⟨b40, hq44, rfl, hS38⟩
       obtain ⟨u39, rfl⟩ := selfA_u hq44
       try dsimp only at hO43
       refine gx_k (.bool b40) w37 ?_
       cases b40 with
       | true =>
        try dsimp only at hO43
        refine gx_o (gx_o (gx_o (gx_o (gx_o (gx_k (.bool true) w37 (gx_k (.bool true) w37 ?_))))))
        refine gx_nil ?_
        refine gx_thenN ?_
        exact ⟨true, selfA_i (by kernel_rfl), (Option.some.inj hO43), hS38⟩
       | false =>
        try dsimp only at hO43
        refine gx_k (.slice A0 p0.length c0) w37 (gx_k (.int .i64 x18) w37 ?_)
        obtain ⟨x49, hx50, hO43⟩ := bind_in hO43
        refine gx_v (.pointer (Option.map (fun (p : Addr) => p.add (Int.toNat x18 * 1)) A0)) w37 (run_ixaddr (E := 26) (s := 1) (k := .i64) (c := c0) rfl (by kernel_rfl) (by kernel_rfl) (by kernel_rfl) (fun _ => by kernel_rfl) (ix_in hx50).1 (ix_in hx50).2.1 (num_nil (hS38.view hv0))) ?_
        refine gx_v (.int .u8 x49) w37 (run_loadix rfl (by kernel_rfl) (fun _ => by kernel_rfl) (hS38.view hv0) hx50) ?_
        rcases if_in hO43 with ⟨h51, hO43⟩ | ⟨h51, hO43⟩
        ·refine gx_v (.bool true) w37 (run_boolE (decide_eq_true h51) (by kernel_rfl)) ?_
         refine gx_k (.bool true) w37 (gx_k (.bool true) w37 ?_)
         refine gx_nil ?_
         refine gx_thenN ?_
         exact ⟨true, selfA_i (by kernel_rfl), (Option.some.inj hO43), hS38⟩
        ·refine gx_v (.bool false) w37 (run_boolE (decide_eq_false h51) (by kernel_rfl)) ?_
         refine gx_k (.bool false) w37 (gx_k (.bool false) w37 ?_)
         refine gx_nil ?_
         refine gx_thenN ?_
         exact ⟨false, selfA_i (by kernel_rfl), (Option.some.inj hO43), hS38⟩
     ·rintro _ w28 ⟨b31, hq76, rfl, hS29⟩
      obtain ⟨u30, rfl⟩ := selfA_u hq76
      try dsimp only at hO34
      cases b31 with
      | true =>
       try dsimp only at hO34
       refine gx_yes (by kernel_rfl) ?_
       refine gx_seq (fun K52 hK53 => ?_)
       refine gx_region ?_
       refine gx_k (.bool false) w28 ?_
       refine gx_nil ?_
       refine gx_thenN ?_
       refine hK53 _ _ ?_
       refine gx_ret ?_
       refine gx_blkR ?_
       refine gx_blkR ?_
       refine gx_thenR ?_
       refine gx_thenR ?_
       refine gx_blkR ?_
       refine gx_thenR ?_
       obtain rfl := Option.some.inj hO34
       try dsimp only at hO11
       obtain rfl := Option.some.inj hO11
       exact gx_fin (.bool false) (by kernel_rfl) (by kernel_rfl) ⟨_, rfl, rfl, hS29⟩
      | false =>
       try dsimp only at hO34
       refine gx_no (by kernel_rfl) ?_
       refine gx_seq (fun K54 hK55 => ?_)
       refine gx_region ?_
       refine gx_k (.slice A0 p0.length c0) w28 (gx_k (.int .i64 x18) w28 ?_)
       obtain ⟨x56, hx57, hO34⟩ := bind_in hO34
       refine gx_v (.pointer (Option.map (fun (p : Addr) => p.add (Int.toNat x18 * 1)) A0)) w28 (run_ixaddr (E := 26) (s := 1) (k := .i64) (c := c0) rfl (by kernel_rfl) (by kernel_rfl) (by kernel_rfl) (fun _ => by kernel_rfl) (ix_in hx57).1 (ix_in hx57).2.1 (num_nil (hS29.view hv0))) ?_
       refine gx_v (.int .u8 x56) w28 (run_loadix rfl (by kernel_rfl) (fun _ => by kernel_rfl) (hS29.view hv0) hx57) ?_
       have hP58 : St _ _ w28 ([] ++ []) := hS29
       obtain ⟨b60, hc59, hO34⟩ := bind_in hO34
       try dsimp only at hO34
       refine gx_c (rInit_R b60 w28) (rInit_ok N x56 _ hc59 w28 ) ?_
       rintro _ w61 ⟨rfl, hT63⟩
       have hS62 : St _ _ w61 [] := hS29.take _ hT63
       refine gx_k (.bool b60) w61 ?_
       refine gx_nil ?_
       refine gx_thenN ?_
       refine hK55 _ _ ?_
       cases b60 with
       | true =>
        try dsimp only at hO34
        refine gx_yes (by kernel_rfl) ?_
        refine gx_region ?_
        refine gx_k (.int .i64 x17) w61 (gx_k (.int .i64 (IntKind.i64.wrap (x17 + 1))) w61 (gx_k (.int .i64 (IntKind.i64.wrap (x17 + 1))) w61 ?_))
        refine gx_nil ?_
        refine gx_blkN ?_
        refine gx_blkN ?_
        refine gx_thenN ?_
        refine hK27 _ _ ?_
        refine gx_region ?_
        refine gx_k (.int .i64 x18) w61 (gx_k (.int .i64 (IntKind.i64.wrap (x18 + 1))) w61 (gx_k (.int .i64 (IntKind.i64.wrap (x18 + 1))) w61 ?_))
        refine gx_nil ?_
        refine gx_thenN ?_
        exact ⟨k19, Nat.lt_succ_self k19, (IntKind.i64.wrap (x17 + 1)), (IntKind.i64.wrap (x18 + 1)), selfA_i (by kernel_rfl), hO34, hS62⟩
       | false =>
        try dsimp only at hO34
        refine gx_no (by kernel_rfl) ?_
        refine gx_seq (fun K64 hK65 => ?_)
        refine gx_region ?_
        refine gx_k (.slice A0 p0.length c0) w61 (gx_k (.int .i64 x18) w61 ?_)
        obtain ⟨x66, hx67, hO34⟩ := bind_in hO34
        refine gx_v (.pointer (Option.map (fun (p : Addr) => p.add (Int.toNat x18 * 1)) A0)) w61 (run_ixaddr (E := 26) (s := 1) (k := .i64) (c := c0) rfl (by kernel_rfl) (by kernel_rfl) (by kernel_rfl) (fun _ => by kernel_rfl) (ix_in hx67).1 (ix_in hx67).2.1 (num_nil (hS62.view hv0))) ?_
        refine gx_v (.int .u8 x66) w61 (run_loadix rfl (by kernel_rfl) (fun _ => by kernel_rfl) (hS62.view hv0) hx67) ?_
        rcases if_in hO34 with ⟨h68, hO34⟩ | ⟨h68, hO34⟩
        ·refine gx_v (.bool true) w61 (run_boolE (decide_eq_true h68) (by kernel_rfl)) ?_
         refine gx_k (.bool true) w61 ?_
         refine gx_nil ?_
         refine gx_thenN ?_
         refine hK65 _ _ ?_
         refine gx_yes (by kernel_rfl) ?_
         refine gx_seq (fun K69 hK70 => ?_)
         refine gx_region ?_
         refine gx_k (.int .i64 x17) w61 (gx_k (.int .i64 (IntKind.i64.wrap (x17 - 1))) w61 (gx_k (.int .i64 (IntKind.i64.wrap (x17 - 1))) w61 ?_))
         refine gx_nil ?_
         refine gx_thenN ?_
         refine hK70 _ _ ?_
         refine gx_seq (fun K71 hK72 => ?_)
         refine gx_region ?_
         refine gx_k (.int .i64 (IntKind.i64.wrap (x17 - 1))) w61 ?_
         rcases if_in hO34 with ⟨h73, hO34⟩ | ⟨h73, hO34⟩
         ·refine gx_v (.bool true) w61 (run_boolE (decide_eq_true h73) (by kernel_rfl)) ?_
          refine gx_nil ?_
          refine gx_thenN ?_
          refine hK72 _ _ ?_
          refine gx_yes (by kernel_rfl) ?_
          refine gx_seq (fun K74 hK75 => ?_)
          refine gx_region ?_
          refine gx_k (.bool false) w61 ?_
          refine gx_nil ?_
          refine gx_thenN ?_
          refine hK75 _ _ ?_
          refine gx_ret ?_
          refine gx_blkR ?_
          refine gx_blkR ?_
          refine gx_thenR ?_
          refine gx_thenR ?_
          refine gx_blkR ?_
          refine gx_thenR ?_
          obtain rfl := Option.some.inj hO34
          try dsimp only at hO11
          obtain rfl := Option.some.inj hO11
          exact gx_fin (.bool false) (by kernel_rfl) (by kernel_rfl) ⟨_, rfl, rfl, hS62⟩
         ·refine gx_v (.bool false) w61 (run_boolE (decide_eq_false h73) (by kernel_rfl)) ?_
          refine gx_nil ?_
          refine gx_thenN ?_
          refine hK72 _ _ ?_
          refine gx_no (by kernel_rfl) ?_
          refine gx_pass ?_
          refine gx_blkN ?_
          refine gx_blkN ?_
          refine gx_thenN ?_
          refine hK27 _ _ ?_
          refine gx_region ?_
          refine gx_k (.int .i64 x18) w61 (gx_k (.int .i64 (IntKind.i64.wrap (x18 + 1))) w61 (gx_k (.int .i64 (IntKind.i64.wrap (x18 + 1))) w61 ?_))
          refine gx_nil ?_
          refine gx_thenN ?_
          exact ⟨k19, Nat.lt_succ_self k19, (IntKind.i64.wrap (x17 - 1)), (IntKind.i64.wrap (x18 + 1)), selfA_i (by kernel_rfl), hO34, hS62⟩
        ·refine gx_v (.bool false) w61 (run_boolE (decide_eq_false h68) (by kernel_rfl)) ?_
         refine gx_k (.bool false) w61 ?_
         refine gx_nil ?_
         refine gx_thenN ?_
         refine hK65 _ _ ?_
         refine gx_no (by kernel_rfl) ?_
         refine gx_pass ?_
         refine gx_blkN ?_
         refine gx_blkN ?_
         refine gx_thenN ?_
         refine hK27 _ _ ?_
         refine gx_region ?_
         refine gx_k (.int .i64 x18) w61 (gx_k (.int .i64 (IntKind.i64.wrap (x18 + 1))) w61 (gx_k (.int .i64 (IntKind.i64.wrap (x18 + 1))) w61 ?_))
         refine gx_nil ?_
         refine gx_thenN ?_
         exact ⟨k19, Nat.lt_succ_self k19, x17, (IntKind.i64.wrap (x18 + 1)), selfA_i (by kernel_rfl), hO34, hS62⟩
    ·refine gx_v (.bool false) w14 (run_boolE (decide_eq_false h25) (by kernel_rfl)) ?_
     refine gx_nil ?_
     refine gx_thenN ?_
     refine hK24 _ _ ?_
     refine gx_no (by kernel_rfl) ?_
     refine gx_exit ?_
     refine gx_thenE ?_
     refine gx_thenE ?_
     refine gx_blkE ?_
     refine gx_thenN ?_
     exact ⟨x17, selfA_i (by kernel_rfl), (Option.some.inj hL20), hS15⟩
 ·rintro _ w5 ⟨x8, hq80, rfl, hS6⟩
  obtain ⟨u7, rfl⟩ := selfA_u hq80
  try dsimp only at hO11
  refine gx_seq (fun K78 hK79 => ?_)
  refine gx_region ?_
  refine gx_k (.int .i64 x8) w5 (gx_k (.bool (decide (x8 = 0))) w5 (gx_k (.bool (decide (x8 = 0))) w5 ?_))
  refine gx_nil ?_
  refine gx_thenN ?_
  refine hK79 _ _ ?_
  refine gx_ret ?_
  obtain rfl := Option.some.inj hO11
  exact gx_fin (.bool (decide (x8 = 0))) (by kernel_rfl) (by kernel_rfl) ⟨_, rfl, rfl, hS6⟩

end Go.Proofs.Ytapfdafmhiilkaa
