/-
  SfntJoins, walked.
-/
import Derived.Test.YtijmponhkabeiaaTh
namespace Go.Proofs.Ytijmponhkabeiaa
open Go Go.RowKit

def kBytes (_N : Nat) (p0 : List Int) (p1 : List Int) : Option (Bool) :=
  some (((strOfNums p0).toList == (strOfNums p1).toList))

set_option linter.unusedVariables false in
def kBytes_R (r : Bool) (w0 : World) (v : Value) (w : World) : Prop := v = .bool r ∧ St [] w0 w []

set_option maxRecDepth 100000 in
set_option maxHeartbeats 4000000 in
theorem kBytes_ok (N : Nat) (p0 : List Int) (p1 : List Int) (A0 : Option Addr) (c0 : Nat) (A1 : Option Addr) (c1 : Nat) (r : Bool) (hF : kBytes N p0 p1 = some r) (w0 : World) (hv0 : Vw [] .u8 w0 A0 c0 p0) (hv1 : Vw [] .u8 w0 A1 c1 p1) :
    Calls Try.prog 12 #[.slice A0 p0.length c0, .slice A1 p1.length c1] w0 fun e w => ∃ v, e = .returned v ∧ kBytes_R r w0 v w := by
  have hS0 := St.start w0
  unfold kBytes at hF
  refine calls_of Try.func12 rfl ⟨((.slice A0 p0.length c0) :: (.slice A1 p1.length c1) :: undef :: undef :: undef :: undef :: undef :: undef :: undef :: undef :: []).toArray, []⟩ (by kernel_rfl) ?_
  refine gx_seq (fun K1 hK2 => ?_)
  refine gx_region ?_
  refine gx_val (.bool false) w0 (by kernel_rfl) (by kernel_rfl) ?_
  refine gx_nil ?_
  refine gx_thenN ?_
  refine hK2 _ _ ?_
  refine gx_seq (fun K3 hK4 => ?_)
  refine gx_region ?_
  refine gx_val (.slice A0 p0.length c0) w0 (by kernel_rfl) (by kernel_rfl) ?_
  refine gx_val (.string (strOfNums p0)) w0 (by kernel_rfl) (run_conv rfl (by kernel_rfl) (conv_b _ _ _ (hS0.view hv0))) ?_
  refine gx_val (.slice A1 p1.length c1) w0 (by kernel_rfl) (by kernel_rfl) ?_
  refine gx_val (.string (strOfNums p1)) w0 (by kernel_rfl) (run_conv rfl (by kernel_rfl) (conv_b _ _ _ (hS0.view hv1))) ?_
  refine gx_val (.bool (((strOfNums p0).toList == (strOfNums p1).toList))) w0 (by kernel_rfl) (by kernel_rfl) ?_
  refine gx_val (.bool (((strOfNums p0).toList == (strOfNums p1).toList))) w0 (by kernel_rfl) (by kernel_rfl) ?_
  refine gx_nil ?_
  refine gx_thenN ?_
  refine hK4 _ _ ?_
  refine gx_ret ?_
  obtain rfl := Option.some.inj hF
  exact gx_fin (.bool (((strOfNums p0).toList == (strOfNums p1).toList))) (by kernel_rfl) (by kernel_rfl) ⟨_, rfl, rfl, hS0⟩

def fJoins_L1 (N : Nat) (p1 : List (List Int)) : Nat → Int → Int → Option (Int)
  | 0, _, _ => none
  | k19+1, x17, x18 => (if x18 < ((p1.length : Nat) : Int) then (if x18 ≤ 70 then (if x17 ≤ 5000 then ((ixg p1 x18).bind fun x30 => fJoins_L1 N p1 k19 (IntKind.i64.wrap (x17 + ((x30.length : Nat) : Int))) (IntKind.i64.wrap (x18 + 1))) else some (x17)) else some (x17)) else some (x17))
def fJoins_L3 (N : Nat) (p1 : List (List Int)) (l82 : List Int) (x183 : Int) (x199 : (Int × Int × Int × Int) × Int × Int) : Nat → Int → Option (Ctl (Unit) (Bool))
  | 0, _ => none
  | k295+1, x294 => (if x294 < x199.2.2 then ((ix l82 (IntKind.i64.wrap (x199.2.1 + x294))).bind fun x308 => ((ixg p1 x183).bind fun x310 => ((ix x310 x294).bind fun x323 => (if x308 ≠ x323 then ((eqTag (x199.1.1, x199.1.2.1, x199.1.2.2.1, x199.1.2.2.2) (104, 101, 97, 100)).bind fun b326 => (match b326 with | true => (if x199.2.2 ≥ 12 then (if x294 ≥ 8 then (if x294 < 12 then fJoins_L3 N p1 l82 x183 x199 k295 (IntKind.i64.wrap (x294 + 1)) else some (Ctl.ret false)) else some (Ctl.ret false)) else some (Ctl.ret false)) | false => some (Ctl.ret false))) else fJoins_L3 N p1 l82 x183 x199 k295 (IntKind.i64.wrap (x294 + 1)))))) else some (Ctl.go ()))
def fJoins_L2 (N : Nat) (p0 : List (Int × Int × Int × Int)) (p1 : List (List Int)) (l82 : List Int) (l143 : List ((Int × Int × Int × Int) × Int × Int)) : Nat → Int → Option (Ctl (Unit) (Bool))
  | 0, _ => none
  | k184+1, x183 => (if x183 < ((l143.length : Nat) : Int) then ((((ixg l143 x183).bind fun x199 => ((((ixg p0 x183).bind fun x242 => ((neTag (x199.1.1, x199.1.2.1, x199.1.2.2.1, x199.1.2.2.2) (x242.1, x242.2.1, x242.2.2.1, x242.2.2.2)).bind fun b263 => (match b263 with | true => some (Ctl.ret false) | false => (if x199.2.1 < 0 then some (Ctl.ret false) else ((ixg p1 x183).bind fun x270 => (if x199.2.2 ≠ ((x270.length : Nat) : Int) then some (Ctl.ret false) else (if x199.2.1 > (IntKind.i64.wrap (((l82.length : Nat) : Int) - x199.2.2)) then some (Ctl.ret false) else some (Ctl.go ())))))))) : Option (Ctl (Unit) (Bool))).bind fun | Ctl.go () => fJoins_L3 N p1 l82 x183 x199 N 0 | Ctl.ret r => some (Ctl.ret r))) : Option (Ctl (Unit) (Bool))).bind fun | Ctl.go () => fJoins_L2 N p0 p1 l82 l143 k184 (IntKind.i64.wrap (x183 + 1)) | Ctl.ret r => some (Ctl.ret r)) else some (Ctl.go ()))
def fJoins (N : Nat) (p0 : List (Int × Int × Int × Int)) (p1 : List (List Int)) : Option (Bool) :=
  ((fJoins_L1 N p1 N 0 0 : Option (Int)).bind fun x8 => (((if ((p0.length : Nat) : Int) > 70 then ((hWorks N ).bind fun b56 => some (Ctl.ret b56)) else (if ((p1.length : Nat) : Int) > 70 then ((hWorks N ).bind fun b65 => some (Ctl.ret b65)) else (if x8 > 5000 then ((hWorks N ).bind fun b74 => some (Ctl.ret b74)) else some (Ctl.go ())))) : Option (Ctl (Unit) (Bool))).bind fun | Ctl.go () => ((sJoin N p0 p1).bind fun (l82, x86) => ((rJoin N p0 p1).bind fun (l100, x103) => (((if x86 ≠ x103 then some (Ctl.ret false) else ((kBytes N l82 l100).bind fun b120 => (match b120 with | true => some (Ctl.go ()) | false => some (Ctl.ret false)))) : Option (Ctl (Unit) (Bool))).bind fun | Ctl.go () => (if x86 ≠ 0 then ((hWorks N ).bind fun b135 => some b135) else ((sTables N l82).bind fun (l143, x148) => (((if x148 ≠ 0 then some (Ctl.ret false) else (if ((l143.length : Nat) : Int) ≠ ((p0.length : Nat) : Int) then some (Ctl.ret false) else some (Ctl.go ()))) : Option (Ctl (Unit) (Bool))).bind fun | Ctl.go () => ((fJoins_L2 N p0 p1 l82 l143 N 0 : Option (Ctl (Unit) (Bool))).bind fun | Ctl.go () => ((hWorks N ).bind fun b343 => some b343) | Ctl.ret r => some r) | Ctl.ret r => some r))) | Ctl.ret r => some r))) | Ctl.ret r => some r))

set_option linter.unusedVariables false in
def fJoins_R (r : Bool) (w0 : World) (v : Value) (w : World) : Prop := v = .bool r ∧ St [] w0 w []

set_option maxRecDepth 100000 in
set_option maxHeartbeats 4000000 in
theorem fJoins_ok (N : Nat) (p0 : List (Int × Int × Int × Int)) (p1 : List (List Int)) (A0 : Option Addr) (c0 : Nat) (vs0 : List Value) (ft0 : List Nat) (A1 : Option Addr) (c1 : Nat) (vs1 : List Value) (ft1 : List Nat) (r : Bool) (hF : fJoins N p0 p1 = some r) (w0 : World) (hv0 : (fSl encapiTag A0 c0 vs0 p0).rd w0 ft0) (ho0 : Off [] w0 ft0) (hv1 : (fSl (rowOf (intE .u8)) A1 c1 vs1 p1).rd w0 ft1) (ho1 : Off [] w0 ft1) :
    Calls Try.prog 4 #[.slice A0 p0.length c0, .slice A1 p1.length c1] w0 fun e w => ∃ v, e = .returned v ∧ fJoins_R r w0 v w := by
  have hS0 := (St.start w0).pool0
  unfold fJoins at hF
  refine calls_of Try.func4 rfl ⟨((.slice A0 p0.length c0) :: (.slice A1 p1.length c1) :: undef :: undef :: undef :: undef :: undef :: undef :: undef :: undef :: undef :: undef :: undef :: undef :: undef :: undef :: undef :: undef :: undef :: undef :: undef :: undef :: undef :: undef :: undef :: undef :: undef :: undef :: undef :: undef :: undef :: undef :: undef :: undef :: undef :: undef :: undef :: undef :: undef :: undef :: undef :: undef :: undef :: undef :: undef :: undef :: undef :: undef :: undef :: undef :: undef :: undef :: undef :: undef :: undef :: undef :: undef :: undef :: undef :: undef :: undef :: undef :: undef :: undef :: undef :: undef :: undef :: undef :: undef :: undef :: undef :: undef :: undef :: undef :: undef :: undef :: undef :: undef :: undef :: undef :: undef :: undef :: undef :: undef :: undef :: undef :: undef :: undef :: undef :: undef :: undef :: undef :: undef :: undef :: undef :: undef :: undef :: undef :: undef :: undef :: undef :: undef :: undef :: undef :: undef :: undef :: undef :: undef :: undef :: undef :: undef :: undef :: undef :: undef :: undef :: undef :: undef :: undef :: undef :: undef :: undef :: undef :: undef :: undef :: undef :: undef :: undef :: undef :: undef :: undef :: undef :: undef :: undef :: undef :: undef :: undef :: undef :: undef :: undef :: undef :: undef :: undef :: undef :: undef :: undef :: undef :: undef :: undef :: undef :: undef :: undef :: undef :: undef :: undef :: undef :: undef :: undef :: undef :: undef :: undef :: undef :: undef :: undef :: undef :: undef :: undef :: undef :: undef :: undef :: undef :: undef :: []).toArray, []⟩ (by kernel_rfl) ?_
  refine gx_seq (fun K1 hK2 => ?_)
  refine gx_region ?_
  refine gx_val (.bool false) w0 (by kernel_rfl) (by kernel_rfl) ?_
  refine gx_nil ?_
  refine gx_thenN ?_
  refine hK2 _ _ ?_
  refine gx_seq (fun K3 hK4 => ?_)
  refine gx_region ?_
  refine gx_val (.int .i64 0) w0 (by kernel_rfl) (by kernel_rfl) ?_
  refine gx_nil ?_
  refine gx_thenN ?_
  refine hK4 _ _ ?_
  obtain ⟨c9, hE10, hO11⟩ := bind_in hF
  refine gx_cut (fun a w => ∃ (x8 : Int) (u7 : Nat → Value), a = ⟨((.slice A0 p0.length c0) :: (.slice A1 p1.length c1) :: undef :: undef :: (.bool false) :: (.int .i64 x8) :: (u7 0) :: undef :: undef :: undef :: undef :: undef :: undef :: undef :: undef :: (u7 1) :: (u7 2) :: (u7 3) :: (u7 4) :: (u7 5) :: (u7 6) :: (u7 7) :: (u7 8) :: (u7 9) :: (u7 10) :: (u7 11) :: (u7 12) :: (u7 13) :: (u7 14) :: (u7 15) :: (u7 16) :: (u7 17) :: (u7 18) :: (u7 19) :: (u7 20) :: (u7 21) :: undef :: undef :: undef :: undef :: undef :: undef :: undef :: undef :: undef :: undef :: undef :: undef :: undef :: undef :: undef :: undef :: undef :: undef :: undef :: undef :: undef :: undef :: undef :: undef :: undef :: undef :: undef :: undef :: undef :: undef :: undef :: undef :: undef :: undef :: undef :: undef :: undef :: undef :: undef :: undef :: undef :: undef :: undef :: undef :: undef :: undef :: undef :: undef :: undef :: undef :: undef :: undef :: undef :: undef :: undef :: undef :: undef :: undef :: undef :: undef :: undef :: undef :: undef :: undef :: undef :: undef :: undef :: undef :: undef :: undef :: undef :: undef :: undef :: undef :: undef :: undef :: undef :: undef :: undef :: undef :: undef :: undef :: undef :: undef :: undef :: undef :: undef :: undef :: undef :: undef :: undef :: undef :: undef :: undef :: undef :: undef :: undef :: undef :: undef :: undef :: undef :: undef :: undef :: undef :: undef :: undef :: undef :: undef :: undef :: undef :: undef :: undef :: undef :: undef :: undef :: undef :: undef :: undef :: undef :: undef :: undef :: undef :: undef :: undef :: undef :: undef :: undef :: undef :: undef :: undef :: undef :: undef :: undef :: undef :: undef :: []).toArray, []⟩ ∧ x8 = c9 ∧ St [] w0 w [poolE ([]) w0]) ?_ ?_
  · refine gx_seq (fun K12 hK13 => ?_)
    refine gx_region ?_
    refine gx_val (.int .i64 0) w0 (by kernel_rfl) (by kernel_rfl) ?_
    refine gx_nil ?_
    refine gx_thenN ?_
    refine hK13 _ _ ?_
    refine gx_block ?_
    refine gx_loop (fun k a w => ∃ (x17 : Int) (x18 : Int) (u16 : Nat → Value), a = ⟨((.slice A0 p0.length c0) :: (.slice A1 p1.length c1) :: undef :: undef :: (.bool false) :: (.int .i64 x17) :: (.int .i64 x18) :: undef :: undef :: undef :: undef :: undef :: undef :: undef :: undef :: (u16 0) :: (u16 1) :: (u16 2) :: (u16 3) :: (u16 4) :: (u16 5) :: (u16 6) :: (u16 7) :: (u16 8) :: (u16 9) :: (u16 10) :: (u16 11) :: (u16 12) :: (u16 13) :: (u16 14) :: (u16 15) :: (u16 16) :: (u16 17) :: (u16 18) :: (u16 19) :: (u16 20) :: undef :: undef :: undef :: undef :: undef :: undef :: undef :: undef :: undef :: undef :: undef :: undef :: undef :: undef :: undef :: undef :: undef :: undef :: undef :: undef :: undef :: undef :: undef :: undef :: undef :: undef :: undef :: undef :: undef :: undef :: undef :: undef :: undef :: undef :: undef :: undef :: undef :: undef :: undef :: undef :: undef :: undef :: undef :: undef :: undef :: undef :: undef :: undef :: undef :: undef :: undef :: undef :: undef :: undef :: undef :: undef :: undef :: undef :: undef :: undef :: undef :: undef :: undef :: undef :: undef :: undef :: undef :: undef :: undef :: undef :: undef :: undef :: undef :: undef :: undef :: undef :: undef :: undef :: undef :: undef :: undef :: undef :: undef :: undef :: undef :: undef :: undef :: undef :: undef :: undef :: undef :: undef :: undef :: undef :: undef :: undef :: undef :: undef :: undef :: undef :: undef :: undef :: undef :: undef :: undef :: undef :: undef :: undef :: undef :: undef :: undef :: undef :: undef :: undef :: undef :: undef :: undef :: undef :: undef :: undef :: undef :: undef :: undef :: undef :: undef :: undef :: undef :: undef :: undef :: undef :: undef :: undef :: undef :: undef :: undef :: []).toArray, []⟩ ∧ fJoins_L1 N p1 k x17 x18 = some c9 ∧ St [] w0 w [poolE ([]) w0]) N ?_ ?_
    · exact ⟨0, 0, (fun i => List.getD (undef :: undef :: undef :: undef :: undef :: undef :: undef :: undef :: undef :: undef :: undef :: undef :: undef :: undef :: undef :: undef :: undef :: undef :: undef :: undef :: undef :: []) i undef), by kernel_rfl, hE10, hS0⟩
    · rintro k19 _ w14 ⟨x17, x18, u16, rfl, hL20, hS15⟩
      cases k19 with
      | zero => cases hL20
      | succ k19 =>
        rw [fJoins_L1] at hL20
        refine gx_seq (fun K21 hK22 => ?_)
        refine gx_seq (fun K23 hK24 => ?_)
        refine gx_region ?_
        refine gx_val (.int .i64 x18) w14 (by kernel_rfl) (by kernel_rfl) ?_
        refine gx_val (.slice A1 p1.length c1) w14 (by kernel_rfl) (by kernel_rfl) ?_
        refine gx_val (.int .i64 ((p1.length : Nat) : Int)) w14 (by kernel_rfl) (by kernel_rfl) ?_
        rcases if_in hL20 with ⟨h25, hL20⟩ | ⟨h25, hL20⟩
        · refine gx_val (.bool true) w14 (by kernel_rfl) (run_boolE (decide_eq_true h25) (by kernel_rfl)) ?_
          refine gx_val (.bool true) w14 (by kernel_rfl) (by kernel_rfl) ?_
          refine gx_val (.int .i64 x18) w14 (by kernel_rfl) (by kernel_rfl) ?_
          rcases if_in hL20 with ⟨h26, hL20⟩ | ⟨h26, hL20⟩
          · refine gx_val (.bool true) w14 (by kernel_rfl) (run_boolE (decide_eq_true h26) (by kernel_rfl)) ?_
            refine gx_val (.bool true) w14 (by kernel_rfl) (by kernel_rfl) ?_
            refine gx_val (.bool true) w14 (by kernel_rfl) (by kernel_rfl) ?_
            refine gx_val (.int .i64 x17) w14 (by kernel_rfl) (by kernel_rfl) ?_
            rcases if_in hL20 with ⟨h27, hL20⟩ | ⟨h27, hL20⟩
            · refine gx_val (.bool true) w14 (by kernel_rfl) (run_boolE (decide_eq_true h27) (by kernel_rfl)) ?_
              refine gx_val (.bool true) w14 (by kernel_rfl) (by kernel_rfl) ?_
              refine gx_nil ?_
              refine gx_thenN ?_
              refine hK24 _ _ ?_
              refine gx_yes (by kernel_rfl) ?_
              refine gx_pass ?_
              refine gx_thenN ?_
              refine hK22 _ _ ?_
              refine gx_seq (fun K28 hK29 => ?_)
              refine gx_block ?_
              refine gx_region ?_
              refine gx_val (.int .i64 x17) w14 (by kernel_rfl) (by kernel_rfl) ?_
              refine gx_val (.slice A1 p1.length c1) w14 (by kernel_rfl) (by kernel_rfl) ?_
              refine gx_val (.int .i64 x18) w14 (by kernel_rfl) (by kernel_rfl) ?_
              obtain ⟨x30, hx31, hL20⟩ := bind_in hL20
              obtain ⟨g32, o33, e34, hA35, he36, h37, ha38⟩ := elem_at (e := (rowOf (intE .u8))) (sl_lies (hS15.inn ho1 hv1)) (sl_each hv1) hx31 (by decide)
              obtain ⟨A39, c40, vs41, rfl, hf42⟩ := h37
              have ha38 : ∀ w', Lies w' A1 vs1 → w'.rangeAt g32 o33 [.slice A39 x30.length c40] := ha38
              refine gx_val (.pointer (some ⟨g32, o33, none⟩)) w14 (by kernel_rfl) (run_ixaddrN (E := 22) (s := 1) (k := .i64) (c := c1) rfl (by kernel_rfl) (by kernel_rfl) (by kernel_rfl) (fun _ => by kernel_rfl) (ixg_in hx31).1 (ixg_in hx31).2.1 hA35) ?_
              refine gx_val (.slice A39 x30.length c40) w14 (by kernel_rfl) (run_loadN1 0 rfl (by kernel_rfl) (fun _ => by kernel_rfl) (ha38 _ (sl_lies (hS15.inn ho1 hv1))) rfl) ?_
              refine gx_val (.int .i64 ((x30.length : Nat) : Int)) w14 (by kernel_rfl) (by kernel_rfl) ?_
              refine gx_val (.int .i64 (IntKind.i64.wrap (x17 + ((x30.length : Nat) : Int)))) w14 (by kernel_rfl) (by kernel_rfl) ?_
              refine gx_val (.int .i64 (IntKind.i64.wrap (x17 + ((x30.length : Nat) : Int)))) w14 (by kernel_rfl) (by kernel_rfl) ?_
              refine gx_nil ?_
              refine gx_blkN ?_
              refine gx_thenN ?_
              refine hK29 _ _ ?_
              refine gx_region ?_
              refine gx_val (.int .i64 x18) w14 (by kernel_rfl) (by kernel_rfl) ?_
              refine gx_val (.int .i64 (IntKind.i64.wrap (x18 + 1))) w14 (by kernel_rfl) (by kernel_rfl) ?_
              refine gx_val (.int .i64 (IntKind.i64.wrap (x18 + 1))) w14 (by kernel_rfl) (by kernel_rfl) ?_
              refine gx_nil ?_
              refine gx_thenN ?_
              exact ⟨k19, Nat.lt_succ_self k19, (IntKind.i64.wrap (x17 + ((x30.length : Nat) : Int))), (IntKind.i64.wrap (x18 + 1)), (fun i => List.getD ((.int .i64 x18) :: (.slice A1 p1.length c1) :: (.int .i64 ((p1.length : Nat) : Int)) :: (.bool true) :: (.bool true) :: (.int .i64 x18) :: (.bool true) :: (.bool true) :: (.bool true) :: (.int .i64 x17) :: (.bool true) :: (.bool true) :: (.int .i64 x18) :: (.int .i64 (IntKind.i64.wrap (x18 + 1))) :: (.int .i64 x17) :: (.slice A1 p1.length c1) :: (.int .i64 x18) :: (.pointer (some ⟨g32, o33, none⟩)) :: (.slice A39 x30.length c40) :: (.int .i64 ((x30.length : Nat) : Int)) :: (.int .i64 (IntKind.i64.wrap (x17 + ((x30.length : Nat) : Int)))) :: []) i undef), by kernel_rfl, hL20, hS15⟩
            · refine gx_val (.bool false) w14 (by kernel_rfl) (run_boolE (decide_eq_false h27) (by kernel_rfl)) ?_
              refine gx_val (.bool false) w14 (by kernel_rfl) (by kernel_rfl) ?_
              refine gx_nil ?_
              refine gx_thenN ?_
              refine hK24 _ _ ?_
              refine gx_no (by kernel_rfl) ?_
              refine gx_exit ?_
              refine gx_thenE ?_
              refine gx_thenE ?_
              refine gx_blkE ?_
              refine gx_thenN ?_
              exact ⟨x17, (fun i => List.getD ((.int .i64 x18) :: (.int .i64 x18) :: (.slice A1 p1.length c1) :: (.int .i64 ((p1.length : Nat) : Int)) :: (.bool true) :: (.bool true) :: (.int .i64 x18) :: (.bool true) :: (.bool true) :: (.bool true) :: (.int .i64 x17) :: (.bool false) :: (.bool false) :: (u16 12) :: (u16 13) :: (u16 14) :: (u16 15) :: (u16 16) :: (u16 17) :: (u16 18) :: (u16 19) :: (u16 20) :: []) i undef), by kernel_rfl, (Option.some.inj hL20), hS15⟩
          · refine gx_val (.bool false) w14 (by kernel_rfl) (run_boolE (decide_eq_false h26) (by kernel_rfl)) ?_
            refine gx_val (.bool false) w14 (by kernel_rfl) (by kernel_rfl) ?_
            refine gx_val (.bool false) w14 (by kernel_rfl) (by kernel_rfl) ?_
            refine gx_off (by kernel_rfl) ?_
            refine gx_off (by kernel_rfl) ?_
            refine gx_val (.bool false) w14 (by kernel_rfl) (by kernel_rfl) ?_
            refine gx_nil ?_
            refine gx_thenN ?_
            refine hK24 _ _ ?_
            refine gx_no (by kernel_rfl) ?_
            refine gx_exit ?_
            refine gx_thenE ?_
            refine gx_thenE ?_
            refine gx_blkE ?_
            refine gx_thenN ?_
            exact ⟨x17, (fun i => List.getD ((.int .i64 x18) :: (.int .i64 x18) :: (.slice A1 p1.length c1) :: (.int .i64 ((p1.length : Nat) : Int)) :: (.bool true) :: (.bool true) :: (.int .i64 x18) :: (.bool false) :: (.bool false) :: (.bool false) :: undef :: undef :: (.bool false) :: (u16 12) :: (u16 13) :: (u16 14) :: (u16 15) :: (u16 16) :: (u16 17) :: (u16 18) :: (u16 19) :: (u16 20) :: []) i undef), by kernel_rfl, (Option.some.inj hL20), hS15⟩
        · refine gx_val (.bool false) w14 (by kernel_rfl) (run_boolE (decide_eq_false h25) (by kernel_rfl)) ?_
          refine gx_val (.bool false) w14 (by kernel_rfl) (by kernel_rfl) ?_
          refine gx_off (by kernel_rfl) ?_
          refine gx_off (by kernel_rfl) ?_
          refine gx_val (.bool false) w14 (by kernel_rfl) (by kernel_rfl) ?_
          refine gx_val (.bool false) w14 (by kernel_rfl) (by kernel_rfl) ?_
          refine gx_off (by kernel_rfl) ?_
          refine gx_off (by kernel_rfl) ?_
          refine gx_val (.bool false) w14 (by kernel_rfl) (by kernel_rfl) ?_
          refine gx_nil ?_
          refine gx_thenN ?_
          refine hK24 _ _ ?_
          refine gx_no (by kernel_rfl) ?_
          refine gx_exit ?_
          refine gx_thenE ?_
          refine gx_thenE ?_
          refine gx_blkE ?_
          refine gx_thenN ?_
          exact ⟨x17, (fun i => List.getD ((.int .i64 x18) :: (.int .i64 x18) :: (.slice A1 p1.length c1) :: (.int .i64 ((p1.length : Nat) : Int)) :: (.bool false) :: (.bool false) :: undef :: undef :: (.bool false) :: (.bool false) :: undef :: undef :: (.bool false) :: (u16 12) :: (u16 13) :: (u16 14) :: (u16 15) :: (u16 16) :: (u16 17) :: (u16 18) :: (u16 19) :: (u16 20) :: []) i undef), by kernel_rfl, (Option.some.inj hL20), hS15⟩
  · rintro _ w5 ⟨x8, u7, rfl, rfl, hS6⟩
    try dsimp only at hO11
    obtain ⟨c46, hE47, hO48⟩ := bind_in hO11
    refine gx_cut (fun a w => ∃ (u45 : Nat → Value), a = ⟨((.slice A0 p0.length c0) :: (.slice A1 p1.length c1) :: undef :: undef :: (u45 0) :: (.int .i64 x8) :: (u7 0) :: undef :: undef :: undef :: undef :: undef :: undef :: undef :: undef :: (u7 1) :: (u7 2) :: (u7 3) :: (u7 4) :: (u7 5) :: (u7 6) :: (u7 7) :: (u7 8) :: (u7 9) :: (u7 10) :: (u7 11) :: (u7 12) :: (u7 13) :: (u7 14) :: (u7 15) :: (u7 16) :: (u7 17) :: (u7 18) :: (u7 19) :: (u7 20) :: (u7 21) :: (u45 1) :: (u45 2) :: (u45 3) :: (u45 4) :: (u45 5) :: (u45 6) :: (u45 7) :: (u45 8) :: (u45 9) :: (u45 10) :: (u45 11) :: (u45 12) :: (u45 13) :: undef :: undef :: undef :: undef :: undef :: undef :: undef :: undef :: undef :: undef :: undef :: undef :: undef :: undef :: undef :: undef :: undef :: undef :: undef :: undef :: undef :: undef :: undef :: undef :: undef :: undef :: undef :: undef :: undef :: undef :: undef :: undef :: undef :: undef :: undef :: undef :: undef :: undef :: undef :: undef :: undef :: undef :: undef :: undef :: undef :: undef :: undef :: undef :: undef :: undef :: undef :: undef :: undef :: undef :: undef :: undef :: undef :: undef :: undef :: undef :: undef :: undef :: undef :: undef :: undef :: undef :: undef :: undef :: undef :: undef :: undef :: undef :: undef :: undef :: undef :: undef :: undef :: undef :: undef :: undef :: undef :: undef :: undef :: undef :: undef :: undef :: undef :: undef :: undef :: undef :: undef :: undef :: undef :: undef :: undef :: undef :: undef :: undef :: undef :: undef :: undef :: undef :: undef :: undef :: undef :: undef :: undef :: undef :: undef :: undef :: undef :: undef :: undef :: undef :: undef :: undef :: undef :: undef :: undef :: undef :: undef :: undef :: []).toArray, []⟩ ∧ Ctl.go () = c46 ∧ St [] w0 w [poolE ([]) w0]) ?_ ?_
    · refine gx_seq (fun K49 hK50 => ?_)
      refine gx_region ?_
      refine gx_val (.slice A0 p0.length c0) w5 (by kernel_rfl) (by kernel_rfl) ?_
      refine gx_val (.int .i64 ((p0.length : Nat) : Int)) w5 (by kernel_rfl) (by kernel_rfl) ?_
      rcases if_in hE47 with ⟨h51, hE47⟩ | ⟨h51, hE47⟩
      · refine gx_val (.bool true) w5 (by kernel_rfl) (run_boolE (decide_eq_true h51) (by kernel_rfl)) ?_
        refine gx_val (.bool true) w5 (by kernel_rfl) (by kernel_rfl) ?_
        refine gx_off (by kernel_rfl) ?_
        refine gx_off (by kernel_rfl) ?_
        refine gx_off (by kernel_rfl) ?_
        refine gx_val (.bool true) w5 (by kernel_rfl) (by kernel_rfl) ?_
        refine gx_val (.bool true) w5 (by kernel_rfl) (by kernel_rfl) ?_
        refine gx_off (by kernel_rfl) ?_
        refine gx_off (by kernel_rfl) ?_
        refine gx_val (.bool true) w5 (by kernel_rfl) (by kernel_rfl) ?_
        refine gx_nil ?_
        refine gx_thenN ?_
        refine hK50 _ _ ?_
        refine gx_yes (by kernel_rfl) ?_
        refine gx_seq (fun K52 hK53 => ?_)
        refine gx_region ?_
        have hP54 : St _ _ w5 ([] ++ [poolE ([]) w0]) := hS6
        obtain ⟨b56, hc55, hE47⟩ := bind_in hE47
        try dsimp only at hE47
        refine gx_call (hWorks_R b56 w5) (by kernel_rfl) (by kernel_rfl) (hWorks_ok N  _ hc55 w5 ) ?_
        rintro _ w57 ⟨rfl, hT59⟩
        have hS58 : St _ _ w57 [poolE ([]) w0] := hS6.take _ hT59
        refine gx_val (.bool b56) w57 (by kernel_rfl) (by kernel_rfl) ?_
        refine gx_nil ?_
        refine gx_thenN ?_
        refine hK53 _ _ ?_
        refine gx_ret ?_
        refine gx_thenR ?_
        obtain rfl := Option.some.inj hE47
        try dsimp only at hO48
        obtain rfl := Option.some.inj hO48
        exact gx_fin (.bool b56) (by kernel_rfl) (by kernel_rfl) ⟨_, rfl, rfl, (hS58.pick [] rfl rfl)⟩
      · refine gx_val (.bool false) w5 (by kernel_rfl) (run_boolE (decide_eq_false h51) (by kernel_rfl)) ?_
        refine gx_val (.bool false) w5 (by kernel_rfl) (by kernel_rfl) ?_
        refine gx_val (.slice A1 p1.length c1) w5 (by kernel_rfl) (by kernel_rfl) ?_
        refine gx_val (.int .i64 ((p1.length : Nat) : Int)) w5 (by kernel_rfl) (by kernel_rfl) ?_
        rcases if_in hE47 with ⟨h60, hE47⟩ | ⟨h60, hE47⟩
        · refine gx_val (.bool true) w5 (by kernel_rfl) (run_boolE (decide_eq_true h60) (by kernel_rfl)) ?_
          refine gx_val (.bool true) w5 (by kernel_rfl) (by kernel_rfl) ?_
          refine gx_val (.bool true) w5 (by kernel_rfl) (by kernel_rfl) ?_
          refine gx_off (by kernel_rfl) ?_
          refine gx_off (by kernel_rfl) ?_
          refine gx_val (.bool true) w5 (by kernel_rfl) (by kernel_rfl) ?_
          refine gx_nil ?_
          refine gx_thenN ?_
          refine hK50 _ _ ?_
          refine gx_yes (by kernel_rfl) ?_
          refine gx_seq (fun K61 hK62 => ?_)
          refine gx_region ?_
          have hP63 : St _ _ w5 ([] ++ [poolE ([]) w0]) := hS6
          obtain ⟨b65, hc64, hE47⟩ := bind_in hE47
          try dsimp only at hE47
          refine gx_call (hWorks_R b65 w5) (by kernel_rfl) (by kernel_rfl) (hWorks_ok N  _ hc64 w5 ) ?_
          rintro _ w66 ⟨rfl, hT68⟩
          have hS67 : St _ _ w66 [poolE ([]) w0] := hS6.take _ hT68
          refine gx_val (.bool b65) w66 (by kernel_rfl) (by kernel_rfl) ?_
          refine gx_nil ?_
          refine gx_thenN ?_
          refine hK62 _ _ ?_
          refine gx_ret ?_
          refine gx_thenR ?_
          obtain rfl := Option.some.inj hE47
          try dsimp only at hO48
          obtain rfl := Option.some.inj hO48
          exact gx_fin (.bool b65) (by kernel_rfl) (by kernel_rfl) ⟨_, rfl, rfl, (hS67.pick [] rfl rfl)⟩
        · refine gx_val (.bool false) w5 (by kernel_rfl) (run_boolE (decide_eq_false h60) (by kernel_rfl)) ?_
          refine gx_val (.bool false) w5 (by kernel_rfl) (by kernel_rfl) ?_
          refine gx_val (.bool false) w5 (by kernel_rfl) (by kernel_rfl) ?_
          refine gx_val (.int .i64 x8) w5 (by kernel_rfl) (by kernel_rfl) ?_
          rcases if_in hE47 with ⟨h69, hE47⟩ | ⟨h69, hE47⟩
          · refine gx_val (.bool true) w5 (by kernel_rfl) (run_boolE (decide_eq_true h69) (by kernel_rfl)) ?_
            refine gx_val (.bool true) w5 (by kernel_rfl) (by kernel_rfl) ?_
            refine gx_nil ?_
            refine gx_thenN ?_
            refine hK50 _ _ ?_
            refine gx_yes (by kernel_rfl) ?_
            refine gx_seq (fun K70 hK71 => ?_)
            refine gx_region ?_
            have hP72 : St _ _ w5 ([] ++ [poolE ([]) w0]) := hS6
            obtain ⟨b74, hc73, hE47⟩ := bind_in hE47
            try dsimp only at hE47
            refine gx_call (hWorks_R b74 w5) (by kernel_rfl) (by kernel_rfl) (hWorks_ok N  _ hc73 w5 ) ?_
            rintro _ w75 ⟨rfl, hT77⟩
            have hS76 : St _ _ w75 [poolE ([]) w0] := hS6.take _ hT77
            refine gx_val (.bool b74) w75 (by kernel_rfl) (by kernel_rfl) ?_
            refine gx_nil ?_
            refine gx_thenN ?_
            refine hK71 _ _ ?_
            refine gx_ret ?_
            refine gx_thenR ?_
            obtain rfl := Option.some.inj hE47
            try dsimp only at hO48
            obtain rfl := Option.some.inj hO48
            exact gx_fin (.bool b74) (by kernel_rfl) (by kernel_rfl) ⟨_, rfl, rfl, (hS76.pick [] rfl rfl)⟩
          · refine gx_val (.bool false) w5 (by kernel_rfl) (run_boolE (decide_eq_false h69) (by kernel_rfl)) ?_
            refine gx_val (.bool false) w5 (by kernel_rfl) (by kernel_rfl) ?_
            refine gx_nil ?_
            refine gx_thenN ?_
            refine hK50 _ _ ?_
            refine gx_no (by kernel_rfl) ?_
            refine gx_pass ?_
            refine gx_thenN ?_
            exact ⟨(fun i => List.getD ((.bool false) :: (.slice A0 p0.length c0) :: (.int .i64 ((p0.length : Nat) : Int)) :: (.bool false) :: (.bool false) :: (.slice A1 p1.length c1) :: (.int .i64 ((p1.length : Nat) : Int)) :: (.bool false) :: (.bool false) :: (.bool false) :: (.int .i64 x8) :: (.bool false) :: (.bool false) :: undef :: []) i undef), by kernel_rfl, (Option.some.inj hE47), hS6⟩
    · rintro _ w43 ⟨u45, rfl, rfl, hS44⟩
      try dsimp only at hO48
      refine gx_seq (fun K78 hK79 => ?_)
      refine gx_region ?_
      refine gx_val (.slice A0 p0.length c0) w43 (by kernel_rfl) (by kernel_rfl) ?_
      refine gx_val (.slice A1 p1.length c1) w43 (by kernel_rfl) (by kernel_rfl) ?_
      have hP80 : St _ _ w43 ([] ++ [poolE ([]) w0]) := hS44
      obtain ⟨⟨l82, x86⟩, hc81, hO48⟩ := bind_in hO48
      try dsimp only at hO48
      refine gx_call (sJoin_R (l82, x86) w43) (by kernel_rfl) (by kernel_rfl) (sJoin_ok N p0 p1 A0 c0 vs0 ft0 A1 c1 vs1 ft1 _ hc81 w43 (hS44.inn ho0 hv0) (hP80.offIA ho0) (hS44.inn ho1 hv1) (hP80.offIA ho1)) ?_
      rintro _ w88 ⟨A83, c84, ft87, rfl, hT90, hf85⟩
      have hS89 : St _ _ w88 [poolE ([]) w0, poolE ft87 w88] := hS44.take _ hT90
      obtain ⟨ft91, W92, hS93, hT94, hU95⟩ := hS89.merge 1 0 rfl rfl (by decide)
      have hS93 : St _ _ w88 [poolE ft91 W92] := hS93
      have hT94 : Turn [] w0 w0 ([]) W92 ft91 := hT94
      have hf85 : (fSl (intE .u8) A83 c84 (List.map (Value.int .u8) l82) l82).rd W92 ft91 := hU95 _ hf85
      refine gx_val (.tuple #[.slice A83 l82.length c84, .int .i64 x86]) w88 (by kernel_rfl) (by kernel_rfl) ?_
      refine gx_val (.slice A83 l82.length c84) w88 (by kernel_rfl) (by kernel_rfl) ?_
      refine gx_val (.int .i64 x86) w88 (by kernel_rfl) (by kernel_rfl) ?_
      refine gx_val (.slice A83 l82.length c84) w88 (by kernel_rfl) (by kernel_rfl) ?_
      refine gx_val (.int .i64 x86) w88 (by kernel_rfl) (by kernel_rfl) ?_
      refine gx_nil ?_
      refine gx_thenN ?_
      refine hK79 _ _ ?_
      refine gx_seq (fun K96 hK97 => ?_)
      refine gx_region ?_
      refine gx_val (.slice A0 p0.length c0) w88 (by kernel_rfl) (by kernel_rfl) ?_
      refine gx_val (.slice A1 p1.length c1) w88 (by kernel_rfl) (by kernel_rfl) ?_
      have hP98 : St _ _ w88 ([] ++ [poolE ft91 W92]) := hS93
      obtain ⟨⟨l100, x103⟩, hc99, hO48⟩ := bind_in hO48
      try dsimp only at hO48
      refine gx_call (rJoin_R (l100, x103) w88) (by kernel_rfl) (by kernel_rfl) (rJoin_ok N p0 p1 A0 c0 vs0 ft0 A1 c1 vs1 ft1 _ hc99 w88 (hS93.inn ho0 hv0) (hP98.offIA ho0) (hS93.inn ho1 hv1) (hP98.offIA ho1)) ?_
      rintro _ w104 ⟨A101, c102, rfl, hT106⟩
      have hS105 : St _ _ w104 [poolE ft91 W92, rowE .u8 5 A101 c102 l100] := hS93.take _ hT106
      refine gx_val (.tuple #[.slice A101 l100.length c102, .int .i64 x103]) w104 (by kernel_rfl) (by kernel_rfl) ?_
      refine gx_val (.slice A101 l100.length c102) w104 (by kernel_rfl) (by kernel_rfl) ?_
      refine gx_val (.int .i64 x103) w104 (by kernel_rfl) (by kernel_rfl) ?_
      refine gx_val (.slice A101 l100.length c102) w104 (by kernel_rfl) (by kernel_rfl) ?_
      refine gx_val (.int .i64 x103) w104 (by kernel_rfl) (by kernel_rfl) ?_
      refine gx_nil ?_
      refine gx_thenN ?_
      refine hK97 _ _ ?_
      obtain ⟨c110, hE111, hO112⟩ := bind_in hO48
      refine gx_cut (fun a w => ∃ (u109 : Nat → Value), a = ⟨((.slice A0 p0.length c0) :: (.slice A1 p1.length c1) :: undef :: undef :: (u109 0) :: (.int .i64 x8) :: (u7 0) :: (.slice A83 l82.length c84) :: (.int .i64 x86) :: (u109 1) :: (.int .i64 x103) :: undef :: undef :: undef :: undef :: (u7 1) :: (u7 2) :: (u7 3) :: (u7 4) :: (u7 5) :: (u7 6) :: (u7 7) :: (u7 8) :: (u7 9) :: (u7 10) :: (u7 11) :: (u7 12) :: (u7 13) :: (u7 14) :: (u7 15) :: (u7 16) :: (u7 17) :: (u7 18) :: (u7 19) :: (u7 20) :: (u7 21) :: (u45 1) :: (u45 2) :: (u45 3) :: (u45 4) :: (u45 5) :: (u45 6) :: (u45 7) :: (u45 8) :: (u45 9) :: (u45 10) :: (u45 11) :: (u45 12) :: (u45 13) :: (u109 2) :: (u109 3) :: (u109 4) :: (u109 5) :: (u109 6) :: (.int .i64 x86) :: (u109 7) :: (u109 8) :: (u109 9) :: (u109 10) :: (u109 11) :: (.int .i64 x103) :: (u109 12) :: (u109 13) :: (u109 14) :: (u109 15) :: (u109 16) :: (u109 17) :: (u109 18) :: (u109 19) :: (u109 20) :: undef :: undef :: undef :: undef :: undef :: undef :: undef :: undef :: undef :: undef :: undef :: undef :: undef :: undef :: undef :: undef :: undef :: undef :: undef :: undef :: undef :: undef :: undef :: undef :: undef :: undef :: undef :: undef :: undef :: undef :: undef :: undef :: undef :: undef :: undef :: undef :: undef :: undef :: undef :: undef :: undef :: undef :: undef :: undef :: undef :: undef :: undef :: undef :: undef :: undef :: undef :: undef :: undef :: undef :: undef :: undef :: undef :: undef :: undef :: undef :: undef :: undef :: undef :: undef :: undef :: undef :: undef :: undef :: undef :: undef :: undef :: undef :: undef :: undef :: undef :: undef :: undef :: undef :: undef :: undef :: undef :: undef :: undef :: undef :: undef :: undef :: undef :: undef :: undef :: undef :: undef :: undef :: undef :: undef :: undef :: undef :: undef :: undef :: undef :: undef :: undef :: []).toArray, []⟩ ∧ Ctl.go () = c110 ∧ St [] w0 w [poolE ft91 W92]) ?_ ?_
      · refine gx_seq (fun K113 hK114 => ?_)
        refine gx_region ?_
        refine gx_val (.int .i64 x86) w104 (by kernel_rfl) (by kernel_rfl) ?_
        refine gx_val (.int .i64 x103) w104 (by kernel_rfl) (by kernel_rfl) ?_
        rcases if_in hE111 with ⟨h115, hE111⟩ | ⟨h115, hE111⟩
        · refine gx_val (.bool true) w104 (by kernel_rfl) (run_boolE (ne_yes h115) (by kernel_rfl)) ?_
          refine gx_val (.bool true) w104 (by kernel_rfl) (by kernel_rfl) ?_
          refine gx_off (by kernel_rfl) ?_
          refine gx_off (by kernel_rfl) ?_
          refine gx_off (by kernel_rfl) ?_
          refine gx_off (by kernel_rfl) ?_
          refine gx_val (.bool true) w104 (by kernel_rfl) (by kernel_rfl) ?_
          refine gx_nil ?_
          refine gx_thenN ?_
          refine hK114 _ _ ?_
          refine gx_yes (by kernel_rfl) ?_
          refine gx_seq (fun K116 hK117 => ?_)
          refine gx_region ?_
          refine gx_val (.bool false) w104 (by kernel_rfl) (by kernel_rfl) ?_
          refine gx_nil ?_
          refine gx_thenN ?_
          refine hK117 _ _ ?_
          refine gx_ret ?_
          refine gx_thenR ?_
          obtain rfl := Option.some.inj hE111
          try dsimp only at hO112
          obtain rfl := Option.some.inj hO112
          exact gx_fin (.bool false) (by kernel_rfl) (by kernel_rfl) ⟨_, rfl, rfl, (hS105.pick [] rfl rfl)⟩
        · refine gx_val (.bool false) w104 (by kernel_rfl) (run_boolE (ne_no h115) (by kernel_rfl)) ?_
          refine gx_val (.bool false) w104 (by kernel_rfl) (by kernel_rfl) ?_
          refine gx_val (.slice A83 l82.length c84) w104 (by kernel_rfl) (by kernel_rfl) ?_
          refine gx_val (.slice A101 l100.length c102) w104 (by kernel_rfl) (by kernel_rfl) ?_
          have hP118 : St _ _ w104 ([] ++ [poolE ft91 W92, rowE .u8 5 A101 c102 l100]) := hS105
          obtain ⟨b120, hc119, hE111⟩ := bind_in hE111
          try dsimp only at hE111
          refine gx_call (kBytes_R b120 w104) (by kernel_rfl) (by kernel_rfl) (kBytes_ok N l82 l100 A83 c84 A101 c102 _ hc119 w104 (St.vwF (hP118.offPA 0 rfl) (hS105.now 0 rfl hf85)) (hP118.vwB 1 rfl)) ?_
          rintro _ w121 ⟨rfl, hT123⟩
          have hS122 : St _ _ w121 [poolE ft91 W92, rowE .u8 5 A101 c102 l100] := hS105.take _ hT123
          cases b120 with
          | true =>
            try dsimp only at hE111
            refine gx_val (.bool false) w121 (by kernel_rfl) (by kernel_rfl) ?_
            refine gx_val (.bool false) w121 (by kernel_rfl) (by kernel_rfl) ?_
            refine gx_nil ?_
            refine gx_thenN ?_
            refine hK114 _ _ ?_
            refine gx_no (by kernel_rfl) ?_
            refine gx_pass ?_
            refine gx_thenN ?_
            exact ⟨(fun i => List.getD ((u45 0) :: (.slice A101 l100.length c102) :: (.tuple #[.slice A83 l82.length c84, .int .i64 x86]) :: (.slice A0 p0.length c0) :: (.slice A1 p1.length c1) :: (.tuple #[.slice A83 l82.length c84, .int .i64 x86]) :: (.slice A83 l82.length c84) :: (.tuple #[.slice A101 l100.length c102, .int .i64 x103]) :: (.slice A0 p0.length c0) :: (.slice A1 p1.length c1) :: (.tuple #[.slice A101 l100.length c102, .int .i64 x103]) :: (.slice A101 l100.length c102) :: (.int .i64 x86) :: (.int .i64 x103) :: (.bool false) :: (.bool false) :: (.slice A83 l82.length c84) :: (.slice A101 l100.length c102) :: (.bool true) :: (.bool false) :: (.bool false) :: []) i undef), by kernel_rfl, (Option.some.inj hE111), (hS122.pick [0] rfl rfl)⟩
          | false =>
            try dsimp only at hE111
            refine gx_val (.bool true) w121 (by kernel_rfl) (by kernel_rfl) ?_
            refine gx_val (.bool true) w121 (by kernel_rfl) (by kernel_rfl) ?_
            refine gx_nil ?_
            refine gx_thenN ?_
            refine hK114 _ _ ?_
            refine gx_yes (by kernel_rfl) ?_
            refine gx_seq (fun K124 hK125 => ?_)
            refine gx_region ?_
            refine gx_val (.bool false) w121 (by kernel_rfl) (by kernel_rfl) ?_
            refine gx_nil ?_
            refine gx_thenN ?_
            refine hK125 _ _ ?_
            refine gx_ret ?_
            refine gx_thenR ?_
            obtain rfl := Option.some.inj hE111
            try dsimp only at hO112
            obtain rfl := Option.some.inj hO112
            exact gx_fin (.bool false) (by kernel_rfl) (by kernel_rfl) ⟨_, rfl, rfl, (hS122.pick [] rfl rfl)⟩
      · rintro _ w107 ⟨u109, rfl, rfl, hS108⟩
        try dsimp only at hO112
        refine gx_seq (fun K126 hK127 => ?_)
        refine gx_seq (fun K128 hK129 => ?_)
        refine gx_region ?_
        refine gx_val (.int .i64 x86) w107 (by kernel_rfl) (by kernel_rfl) ?_
        rcases if_in hO112 with ⟨h130, hO112⟩ | ⟨h130, hO112⟩
        · refine gx_val (.bool true) w107 (by kernel_rfl) (run_boolE (ne_yes h130) (by kernel_rfl)) ?_
          refine gx_nil ?_
          refine gx_thenN ?_
          refine hK129 _ _ ?_
          refine gx_yes (by kernel_rfl) ?_
          refine gx_seq (fun K131 hK132 => ?_)
          refine gx_region ?_
          have hP133 : St _ _ w107 ([] ++ [poolE ft91 W92]) := hS108
          obtain ⟨b135, hc134, hO112⟩ := bind_in hO112
          try dsimp only at hO112
          refine gx_call (hWorks_R b135 w107) (by kernel_rfl) (by kernel_rfl) (hWorks_ok N  _ hc134 w107 ) ?_
          rintro _ w136 ⟨rfl, hT138⟩
          have hS137 : St _ _ w136 [poolE ft91 W92] := hS108.take _ hT138
          refine gx_val (.bool b135) w136 (by kernel_rfl) (by kernel_rfl) ?_
          refine gx_nil ?_
          refine gx_thenN ?_
          refine hK132 _ _ ?_
          refine gx_ret ?_
          refine gx_thenR ?_
          obtain rfl := Option.some.inj hO112
          exact gx_fin (.bool b135) (by kernel_rfl) (by kernel_rfl) ⟨_, rfl, rfl, (hS137.pick [] rfl rfl)⟩
        · refine gx_val (.bool false) w107 (by kernel_rfl) (run_boolE (ne_no h130) (by kernel_rfl)) ?_
          refine gx_nil ?_
          refine gx_thenN ?_
          refine hK129 _ _ ?_
          refine gx_no (by kernel_rfl) ?_
          refine gx_pass ?_
          refine gx_thenN ?_
          refine hK127 _ _ ?_
          refine gx_seq (fun K139 hK140 => ?_)
          refine gx_region ?_
          refine gx_val (.slice A83 l82.length c84) w107 (by kernel_rfl) (by kernel_rfl) ?_
          have hP141 : St _ _ w107 ([] ++ [poolE ft91 W92]) := hS108
          obtain ⟨⟨l143, x148⟩, hc142, hO112⟩ := bind_in hO112
          try dsimp only at hO112
          refine gx_call (sTables_R (l143, x148) w107) (by kernel_rfl) (by kernel_rfl) (sTables_ok N l82 A83 c84 _ hc142 w107 (St.vwF (hP141.offPA 0 rfl) (hS108.now 0 rfl hf85))) ?_
          rintro _ w150 ⟨A144, c145, vs146, ft149, rfl, hT152, hf147⟩
          have hS151 : St _ _ w150 [poolE ft91 W92, rowG 41 6 (.slice A144 l143.length c145) l143.length vs146, poolE ft149 w150] := hS108.take _ hT152
          obtain ⟨ft153, W154, hS155, hT156, hU157⟩ := hS151.merge 2 0 rfl rfl (by decide)
          have hS155 : St _ _ w150 [poolE ft153 W154, rowG 41 6 (.slice A144 l143.length c145) l143.length vs146] := hS155
          have hT156 : Turn [] w0 W92 ft91 W154 ft153 := hT156
          have hf147 : (fEach encsfntTable vs146 l143).rd W154 ft153 := hU157 _ hf147
          refine gx_val (.tuple #[.slice A144 l143.length c145, .int .i64 x148]) w150 (by kernel_rfl) (by kernel_rfl) ?_
          refine gx_val (.slice A144 l143.length c145) w150 (by kernel_rfl) (by kernel_rfl) ?_
          refine gx_val (.int .i64 x148) w150 (by kernel_rfl) (by kernel_rfl) ?_
          refine gx_val (.slice A144 l143.length c145) w150 (by kernel_rfl) (by kernel_rfl) ?_
          refine gx_val (.int .i64 x148) w150 (by kernel_rfl) (by kernel_rfl) ?_
          refine gx_nil ?_
          refine gx_thenN ?_
          refine hK140 _ _ ?_
          obtain ⟨c161, hE162, hO163⟩ := bind_in hO112
          refine gx_cut (fun a w => ∃ (u160 : Nat → Value), a = ⟨((.slice A0 p0.length c0) :: (.slice A1 p1.length c1) :: undef :: undef :: (u160 0) :: (.int .i64 x8) :: (u7 0) :: (.slice A83 l82.length c84) :: (.int .i64 x148) :: (u109 1) :: (.int .i64 x103) :: (.slice A144 l143.length c145) :: undef :: undef :: undef :: (u7 1) :: (u7 2) :: (u7 3) :: (u7 4) :: (u7 5) :: (u7 6) :: (u7 7) :: (u7 8) :: (u7 9) :: (u7 10) :: (u7 11) :: (u7 12) :: (u7 13) :: (u7 14) :: (u7 15) :: (u7 16) :: (u7 17) :: (u7 18) :: (u7 19) :: (u7 20) :: (u7 21) :: (u45 1) :: (u45 2) :: (u45 3) :: (u45 4) :: (u45 5) :: (u45 6) :: (u45 7) :: (u45 8) :: (u45 9) :: (u45 10) :: (u45 11) :: (u45 12) :: (u45 13) :: (u109 2) :: (u109 3) :: (u109 4) :: (u109 5) :: (u109 6) :: (.int .i64 x86) :: (u109 7) :: (u109 8) :: (u109 9) :: (u109 10) :: (u109 11) :: (.int .i64 x103) :: (u109 12) :: (u109 13) :: (u109 14) :: (u109 15) :: (u109 16) :: (u109 17) :: (u109 18) :: (u109 19) :: (u109 20) :: (.int .i64 x86) :: (.bool false) :: undef :: (u160 1) :: (u160 2) :: (u160 3) :: (u160 4) :: (.int .i64 x148) :: (u160 5) :: (u160 6) :: (u160 7) :: (u160 8) :: (u160 9) :: (u160 10) :: (u160 11) :: (u160 12) :: (u160 13) :: undef :: undef :: undef :: undef :: undef :: undef :: undef :: undef :: undef :: undef :: undef :: undef :: undef :: undef :: undef :: undef :: undef :: undef :: undef :: undef :: undef :: undef :: undef :: undef :: undef :: undef :: undef :: undef :: undef :: undef :: undef :: undef :: undef :: undef :: undef :: undef :: undef :: undef :: undef :: undef :: undef :: undef :: undef :: undef :: undef :: undef :: undef :: undef :: undef :: undef :: undef :: undef :: undef :: undef :: undef :: undef :: undef :: undef :: undef :: undef :: undef :: undef :: undef :: undef :: undef :: undef :: undef :: undef :: undef :: undef :: undef :: undef :: undef :: undef :: undef :: undef :: undef :: undef :: undef :: undef :: undef :: undef :: undef :: undef :: []).toArray, []⟩ ∧ Ctl.go () = c161 ∧ St [] w0 w [poolE ft153 W154, rowG 41 6 (.slice A144 l143.length c145) l143.length vs146]) ?_ ?_
          · refine gx_seq (fun K164 hK165 => ?_)
            refine gx_region ?_
            refine gx_val (.int .i64 x148) w150 (by kernel_rfl) (by kernel_rfl) ?_
            rcases if_in hE162 with ⟨h166, hE162⟩ | ⟨h166, hE162⟩
            · refine gx_val (.bool true) w150 (by kernel_rfl) (run_boolE (ne_yes h166) (by kernel_rfl)) ?_
              refine gx_val (.bool true) w150 (by kernel_rfl) (by kernel_rfl) ?_
              refine gx_off (by kernel_rfl) ?_
              refine gx_off (by kernel_rfl) ?_
              refine gx_off (by kernel_rfl) ?_
              refine gx_off (by kernel_rfl) ?_
              refine gx_off (by kernel_rfl) ?_
              refine gx_val (.bool true) w150 (by kernel_rfl) (by kernel_rfl) ?_
              refine gx_nil ?_
              refine gx_thenN ?_
              refine hK165 _ _ ?_
              refine gx_yes (by kernel_rfl) ?_
              refine gx_seq (fun K167 hK168 => ?_)
              refine gx_region ?_
              refine gx_val (.bool false) w150 (by kernel_rfl) (by kernel_rfl) ?_
              refine gx_nil ?_
              refine gx_thenN ?_
              refine hK168 _ _ ?_
              refine gx_ret ?_
              refine gx_thenR ?_
              obtain rfl := Option.some.inj hE162
              try dsimp only at hO163
              obtain rfl := Option.some.inj hO163
              exact gx_fin (.bool false) (by kernel_rfl) (by kernel_rfl) ⟨_, rfl, rfl, (hS155.pick [] rfl rfl)⟩
            · refine gx_val (.bool false) w150 (by kernel_rfl) (run_boolE (ne_no h166) (by kernel_rfl)) ?_
              refine gx_val (.bool false) w150 (by kernel_rfl) (by kernel_rfl) ?_
              refine gx_val (.slice A144 l143.length c145) w150 (by kernel_rfl) (by kernel_rfl) ?_
              refine gx_val (.int .i64 ((l143.length : Nat) : Int)) w150 (by kernel_rfl) (by kernel_rfl) ?_
              refine gx_val (.slice A0 p0.length c0) w150 (by kernel_rfl) (by kernel_rfl) ?_
              refine gx_val (.int .i64 ((p0.length : Nat) : Int)) w150 (by kernel_rfl) (by kernel_rfl) ?_
              rcases if_in hE162 with ⟨h169, hE162⟩ | ⟨h169, hE162⟩
              · refine gx_val (.bool true) w150 (by kernel_rfl) (run_boolE (ne_yes h169) (by kernel_rfl)) ?_
                refine gx_val (.bool true) w150 (by kernel_rfl) (by kernel_rfl) ?_
                refine gx_nil ?_
                refine gx_thenN ?_
                refine hK165 _ _ ?_
                refine gx_yes (by kernel_rfl) ?_
                refine gx_seq (fun K170 hK171 => ?_)
                refine gx_region ?_
                refine gx_val (.bool false) w150 (by kernel_rfl) (by kernel_rfl) ?_
                refine gx_nil ?_
                refine gx_thenN ?_
                refine hK171 _ _ ?_
                refine gx_ret ?_
                refine gx_thenR ?_
                obtain rfl := Option.some.inj hE162
                try dsimp only at hO163
                obtain rfl := Option.some.inj hO163
                exact gx_fin (.bool false) (by kernel_rfl) (by kernel_rfl) ⟨_, rfl, rfl, (hS155.pick [] rfl rfl)⟩
              · refine gx_val (.bool false) w150 (by kernel_rfl) (run_boolE (ne_no h169) (by kernel_rfl)) ?_
                refine gx_val (.bool false) w150 (by kernel_rfl) (by kernel_rfl) ?_
                refine gx_nil ?_
                refine gx_thenN ?_
                refine hK165 _ _ ?_
                refine gx_no (by kernel_rfl) ?_
                refine gx_pass ?_
                refine gx_thenN ?_
                exact ⟨(fun i => List.getD ((u109 0) :: (.tuple #[.slice A144 l143.length c145, .int .i64 x148]) :: (.slice A83 l82.length c84) :: (.tuple #[.slice A144 l143.length c145, .int .i64 x148]) :: (.slice A144 l143.length c145) :: (.int .i64 x148) :: (.bool false) :: (.bool false) :: (.slice A144 l143.length c145) :: (.int .i64 ((l143.length : Nat) : Int)) :: (.slice A0 p0.length c0) :: (.int .i64 ((p0.length : Nat) : Int)) :: (.bool false) :: (.bool false) :: []) i undef), by kernel_rfl, (Option.some.inj hE162), hS155⟩
          · rintro _ w158 ⟨u160, rfl, rfl, hS159⟩
            try dsimp only at hO163
            obtain ⟨c175, hE176, hO177⟩ := bind_in hO163
            refine gx_cut (fun a w => ∃ (u174 : Nat → Value), a = ⟨((u174 0) :: (u174 1) :: undef :: undef :: (u174 2) :: (.int .i64 x8) :: (u7 0) :: (u174 3) :: (.int .i64 x148) :: (u109 1) :: (.int .i64 x103) :: (u174 4) :: (u174 5) :: (u174 6) :: (u174 7) :: (u7 1) :: (u7 2) :: (u7 3) :: (u7 4) :: (u7 5) :: (u7 6) :: (u7 7) :: (u7 8) :: (u7 9) :: (u7 10) :: (u7 11) :: (u7 12) :: (u7 13) :: (u7 14) :: (u7 15) :: (u7 16) :: (u7 17) :: (u7 18) :: (u7 19) :: (u7 20) :: (u7 21) :: (u45 1) :: (u45 2) :: (u45 3) :: (u45 4) :: (u45 5) :: (u45 6) :: (u45 7) :: (u45 8) :: (u45 9) :: (u45 10) :: (u45 11) :: (u45 12) :: (u45 13) :: (u109 2) :: (u109 3) :: (u109 4) :: (u109 5) :: (u109 6) :: (.int .i64 x86) :: (u109 7) :: (u109 8) :: (u109 9) :: (u109 10) :: (u109 11) :: (.int .i64 x103) :: (u109 12) :: (u109 13) :: (u109 14) :: (u109 15) :: (u109 16) :: (u109 17) :: (u109 18) :: (u109 19) :: (u109 20) :: (.int .i64 x86) :: (.bool false) :: undef :: (u160 1) :: (u160 2) :: (u160 3) :: (u160 4) :: (.int .i64 x148) :: (u160 5) :: (u160 6) :: (u160 7) :: (u160 8) :: (u160 9) :: (u160 10) :: (u160 11) :: (u160 12) :: (u160 13) :: (u174 8) :: (u174 9) :: (u174 10) :: (u174 11) :: (u174 12) :: (u174 13) :: (u174 14) :: (u174 15) :: (u174 16) :: (u174 17) :: (u174 18) :: (u174 19) :: (u174 20) :: (u174 21) :: (u174 22) :: (u174 23) :: (u174 24) :: (u174 25) :: (u174 26) :: (u174 27) :: (u174 28) :: (u174 29) :: (u174 30) :: (u174 31) :: (u174 32) :: (u174 33) :: (u174 34) :: (u174 35) :: (u174 36) :: (u174 37) :: (u174 38) :: (u174 39) :: (u174 40) :: (u174 41) :: (u174 42) :: (u174 43) :: (u174 44) :: (u174 45) :: (u174 46) :: (u174 47) :: (u174 48) :: (u174 49) :: (u174 50) :: (u174 51) :: (u174 52) :: (u174 53) :: (u174 54) :: (u174 55) :: (u174 56) :: (u174 57) :: (u174 58) :: (u174 59) :: (u174 60) :: (u174 61) :: (u174 62) :: (u174 63) :: (u174 64) :: (u174 65) :: (u174 66) :: (u174 67) :: (u174 68) :: (u174 69) :: (u174 70) :: (u174 71) :: (u174 72) :: (u174 73) :: (u174 74) :: (u174 75) :: (u174 76) :: (u174 77) :: (u174 78) :: (u174 79) :: (u174 80) :: (u174 81) :: (u174 82) :: (u174 83) :: (u174 84) :: (u174 85) :: (u174 86) :: (u174 87) :: (u174 88) :: (u174 89) :: (u174 90) :: undef :: []).toArray, []⟩ ∧ Ctl.go () = c175 ∧ St [] w0 w [poolE ft153 W154]) ?_ ?_
            · refine gx_seq (fun K178 hK179 => ?_)
              refine gx_region ?_
              refine gx_val (.int .i64 0) w158 (by kernel_rfl) (by kernel_rfl) ?_
              refine gx_nil ?_
              refine gx_thenN ?_
              refine hK179 _ _ ?_
              refine gx_block ?_
              refine gx_loop (fun k a w => ∃ (x183 : Int) (u182 : Nat → Value), a = ⟨((.slice A0 p0.length c0) :: (.slice A1 p1.length c1) :: undef :: undef :: (u182 0) :: (.int .i64 x8) :: (u7 0) :: (.slice A83 l82.length c84) :: (.int .i64 x148) :: (u109 1) :: (.int .i64 x103) :: (.slice A144 l143.length c145) :: (.int .i64 x183) :: (u182 1) :: (u182 2) :: (u7 1) :: (u7 2) :: (u7 3) :: (u7 4) :: (u7 5) :: (u7 6) :: (u7 7) :: (u7 8) :: (u7 9) :: (u7 10) :: (u7 11) :: (u7 12) :: (u7 13) :: (u7 14) :: (u7 15) :: (u7 16) :: (u7 17) :: (u7 18) :: (u7 19) :: (u7 20) :: (u7 21) :: (u45 1) :: (u45 2) :: (u45 3) :: (u45 4) :: (u45 5) :: (u45 6) :: (u45 7) :: (u45 8) :: (u45 9) :: (u45 10) :: (u45 11) :: (u45 12) :: (u45 13) :: (u109 2) :: (u109 3) :: (u109 4) :: (u109 5) :: (u109 6) :: (.int .i64 x86) :: (u109 7) :: (u109 8) :: (u109 9) :: (u109 10) :: (u109 11) :: (.int .i64 x103) :: (u109 12) :: (u109 13) :: (u109 14) :: (u109 15) :: (u109 16) :: (u109 17) :: (u109 18) :: (u109 19) :: (u109 20) :: (.int .i64 x86) :: (.bool false) :: undef :: (u160 1) :: (u160 2) :: (u160 3) :: (u160 4) :: (.int .i64 x148) :: (u160 5) :: (u160 6) :: (u160 7) :: (u160 8) :: (u160 9) :: (u160 10) :: (u160 11) :: (u160 12) :: (u160 13) :: (u182 3) :: (u182 4) :: (u182 5) :: (u182 6) :: (u182 7) :: (u182 8) :: (u182 9) :: (u182 10) :: (u182 11) :: (u182 12) :: (u182 13) :: (u182 14) :: (u182 15) :: (u182 16) :: (u182 17) :: (u182 18) :: (u182 19) :: (u182 20) :: (u182 21) :: (u182 22) :: (u182 23) :: (u182 24) :: (u182 25) :: (u182 26) :: (u182 27) :: (u182 28) :: (u182 29) :: (u182 30) :: (u182 31) :: (u182 32) :: (u182 33) :: (u182 34) :: (u182 35) :: (u182 36) :: (u182 37) :: (u182 38) :: (u182 39) :: (u182 40) :: (u182 41) :: (u182 42) :: (u182 43) :: (u182 44) :: (u182 45) :: (u182 46) :: (u182 47) :: (u182 48) :: (u182 49) :: (u182 50) :: (u182 51) :: (u182 52) :: (u182 53) :: (u182 54) :: (u182 55) :: (u182 56) :: (u182 57) :: (u182 58) :: (u182 59) :: (u182 60) :: (u182 61) :: (u182 62) :: (u182 63) :: (u182 64) :: (u182 65) :: (u182 66) :: (u182 67) :: (u182 68) :: (u182 69) :: (u182 70) :: (u182 71) :: (u182 72) :: (u182 73) :: (u182 74) :: (u182 75) :: (u182 76) :: (u182 77) :: (u182 78) :: (u182 79) :: (u182 80) :: (u182 81) :: (u182 82) :: (u182 83) :: (u182 84) :: (u182 85) :: undef :: []).toArray, []⟩ ∧ fJoins_L2 N p0 p1 l82 l143 k x183 = some c175 ∧ St [] w0 w [poolE ft153 W154, rowG 41 6 (.slice A144 l143.length c145) l143.length vs146]) N ?_ ?_
              · exact ⟨0, (fun i => List.getD ((u160 0) :: undef :: undef :: undef :: undef :: undef :: undef :: undef :: undef :: undef :: undef :: undef :: undef :: undef :: undef :: undef :: undef :: undef :: undef :: undef :: undef :: undef :: undef :: undef :: undef :: undef :: undef :: undef :: undef :: undef :: undef :: undef :: undef :: undef :: undef :: undef :: undef :: undef :: undef :: undef :: undef :: undef :: undef :: undef :: undef :: undef :: undef :: undef :: undef :: undef :: undef :: undef :: undef :: undef :: undef :: undef :: undef :: undef :: undef :: undef :: undef :: undef :: undef :: undef :: undef :: undef :: undef :: undef :: undef :: undef :: undef :: undef :: undef :: undef :: undef :: undef :: undef :: undef :: undef :: undef :: undef :: undef :: undef :: undef :: undef :: undef :: []) i undef), by kernel_rfl, hE176, hS159⟩
              · rintro k184 _ w180 ⟨x183, u182, rfl, hL185, hS181⟩
                cases k184 with
                | zero => cases hL185
                | succ k184 =>
                  rw [fJoins_L2] at hL185
                  refine gx_seq (fun K186 hK187 => ?_)
                  refine gx_seq (fun K188 hK189 => ?_)
                  refine gx_region ?_
                  refine gx_val (.int .i64 x183) w180 (by kernel_rfl) (by kernel_rfl) ?_
                  refine gx_val (.slice A144 l143.length c145) w180 (by kernel_rfl) (by kernel_rfl) ?_
                  refine gx_val (.int .i64 ((l143.length : Nat) : Int)) w180 (by kernel_rfl) (by kernel_rfl) ?_
                  rcases if_in hL185 with ⟨h190, hL185⟩ | ⟨h190, hL185⟩
                  · refine gx_val (.bool true) w180 (by kernel_rfl) (run_boolE (decide_eq_true h190) (by kernel_rfl)) ?_
                    refine gx_nil ?_
                    refine gx_thenN ?_
                    refine hK189 _ _ ?_
                    refine gx_yes (by kernel_rfl) ?_
                    refine gx_pass ?_
                    refine gx_thenN ?_
                    refine hK187 _ _ ?_
                    obtain ⟨c194, hE195, hO196⟩ := bind_in hL185
                    refine gx_cut (fun a w => ∃ (u193 : Nat → Value), a = ⟨((.slice A0 p0.length c0) :: (.slice A1 p1.length c1) :: undef :: undef :: (u193 0) :: (.int .i64 x8) :: (u7 0) :: (.slice A83 l82.length c84) :: (.int .i64 x148) :: (u109 1) :: (.int .i64 x103) :: (.slice A144 l143.length c145) :: (.int .i64 x183) :: (u193 1) :: (u193 2) :: (u7 1) :: (u7 2) :: (u7 3) :: (u7 4) :: (u7 5) :: (u7 6) :: (u7 7) :: (u7 8) :: (u7 9) :: (u7 10) :: (u7 11) :: (u7 12) :: (u7 13) :: (u7 14) :: (u7 15) :: (u7 16) :: (u7 17) :: (u7 18) :: (u7 19) :: (u7 20) :: (u7 21) :: (u45 1) :: (u45 2) :: (u45 3) :: (u45 4) :: (u45 5) :: (u45 6) :: (u45 7) :: (u45 8) :: (u45 9) :: (u45 10) :: (u45 11) :: (u45 12) :: (u45 13) :: (u109 2) :: (u109 3) :: (u109 4) :: (u109 5) :: (u109 6) :: (.int .i64 x86) :: (u109 7) :: (u109 8) :: (u109 9) :: (u109 10) :: (u109 11) :: (.int .i64 x103) :: (u109 12) :: (u109 13) :: (u109 14) :: (u109 15) :: (u109 16) :: (u109 17) :: (u109 18) :: (u109 19) :: (u109 20) :: (.int .i64 x86) :: (.bool false) :: undef :: (u160 1) :: (u160 2) :: (u160 3) :: (u160 4) :: (.int .i64 x148) :: (u160 5) :: (u160 6) :: (u160 7) :: (u160 8) :: (u160 9) :: (u160 10) :: (u160 11) :: (u160 12) :: (u160 13) :: (.int .i64 x183) :: (u193 3) :: (.int .i64 ((l143.length : Nat) : Int)) :: (.bool true) :: (u182 7) :: (u182 8) :: (u193 4) :: (u193 5) :: (u193 6) :: (u193 7) :: (u193 8) :: (u193 9) :: (u193 10) :: (u193 11) :: (u193 12) :: (u193 13) :: (u193 14) :: (u193 15) :: (u193 16) :: (u193 17) :: (u193 18) :: (u193 19) :: (u193 20) :: (u193 21) :: (u193 22) :: (u193 23) :: (u193 24) :: (u193 25) :: (u193 26) :: (u193 27) :: (u193 28) :: (u193 29) :: (u193 30) :: (u193 31) :: (u193 32) :: (u193 33) :: (u193 34) :: (u193 35) :: (u193 36) :: (u193 37) :: (u193 38) :: (u193 39) :: (u193 40) :: (u193 41) :: (u193 42) :: (u193 43) :: (u193 44) :: (u193 45) :: (u193 46) :: (u193 47) :: (u193 48) :: (u193 49) :: (u193 50) :: (u193 51) :: (u193 52) :: (u193 53) :: (u193 54) :: (u193 55) :: (u193 56) :: (u193 57) :: (u193 58) :: (u193 59) :: (u193 60) :: (u193 61) :: (u193 62) :: (u193 63) :: (u193 64) :: (u193 65) :: (u193 66) :: (u193 67) :: (u193 68) :: (u193 69) :: (u193 70) :: (u193 71) :: (u193 72) :: (u193 73) :: (u193 74) :: (u193 75) :: (u193 76) :: (u193 77) :: (u193 78) :: (u193 79) :: (u193 80) :: undef :: []).toArray, []⟩ ∧ Ctl.go () = c194 ∧ St [] w0 w [poolE ft153 W154, rowG 41 6 (.slice A144 l143.length c145) l143.length vs146]) ?_ ?_
                    · refine gx_block ?_
                      refine gx_seq (fun K197 hK198 => ?_)
                      refine gx_region ?_
                      refine gx_val (.slice A144 l143.length c145) w180 (by kernel_rfl) (by kernel_rfl) ?_
                      refine gx_val (.int .i64 x183) w180 (by kernel_rfl) (by kernel_rfl) ?_
                      obtain ⟨x199, hx200, hE195⟩ := bind_in hE195
                      obtain ⟨g201, o202, e203, hA204, he205, h206, ha207⟩ := elem_at (e := encsfntTable) (rowG_lies (e := encsfntTable) rfl (hS181.get 1 rfl)) hf147 hx200 (by decide)
                      obtain ⟨e208, e209, rfl, h210, h211⟩ := h206
                      obtain ⟨e212, e213, rfl, h214, h215⟩ := h210
                      obtain rfl := h214
                      obtain ⟨e216, e217, rfl, h218, h219⟩ := h215
                      obtain rfl := h218
                      obtain ⟨e220, e221, rfl, h222, h223⟩ := h219
                      obtain rfl := h222
                      obtain rfl := h223
                      obtain ⟨e224, e225, rfl, h226, h227⟩ := h211
                      obtain rfl := h226
                      obtain rfl := h227
                      have ha207 : ∀ w', Lies w' A144 vs146 → w'.rangeAt g201 o202 [.int .u8 x199.1.1, .int .u8 x199.1.2.1, .int .u8 x199.1.2.2.1, .int .u8 x199.1.2.2.2, .int .i64 x199.2.1, .int .i64 x199.2.2] := ha207
                      refine gx_val (.pointer (some ⟨g201, o202, none⟩)) w180 (by kernel_rfl) (run_ixaddrN (E := 41) (s := 6) (k := .i64) (c := c145) rfl (by kernel_rfl) (by kernel_rfl) (by kernel_rfl) (fun _ => by kernel_rfl) (ixg_in hx200).1 (ixg_in hx200).2.1 hA204) ?_
                      refine gx_val (.agg #[.int .u8 x199.1.1, .int .u8 x199.1.2.1, .int .u8 x199.1.2.2.1, .int .u8 x199.1.2.2.2, .int .i64 x199.2.1, .int .i64 x199.2.2]) w180 (by kernel_rfl) (run_loadNG (d := _) (ec := [.int .u8 x199.1.1, .int .u8 x199.1.2.1, .int .u8 x199.1.2.2.1, .int .u8 x199.1.2.2.2, .int .i64 x199.2.1, .int .i64 x199.2.2]) rfl (by kernel_rfl) (ha207 _ (rowG_lies (e := encsfntTable) rfl (hS181.get 1 rfl))) rfl rfl (by kernel_rfl)) ?_
                      refine gx_R (by kernel_rfl) (st_boxed [.int .u8 0, .int .u8 0, .int .u8 0, .int .u8 0, .int .i64 0, .int .i64 0] 41 hS181 (by kernel_rfl)) ?_
                      rintro _ w228 ⟨rfl, hS229⟩
                      have hS229 : St _ _ w228 [poolE ft153 W154, rowG 41 6 (.slice A144 l143.length c145) l143.length vs146, boxE w180.heap.size [.int .u8 0, .int .u8 0, .int .u8 0, .int .u8 0, .int .i64 0, .int .i64 0] 41] := hS229
                      refine gx_S (by kernel_rfl) (st_storeG (cs := [.int .u8 0, .int .u8 0, .int .u8 0, .int .u8 0, .int .i64 0, .int .i64 0]) (ds := [.int .u8 x199.1.1, .int .u8 x199.1.2.1, .int .u8 x199.1.2.2.1, .int .u8 x199.1.2.2.2, .int .i64 x199.2.1, .int .i64 x199.2.2]) rfl (by kernel_rfl) (by kernel_rfl) (by kernel_rfl) rfl rfl hS229 2 rfl) ?_
                      rintro w230 hS231
                      have hS231 : St _ _ w230 [poolE ft153 W154, rowG 41 6 (.slice A144 l143.length c145) l143.length vs146, boxE w180.heap.size [.int .u8 x199.1.1, .int .u8 x199.1.2.1, .int .u8 x199.1.2.2.1, .int .u8 x199.1.2.2.2, .int .i64 x199.2.1, .int .i64 x199.2.2] 41] := hS231
                      refine gx_nil ?_
                      refine gx_thenN ?_
                      refine hK198 _ _ ?_
                      obtain ⟨c235, hE236, hO237⟩ := bind_in hE195
                      refine gx_cut (fun a w => ∃ (u234 : Nat → Value), a = ⟨((.slice A0 p0.length c0) :: (.slice A1 p1.length c1) :: undef :: undef :: (u234 0) :: (.int .i64 x8) :: (u7 0) :: (.slice A83 l82.length c84) :: (.int .i64 x148) :: (u109 1) :: (.int .i64 x103) :: (.slice A144 l143.length c145) :: (.int .i64 x183) :: (.pointer (some ⟨w180.heap.size, 0, none⟩)) :: (u182 2) :: (u7 1) :: (u7 2) :: (u7 3) :: (u7 4) :: (u7 5) :: (u7 6) :: (u7 7) :: (u7 8) :: (u7 9) :: (u7 10) :: (u7 11) :: (u7 12) :: (u7 13) :: (u7 14) :: (u7 15) :: (u7 16) :: (u7 17) :: (u7 18) :: (u7 19) :: (u7 20) :: (u7 21) :: (u45 1) :: (u45 2) :: (u45 3) :: (u45 4) :: (u45 5) :: (u45 6) :: (u45 7) :: (u45 8) :: (u45 9) :: (u45 10) :: (u45 11) :: (u45 12) :: (u45 13) :: (u109 2) :: (u109 3) :: (u109 4) :: (u109 5) :: (u109 6) :: (.int .i64 x86) :: (u109 7) :: (u109 8) :: (u109 9) :: (u109 10) :: (u109 11) :: (.int .i64 x103) :: (u109 12) :: (u109 13) :: (u109 14) :: (u109 15) :: (u109 16) :: (u109 17) :: (u109 18) :: (u109 19) :: (u109 20) :: (.int .i64 x86) :: (.bool false) :: undef :: (u160 1) :: (u160 2) :: (u160 3) :: (u160 4) :: (.int .i64 x148) :: (u160 5) :: (u160 6) :: (u160 7) :: (u160 8) :: (u160 9) :: (u160 10) :: (u160 11) :: (u160 12) :: (u160 13) :: (.int .i64 x183) :: (u234 1) :: (.int .i64 ((l143.length : Nat) : Int)) :: (.bool true) :: (u182 7) :: (u182 8) :: (u234 2) :: (.int .i64 x183) :: (u234 3) :: (u234 4) :: (u234 5) :: (u234 6) :: (u234 7) :: (u234 8) :: (u234 9) :: (u234 10) :: (u234 11) :: (u234 12) :: (u234 13) :: (u234 14) :: (u234 15) :: (u234 16) :: (u234 17) :: (u234 18) :: (u234 19) :: (u234 20) :: (u234 21) :: (u234 22) :: (u234 23) :: (u234 24) :: (u234 25) :: (u234 26) :: (u234 27) :: (u234 28) :: (u234 29) :: (u234 30) :: (u234 31) :: (u234 32) :: (u234 33) :: (u234 34) :: (u234 35) :: (u234 36) :: (u182 45) :: (u182 46) :: (u182 47) :: (u182 48) :: (u182 49) :: (u182 50) :: (u182 51) :: (u182 52) :: (u182 53) :: (u182 54) :: (u182 55) :: (u182 56) :: (u182 57) :: (u182 58) :: (u182 59) :: (u182 60) :: (u182 61) :: (u182 62) :: (u182 63) :: (u182 64) :: (u182 65) :: (u182 66) :: (u182 67) :: (u182 68) :: (u182 69) :: (u182 70) :: (u182 71) :: (u182 72) :: (u182 73) :: (u182 74) :: (u182 75) :: (u182 76) :: (u182 77) :: (u182 78) :: (u182 79) :: (u182 80) :: (u182 81) :: (u182 82) :: (u182 83) :: (u182 84) :: (u182 85) :: undef :: []).toArray, []⟩ ∧ Ctl.go () = c235 ∧ St [] w0 w [poolE ft153 W154, boxE w180.heap.size [.int .u8 x199.1.1, .int .u8 x199.1.2.1, .int .u8 x199.1.2.2.1, .int .u8 x199.1.2.2.2, .int .i64 x199.2.1, .int .i64 x199.2.2] 41, rowG 41 6 (.slice A144 l143.length c145) l143.length vs146]) ?_ ?_
                      · refine gx_seq (fun K238 hK239 => ?_)
                        refine gd_start (fun w => St [] w0 w [poolE ft153 W154, rowG 41 6 (.slice A144 l143.length c145) l143.length vs146, boxE w180.heap.size [.int .u8 x199.1.1, .int .u8 x199.1.2.1, .int .u8 x199.1.2.2.1, .int .u8 x199.1.2.2.2, .int .i64 x199.2.1, .int .i64 x199.2.2] 41]) 32 #[false, false, false, false, false, false, false, false, false, false, false, false, false, false, false, false, false, false, false, false, false, false, false, false, false, false, false, false, false, false, false, false] (by kernel_rfl) (by kernel_rfl) ?_
                        have hS241 := hS231.drew
                        generalize w230.drew = w240 at hS241 ⊢
                        refine gd1 0 { dst := some 97, op := _, type := _, pos := _, after := _, guard := _ } (.pointer (some ⟨w180.heap.size, 0, none⟩)) rfl hS241 (fun w hSw => by kernel_rfl) ?_
                        refine gd1 1 { dst := some 98, op := _, type := _, pos := _, after := _, guard := _ } (.agg #[.int .u8 x199.1.1, .int .u8 x199.1.2.1, .int .u8 x199.1.2.2.1, .int .u8 x199.1.2.2.2]) rfl hS241 (fun w hSw => run_loadNG (d := _) (ec := [.int .u8 x199.1.1, .int .u8 x199.1.2.1, .int .u8 x199.1.2.2.1, .int .u8 x199.1.2.2.2]) rfl (by kernel_rfl) (range_sub (range_box (hSw.get 2 rfl)) 0 4) rfl rfl (by kernel_rfl)) ?_
                        refine gd1 2 { dst := some 99, op := _, type := _, pos := _, after := _, guard := _ } (.slice A0 p0.length c0) rfl hS241 (fun w hSw => by kernel_rfl) ?_
                        refine gd1 3 { dst := some 100, op := _, type := _, pos := _, after := _, guard := _ } (.int .i64 x183) rfl hS241 (fun w hSw => by kernel_rfl) ?_
                        obtain ⟨x242, hx243, hE236⟩ := bind_in hE236
                        obtain ⟨g244, o245, e246, hA247, he248, h249, ha250⟩ := elem_at (e := encapiTag) (sl_lies (hS241.inn ho0 hv0)) (sl_each hv0) hx243 (by decide)
                        obtain ⟨e251, e252, rfl, h253, h254⟩ := h249
                        obtain rfl := h253
                        obtain ⟨e255, e256, rfl, h257, h258⟩ := h254
                        obtain rfl := h257
                        obtain ⟨e259, e260, rfl, h261, h262⟩ := h258
                        obtain rfl := h261
                        obtain rfl := h262
                        have ha250 : ∀ w', Lies w' A0 vs0 → w'.rangeAt g244 o245 [.int .u8 x242.1, .int .u8 x242.2.1, .int .u8 x242.2.2.1, .int .u8 x242.2.2.2] := ha250
                        refine gd1 4 { dst := some 101, op := _, type := _, pos := _, after := _, guard := _ } (.pointer (some ⟨g244, o245, none⟩)) rfl hS241 (fun w hSw => run_ixaddrN (E := 39) (s := 4) (k := .i64) (c := c0) rfl (by kernel_rfl) (by kernel_rfl) (by kernel_rfl) (fun _ => by kernel_rfl) (ixg_in hx243).1 (ixg_in hx243).2.1 hA247) ?_
                        refine gd1 5 { dst := some 102, op := _, type := _, pos := _, after := _, guard := _ } (.agg #[.int .u8 x242.1, .int .u8 x242.2.1, .int .u8 x242.2.2.1, .int .u8 x242.2.2.2]) rfl hS241 (fun w hSw => run_loadNG (d := _) (ec := [.int .u8 x242.1, .int .u8 x242.2.1, .int .u8 x242.2.2.1, .int .u8 x242.2.2.2]) rfl (by kernel_rfl) (ha250 _ (sl_lies (hSw.inn ho0 hv0))) rfl rfl (by kernel_rfl)) ?_
                        obtain ⟨b263, h264, hE236⟩ := bind_in hE236
                        refine gd1 6 { dst := some 103, op := _, type := _, pos := _, after := _, guard := _ } (.bool b263) rfl hS241 (fun w hSw => run_neTag' (x := (x199.1.1, x199.1.2.1, x199.1.2.2.1, x199.1.2.2.2)) (y := (x242.1, x242.2.1, x242.2.2.1, x242.2.2.2)) rfl (by kernel_rfl) (by kernel_rfl) h264) ?_
                        refine gd1 7 { dst := some 104, op := _, type := _, pos := _, after := _, guard := _ } (.bool b263) rfl hS241 (fun w hSw => by kernel_rfl) ?_
                        cases b263 with
                        | true =>
                          try dsimp only at hE236
                          refine gd0 8 { dst := some 105, op := _, type := _, pos := _, after := _, guard := _ } rfl hS241 ?_
                          refine gd0 9 { dst := some 106, op := _, type := _, pos := _, after := _, guard := _ } rfl hS241 ?_
                          refine gd0 10 { dst := some 107, op := _, type := _, pos := _, after := _, guard := _ } rfl hS241 ?_
                          refine gd1 11 { dst := some 108, op := _, type := _, pos := _, after := _, guard := _ } (.bool true) rfl hS241 (fun w hSw => by kernel_rfl) ?_
                          refine gd1 12 { dst := some 109, op := _, type := _, pos := _, after := _, guard := _ } (.bool true) rfl hS241 (fun w hSw => by kernel_rfl) ?_
                          refine gd0 13 { dst := some 110, op := _, type := _, pos := _, after := _, guard := _ } rfl hS241 ?_
                          refine gd0 14 { dst := some 111, op := _, type := _, pos := _, after := _, guard := _ } rfl hS241 ?_
                          refine gd0 15 { dst := some 112, op := _, type := _, pos := _, after := _, guard := _ } rfl hS241 ?_
                          refine gd0 16 { dst := some 113, op := _, type := _, pos := _, after := _, guard := _ } rfl hS241 ?_
                          refine gd0 17 { dst := some 114, op := _, type := _, pos := _, after := _, guard := _ } rfl hS241 ?_
                          refine gd0 18 { dst := some 115, op := _, type := _, pos := _, after := _, guard := _ } rfl hS241 ?_
                          refine gd0 19 { dst := some 116, op := _, type := _, pos := _, after := _, guard := _ } rfl hS241 ?_
                          refine gd0 20 { dst := some 117, op := _, type := _, pos := _, after := _, guard := _ } rfl hS241 ?_
                          refine gd1 21 { dst := some 118, op := _, type := _, pos := _, after := _, guard := _ } (.bool true) rfl hS241 (fun w hSw => by kernel_rfl) ?_
                          refine gd1 22 { dst := some 119, op := _, type := _, pos := _, after := _, guard := _ } (.bool true) rfl hS241 (fun w hSw => by kernel_rfl) ?_
                          refine gd0 23 { dst := some 120, op := _, type := _, pos := _, after := _, guard := _ } rfl hS241 ?_
                          refine gd0 24 { dst := some 121, op := _, type := _, pos := _, after := _, guard := _ } rfl hS241 ?_
                          refine gd0 25 { dst := some 122, op := _, type := _, pos := _, after := _, guard := _ } rfl hS241 ?_
                          refine gd0 26 { dst := some 123, op := _, type := _, pos := _, after := _, guard := _ } rfl hS241 ?_
                          refine gd0 27 { dst := some 124, op := _, type := _, pos := _, after := _, guard := _ } rfl hS241 ?_
                          refine gd0 28 { dst := some 125, op := _, type := _, pos := _, after := _, guard := _ } rfl hS241 ?_
                          refine gd0 29 { dst := some 126, op := _, type := _, pos := _, after := _, guard := _ } rfl hS241 ?_
                          refine gd0 30 { dst := some 127, op := _, type := _, pos := _, after := _, guard := _ } rfl hS241 ?_
                          refine gd1 31 { dst := some 128, op := _, type := _, pos := _, after := _, guard := _ } (.bool true) rfl hS241 (fun w hSw => by kernel_rfl) ?_
                          refine gd_done (by kernel_rfl) ?_
                          refine gx_thenN ?_
                          refine hK239 _ _ ?_
                          refine gx_yes (by kernel_rfl) ?_
                          refine gx_seq (fun K265 hK266 => ?_)
                          refine gx_region ?_
                          refine gx_val (.bool false) w240 (by kernel_rfl) (by kernel_rfl) ?_
                          refine gx_nil ?_
                          refine gx_thenN ?_
                          refine hK266 _ _ ?_
                          refine gx_ret ?_
                          refine gx_thenR ?_
                          obtain rfl := Option.some.inj hE236
                          try dsimp only at hO237
                          refine gx_blkR ?_
                          refine gx_thenR ?_
                          obtain rfl := Option.some.inj hO237
                          try dsimp only at hO196
                          refine gx_thenR ?_
                          refine gx_blkR ?_
                          refine gx_thenR ?_
                          obtain rfl := Option.some.inj hO196
                          try dsimp only at hO177
                          obtain rfl := Option.some.inj hO177
                          exact gx_fin (.bool false) (by kernel_rfl) (by kernel_rfl) ⟨_, rfl, rfl, (hS241.pick [] rfl rfl)⟩
                        | false =>
                          try dsimp only at hE236
                          refine gd1 8 { dst := some 105, op := _, type := _, pos := _, after := _, guard := _ } (.pointer (some ⟨w180.heap.size, 4, none⟩)) rfl hS241 (fun w hSw => by kernel_rfl) ?_
                          refine gd1 9 { dst := some 106, op := _, type := _, pos := _, after := _, guard := _ } (.int .i64 x199.2.1) rfl hS241 (fun w hSw => run_load1 rfl (by kernel_rfl) (fun _ => by kernel_rfl) (hSw.box 2 rfl 4 rfl)) ?_
                          rcases if_in hE236 with ⟨h267, hE236⟩ | ⟨h267, hE236⟩
                          · refine gd1 10 { dst := some 107, op := _, type := _, pos := _, after := _, guard := _ } (.bool true) rfl hS241 (fun w hSw => run_boolE (decide_eq_true h267) (by kernel_rfl)) ?_
                            refine gd1 11 { dst := some 108, op := _, type := _, pos := _, after := _, guard := _ } (.bool true) rfl hS241 (fun w hSw => by kernel_rfl) ?_
                            refine gd1 12 { dst := some 109, op := _, type := _, pos := _, after := _, guard := _ } (.bool true) rfl hS241 (fun w hSw => by kernel_rfl) ?_
                            refine gd0 13 { dst := some 110, op := _, type := _, pos := _, after := _, guard := _ } rfl hS241 ?_
                            refine gd0 14 { dst := some 111, op := _, type := _, pos := _, after := _, guard := _ } rfl hS241 ?_
                            refine gd0 15 { dst := some 112, op := _, type := _, pos := _, after := _, guard := _ } rfl hS241 ?_
                            refine gd0 16 { dst := some 113, op := _, type := _, pos := _, after := _, guard := _ } rfl hS241 ?_
                            refine gd0 17 { dst := some 114, op := _, type := _, pos := _, after := _, guard := _ } rfl hS241 ?_
                            refine gd0 18 { dst := some 115, op := _, type := _, pos := _, after := _, guard := _ } rfl hS241 ?_
                            refine gd0 19 { dst := some 116, op := _, type := _, pos := _, after := _, guard := _ } rfl hS241 ?_
                            refine gd0 20 { dst := some 117, op := _, type := _, pos := _, after := _, guard := _ } rfl hS241 ?_
                            refine gd1 21 { dst := some 118, op := _, type := _, pos := _, after := _, guard := _ } (.bool true) rfl hS241 (fun w hSw => by kernel_rfl) ?_
                            refine gd1 22 { dst := some 119, op := _, type := _, pos := _, after := _, guard := _ } (.bool true) rfl hS241 (fun w hSw => by kernel_rfl) ?_
                            refine gd0 23 { dst := some 120, op := _, type := _, pos := _, after := _, guard := _ } rfl hS241 ?_
                            refine gd0 24 { dst := some 121, op := _, type := _, pos := _, after := _, guard := _ } rfl hS241 ?_
                            refine gd0 25 { dst := some 122, op := _, type := _, pos := _, after := _, guard := _ } rfl hS241 ?_
                            refine gd0 26 { dst := some 123, op := _, type := _, pos := _, after := _, guard := _ } rfl hS241 ?_
                            refine gd0 27 { dst := some 124, op := _, type := _, pos := _, after := _, guard := _ } rfl hS241 ?_
                            refine gd0 28 { dst := some 125, op := _, type := _, pos := _, after := _, guard := _ } rfl hS241 ?_
                            refine gd0 29 { dst := some 126, op := _, type := _, pos := _, after := _, guard := _ } rfl hS241 ?_
                            refine gd0 30 { dst := some 127, op := _, type := _, pos := _, after := _, guard := _ } rfl hS241 ?_
                            refine gd1 31 { dst := some 128, op := _, type := _, pos := _, after := _, guard := _ } (.bool true) rfl hS241 (fun w hSw => by kernel_rfl) ?_
                            refine gd_done (by kernel_rfl) ?_
                            refine gx_thenN ?_
                            refine hK239 _ _ ?_
                            refine gx_yes (by kernel_rfl) ?_
                            refine gx_seq (fun K268 hK269 => ?_)
                            refine gx_region ?_
                            refine gx_val (.bool false) w240 (by kernel_rfl) (by kernel_rfl) ?_
                            refine gx_nil ?_
                            refine gx_thenN ?_
                            refine hK269 _ _ ?_
                            refine gx_ret ?_
                            refine gx_thenR ?_
                            obtain rfl := Option.some.inj hE236
                            try dsimp only at hO237
                            refine gx_blkR ?_
                            refine gx_thenR ?_
                            obtain rfl := Option.some.inj hO237
                            try dsimp only at hO196
                            refine gx_thenR ?_
                            refine gx_blkR ?_
                            refine gx_thenR ?_
                            obtain rfl := Option.some.inj hO196
                            try dsimp only at hO177
                            obtain rfl := Option.some.inj hO177
                            exact gx_fin (.bool false) (by kernel_rfl) (by kernel_rfl) ⟨_, rfl, rfl, (hS241.pick [] rfl rfl)⟩
                          · refine gd1 10 { dst := some 107, op := _, type := _, pos := _, after := _, guard := _ } (.bool false) rfl hS241 (fun w hSw => run_boolE (decide_eq_false h267) (by kernel_rfl)) ?_
                            refine gd1 11 { dst := some 108, op := _, type := _, pos := _, after := _, guard := _ } (.bool false) rfl hS241 (fun w hSw => by kernel_rfl) ?_
                            refine gd1 12 { dst := some 109, op := _, type := _, pos := _, after := _, guard := _ } (.bool false) rfl hS241 (fun w hSw => by kernel_rfl) ?_
                            refine gd1 13 { dst := some 110, op := _, type := _, pos := _, after := _, guard := _ } (.pointer (some ⟨w180.heap.size, 5, none⟩)) rfl hS241 (fun w hSw => by kernel_rfl) ?_
                            refine gd1 14 { dst := some 111, op := _, type := _, pos := _, after := _, guard := _ } (.int .i64 x199.2.2) rfl hS241 (fun w hSw => run_load1 rfl (by kernel_rfl) (fun _ => by kernel_rfl) (hSw.box 2 rfl 5 rfl)) ?_
                            refine gd1 15 { dst := some 112, op := _, type := _, pos := _, after := _, guard := _ } (.slice A1 p1.length c1) rfl hS241 (fun w hSw => by kernel_rfl) ?_
                            refine gd1 16 { dst := some 113, op := _, type := _, pos := _, after := _, guard := _ } (.int .i64 x183) rfl hS241 (fun w hSw => by kernel_rfl) ?_
                            obtain ⟨x270, hx271, hE236⟩ := bind_in hE236
                            obtain ⟨g272, o273, e274, hA275, he276, h277, ha278⟩ := elem_at (e := (rowOf (intE .u8))) (sl_lies (hS241.inn ho1 hv1)) (sl_each hv1) hx271 (by decide)
                            obtain ⟨A279, c280, vs281, rfl, hf282⟩ := h277
                            have ha278 : ∀ w', Lies w' A1 vs1 → w'.rangeAt g272 o273 [.slice A279 x270.length c280] := ha278
                            refine gd1 17 { dst := some 114, op := _, type := _, pos := _, after := _, guard := _ } (.pointer (some ⟨g272, o273, none⟩)) rfl hS241 (fun w hSw => run_ixaddrN (E := 22) (s := 1) (k := .i64) (c := c1) rfl (by kernel_rfl) (by kernel_rfl) (by kernel_rfl) (fun _ => by kernel_rfl) (ixg_in hx271).1 (ixg_in hx271).2.1 hA275) ?_
                            refine gd1 18 { dst := some 115, op := _, type := _, pos := _, after := _, guard := _ } (.slice A279 x270.length c280) rfl hS241 (fun w hSw => run_loadN1 0 rfl (by kernel_rfl) (fun _ => by kernel_rfl) (ha278 _ (sl_lies (hSw.inn ho1 hv1))) rfl) ?_
                            refine gd1 19 { dst := some 116, op := _, type := _, pos := _, after := _, guard := _ } (.int .i64 ((x270.length : Nat) : Int)) rfl hS241 (fun w hSw => by kernel_rfl) ?_
                            rcases if_in hE236 with ⟨h283, hE236⟩ | ⟨h283, hE236⟩
                            · refine gd1 20 { dst := some 117, op := _, type := _, pos := _, after := _, guard := _ } (.bool true) rfl hS241 (fun w hSw => run_boolE (ne_yes h283) (by kernel_rfl)) ?_
                              refine gd1 21 { dst := some 118, op := _, type := _, pos := _, after := _, guard := _ } (.bool true) rfl hS241 (fun w hSw => by kernel_rfl) ?_
                              refine gd1 22 { dst := some 119, op := _, type := _, pos := _, after := _, guard := _ } (.bool true) rfl hS241 (fun w hSw => by kernel_rfl) ?_
                              refine gd0 23 { dst := some 120, op := _, type := _, pos := _, after := _, guard := _ } rfl hS241 ?_
                              refine gd0 24 { dst := some 121, op := _, type := _, pos := _, after := _, guard := _ } rfl hS241 ?_
                              refine gd0 25 { dst := some 122, op := _, type := _, pos := _, after := _, guard := _ } rfl hS241 ?_
                              refine gd0 26 { dst := some 123, op := _, type := _, pos := _, after := _, guard := _ } rfl hS241 ?_
                              refine gd0 27 { dst := some 124, op := _, type := _, pos := _, after := _, guard := _ } rfl hS241 ?_
                              refine gd0 28 { dst := some 125, op := _, type := _, pos := _, after := _, guard := _ } rfl hS241 ?_
                              refine gd0 29 { dst := some 126, op := _, type := _, pos := _, after := _, guard := _ } rfl hS241 ?_
                              refine gd0 30 { dst := some 127, op := _, type := _, pos := _, after := _, guard := _ } rfl hS241 ?_
                              refine gd1 31 { dst := some 128, op := _, type := _, pos := _, after := _, guard := _ } (.bool true) rfl hS241 (fun w hSw => by kernel_rfl) ?_
                              refine gd_done (by kernel_rfl) ?_
                              refine gx_thenN ?_
                              refine hK239 _ _ ?_
                              refine gx_yes (by kernel_rfl) ?_
                              refine gx_seq (fun K284 hK285 => ?_)
                              refine gx_region ?_
                              refine gx_val (.bool false) w240 (by kernel_rfl) (by kernel_rfl) ?_
                              refine gx_nil ?_
                              refine gx_thenN ?_
                              refine hK285 _ _ ?_
                              refine gx_ret ?_
                              refine gx_thenR ?_
                              obtain rfl := Option.some.inj hE236
                              try dsimp only at hO237
                              refine gx_blkR ?_
                              refine gx_thenR ?_
                              obtain rfl := Option.some.inj hO237
                              try dsimp only at hO196
                              refine gx_thenR ?_
                              refine gx_blkR ?_
                              refine gx_thenR ?_
                              obtain rfl := Option.some.inj hO196
                              try dsimp only at hO177
                              obtain rfl := Option.some.inj hO177
                              exact gx_fin (.bool false) (by kernel_rfl) (by kernel_rfl) ⟨_, rfl, rfl, (hS241.pick [] rfl rfl)⟩
                            · refine gd1 20 { dst := some 117, op := _, type := _, pos := _, after := _, guard := _ } (.bool false) rfl hS241 (fun w hSw => run_boolE (ne_no h283) (by kernel_rfl)) ?_
                              refine gd1 21 { dst := some 118, op := _, type := _, pos := _, after := _, guard := _ } (.bool false) rfl hS241 (fun w hSw => by kernel_rfl) ?_
                              refine gd1 22 { dst := some 119, op := _, type := _, pos := _, after := _, guard := _ } (.bool false) rfl hS241 (fun w hSw => by kernel_rfl) ?_
                              refine gd1 23 { dst := some 120, op := _, type := _, pos := _, after := _, guard := _ } (.pointer (some ⟨w180.heap.size, 4, none⟩)) rfl hS241 (fun w hSw => by kernel_rfl) ?_
                              refine gd1 24 { dst := some 121, op := _, type := _, pos := _, after := _, guard := _ } (.int .i64 x199.2.1) rfl hS241 (fun w hSw => run_load1 rfl (by kernel_rfl) (fun _ => by kernel_rfl) (hSw.box 2 rfl 4 rfl)) ?_
                              refine gd1 25 { dst := some 122, op := _, type := _, pos := _, after := _, guard := _ } (.slice A83 l82.length c84) rfl hS241 (fun w hSw => by kernel_rfl) ?_
                              refine gd1 26 { dst := some 123, op := _, type := _, pos := _, after := _, guard := _ } (.int .i64 ((l82.length : Nat) : Int)) rfl hS241 (fun w hSw => by kernel_rfl) ?_
                              refine gd1 27 { dst := some 124, op := _, type := _, pos := _, after := _, guard := _ } (.pointer (some ⟨w180.heap.size, 5, none⟩)) rfl hS241 (fun w hSw => by kernel_rfl) ?_
                              refine gd1 28 { dst := some 125, op := _, type := _, pos := _, after := _, guard := _ } (.int .i64 x199.2.2) rfl hS241 (fun w hSw => run_load1 rfl (by kernel_rfl) (fun _ => by kernel_rfl) (hSw.box 2 rfl 5 rfl)) ?_
                              refine gd1 29 { dst := some 126, op := _, type := _, pos := _, after := _, guard := _ } (.int .i64 (IntKind.i64.wrap (((l82.length : Nat) : Int) - x199.2.2))) rfl hS241 (fun w hSw => by kernel_rfl) ?_
                              rcases if_in hE236 with ⟨h286, hE236⟩ | ⟨h286, hE236⟩
                              · refine gd1 30 { dst := some 127, op := _, type := _, pos := _, after := _, guard := _ } (.bool true) rfl hS241 (fun w hSw => run_boolE (decide_eq_true h286) (by kernel_rfl)) ?_
                                refine gd1 31 { dst := some 128, op := _, type := _, pos := _, after := _, guard := _ } (.bool true) rfl hS241 (fun w hSw => by kernel_rfl) ?_
                                refine gd_done (by kernel_rfl) ?_
                                refine gx_thenN ?_
                                refine hK239 _ _ ?_
                                refine gx_yes (by kernel_rfl) ?_
                                refine gx_seq (fun K287 hK288 => ?_)
                                refine gx_region ?_
                                refine gx_val (.bool false) w240 (by kernel_rfl) (by kernel_rfl) ?_
                                refine gx_nil ?_
                                refine gx_thenN ?_
                                refine hK288 _ _ ?_
                                refine gx_ret ?_
                                refine gx_thenR ?_
                                obtain rfl := Option.some.inj hE236
                                try dsimp only at hO237
                                refine gx_blkR ?_
                                refine gx_thenR ?_
                                obtain rfl := Option.some.inj hO237
                                try dsimp only at hO196
                                refine gx_thenR ?_
                                refine gx_blkR ?_
                                refine gx_thenR ?_
                                obtain rfl := Option.some.inj hO196
                                try dsimp only at hO177
                                obtain rfl := Option.some.inj hO177
                                exact gx_fin (.bool false) (by kernel_rfl) (by kernel_rfl) ⟨_, rfl, rfl, (hS241.pick [] rfl rfl)⟩
                              · refine gd1 30 { dst := some 127, op := _, type := _, pos := _, after := _, guard := _ } (.bool false) rfl hS241 (fun w hSw => run_boolE (decide_eq_false h286) (by kernel_rfl)) ?_
                                refine gd1 31 { dst := some 128, op := _, type := _, pos := _, after := _, guard := _ } (.bool false) rfl hS241 (fun w hSw => by kernel_rfl) ?_
                                refine gd_done (by kernel_rfl) ?_
                                refine gx_thenN ?_
                                refine hK239 _ _ ?_
                                refine gx_no (by kernel_rfl) ?_
                                refine gx_pass ?_
                                refine gx_thenN ?_
                                exact ⟨(fun i => List.getD ((u182 0) :: (.slice A144 l143.length c145) :: (.slice A144 l143.length c145) :: (.pointer (some ⟨g201, o202, none⟩)) :: (.agg #[.int .u8 x199.1.1, .int .u8 x199.1.2.1, .int .u8 x199.1.2.2.1, .int .u8 x199.1.2.2.2, .int .i64 x199.2.1, .int .i64 x199.2.2]) :: (.pointer (some ⟨w180.heap.size, 0, none⟩)) :: (.agg #[.int .u8 x199.1.1, .int .u8 x199.1.2.1, .int .u8 x199.1.2.2.1, .int .u8 x199.1.2.2.2]) :: (.slice A0 p0.length c0) :: (.int .i64 x183) :: (.pointer (some ⟨g244, o245, none⟩)) :: (.agg #[.int .u8 x242.1, .int .u8 x242.2.1, .int .u8 x242.2.2.1, .int .u8 x242.2.2.2]) :: (.bool false) :: (.bool false) :: (.pointer (some ⟨w180.heap.size, 4, none⟩)) :: (.int .i64 x199.2.1) :: (.bool false) :: (.bool false) :: (.bool false) :: (.pointer (some ⟨w180.heap.size, 5, none⟩)) :: (.int .i64 x199.2.2) :: (.slice A1 p1.length c1) :: (.int .i64 x183) :: (.pointer (some ⟨g272, o273, none⟩)) :: (.slice A279 x270.length c280) :: (.int .i64 ((x270.length : Nat) : Int)) :: (.bool false) :: (.bool false) :: (.bool false) :: (.pointer (some ⟨w180.heap.size, 4, none⟩)) :: (.int .i64 x199.2.1) :: (.slice A83 l82.length c84) :: (.int .i64 ((l82.length : Nat) : Int)) :: (.pointer (some ⟨w180.heap.size, 5, none⟩)) :: (.int .i64 x199.2.2) :: (.int .i64 (IntKind.i64.wrap (((l82.length : Nat) : Int) - x199.2.2))) :: (.bool false) :: (.bool false) :: []) i undef), by kernel_rfl, (Option.some.inj hE236), (hS241.pick [0, 2, 1] rfl rfl)⟩
                      · rintro _ w232 ⟨u234, rfl, rfl, hS233⟩
                        try dsimp only at hO237
                        refine gx_seq (fun K289 hK290 => ?_)
                        refine gx_region ?_
                        refine gx_val (.int .i64 0) w232 (by kernel_rfl) (by kernel_rfl) ?_
                        refine gx_nil ?_
                        refine gx_thenN ?_
                        refine hK290 _ _ ?_
                        refine gx_block ?_
                        refine gx_loop (fun k a w => ∃ (x294 : Int) (u293 : Nat → Value), a = ⟨((.slice A0 p0.length c0) :: (.slice A1 p1.length c1) :: undef :: undef :: (u293 0) :: (.int .i64 x8) :: (u7 0) :: (.slice A83 l82.length c84) :: (.int .i64 x148) :: (u109 1) :: (.int .i64 x103) :: (.slice A144 l143.length c145) :: (.int .i64 x183) :: (.pointer (some ⟨w180.heap.size, 0, none⟩)) :: (.int .i64 x294) :: (u7 1) :: (u7 2) :: (u7 3) :: (u7 4) :: (u7 5) :: (u7 6) :: (u7 7) :: (u7 8) :: (u7 9) :: (u7 10) :: (u7 11) :: (u7 12) :: (u7 13) :: (u7 14) :: (u7 15) :: (u7 16) :: (u7 17) :: (u7 18) :: (u7 19) :: (u7 20) :: (u7 21) :: (u45 1) :: (u45 2) :: (u45 3) :: (u45 4) :: (u45 5) :: (u45 6) :: (u45 7) :: (u45 8) :: (u45 9) :: (u45 10) :: (u45 11) :: (u45 12) :: (u45 13) :: (u109 2) :: (u109 3) :: (u109 4) :: (u109 5) :: (u109 6) :: (.int .i64 x86) :: (u109 7) :: (u109 8) :: (u109 9) :: (u109 10) :: (u109 11) :: (.int .i64 x103) :: (u109 12) :: (u109 13) :: (u109 14) :: (u109 15) :: (u109 16) :: (u109 17) :: (u109 18) :: (u109 19) :: (u109 20) :: (.int .i64 x86) :: (.bool false) :: undef :: (u160 1) :: (u160 2) :: (u160 3) :: (u160 4) :: (.int .i64 x148) :: (u160 5) :: (u160 6) :: (u160 7) :: (u160 8) :: (u160 9) :: (u160 10) :: (u160 11) :: (u160 12) :: (u160 13) :: (.int .i64 x183) :: (u234 1) :: (.int .i64 ((l143.length : Nat) : Int)) :: (.bool true) :: (u182 7) :: (u182 8) :: (u234 2) :: (.int .i64 x183) :: (u234 3) :: (u234 4) :: (u234 5) :: (u234 6) :: (u234 7) :: (u234 8) :: (u234 9) :: (u234 10) :: (u234 11) :: (u234 12) :: (u234 13) :: (u234 14) :: (u234 15) :: (u234 16) :: (u234 17) :: (u234 18) :: (u234 19) :: (u234 20) :: (u234 21) :: (u234 22) :: (u234 23) :: (u234 24) :: (u234 25) :: (u234 26) :: (u234 27) :: (u234 28) :: (u234 29) :: (u234 30) :: (u234 31) :: (u234 32) :: (u234 33) :: (u234 34) :: (u234 35) :: (u234 36) :: (u293 1) :: (u293 2) :: (u293 3) :: (u293 4) :: (u293 5) :: (u293 6) :: (u293 7) :: (u293 8) :: (u293 9) :: (u293 10) :: (u293 11) :: (u293 12) :: (u293 13) :: (u293 14) :: (u293 15) :: (u293 16) :: (u293 17) :: (u293 18) :: (u293 19) :: (u293 20) :: (u293 21) :: (u293 22) :: (u293 23) :: (u293 24) :: (u293 25) :: (u293 26) :: (u293 27) :: (u293 28) :: (u293 29) :: (u293 30) :: (u293 31) :: (u293 32) :: (u293 33) :: (u293 34) :: (u293 35) :: (u293 36) :: (u293 37) :: (u293 38) :: (u293 39) :: (u293 40) :: (u293 41) :: undef :: []).toArray, []⟩ ∧ fJoins_L3 N p1 l82 x183 x199 k x294 = some c194 ∧ St [] w0 w [poolE ft153 W154, boxE w180.heap.size [.int .u8 x199.1.1, .int .u8 x199.1.2.1, .int .u8 x199.1.2.2.1, .int .u8 x199.1.2.2.2, .int .i64 x199.2.1, .int .i64 x199.2.2] 41, rowG 41 6 (.slice A144 l143.length c145) l143.length vs146]) N ?_ ?_
                        · exact ⟨0, (fun i => List.getD ((u234 0) :: (u182 45) :: (u182 46) :: (u182 47) :: (u182 48) :: (u182 49) :: (u182 50) :: (u182 51) :: (u182 52) :: (u182 53) :: (u182 54) :: (u182 55) :: (u182 56) :: (u182 57) :: (u182 58) :: (u182 59) :: (u182 60) :: (u182 61) :: (u182 62) :: (u182 63) :: (u182 64) :: (u182 65) :: (u182 66) :: (u182 67) :: (u182 68) :: (u182 69) :: (u182 70) :: (u182 71) :: (u182 72) :: (u182 73) :: (u182 74) :: (u182 75) :: (u182 76) :: (u182 77) :: (u182 78) :: (u182 79) :: (u182 80) :: (u182 81) :: (u182 82) :: (u182 83) :: (u182 84) :: (u182 85) :: []) i undef), by kernel_rfl, hO237, hS233⟩
                        · rintro k295 _ w291 ⟨x294, u293, rfl, hL296, hS292⟩
                          cases k295 with
                          | zero => cases hL296
                          | succ k295 =>
                            rw [fJoins_L3] at hL296
                            refine gx_seq (fun K297 hK298 => ?_)
                            refine gx_seq (fun K299 hK300 => ?_)
                            refine gx_region ?_
                            refine gx_val (.int .i64 x294) w291 (by kernel_rfl) (by kernel_rfl) ?_
                            refine gx_val (.pointer (some ⟨w180.heap.size, 5, none⟩)) w291 (by kernel_rfl) (by kernel_rfl) ?_
                            refine gx_val (.int .i64 x199.2.2) w291 (by kernel_rfl) (run_load1 rfl (by kernel_rfl) (fun _ => by kernel_rfl) (hS292.box 1 rfl 5 rfl)) ?_
                            rcases if_in hL296 with ⟨h301, hL296⟩ | ⟨h301, hL296⟩
                            · refine gx_val (.bool true) w291 (by kernel_rfl) (run_boolE (decide_eq_true h301) (by kernel_rfl)) ?_
                              refine gx_nil ?_
                              refine gx_thenN ?_
                              refine hK300 _ _ ?_
                              refine gx_yes (by kernel_rfl) ?_
                              refine gx_pass ?_
                              refine gx_thenN ?_
                              refine hK298 _ _ ?_
                              refine gx_seq (fun K302 hK303 => ?_)
                              refine gx_block ?_
                              refine gx_seq (fun K304 hK305 => ?_)
                              refine gd_start (fun w => St [] w0 w [poolE ft153 W154, boxE w180.heap.size [.int .u8 x199.1.1, .int .u8 x199.1.2.1, .int .u8 x199.1.2.2.1, .int .u8 x199.1.2.2.2, .int .i64 x199.2.1, .int .i64 x199.2.2] 41, rowG 41 6 (.slice A144 l143.length c145) l143.length vs146]) 35 #[false, false, false, false, false, false, false, false, false, false, false, false, false, false, false, false, false, false, false, false, false, false, false, false, false, false, false, false, false, false, false, false, false, false, false] (by kernel_rfl) (by kernel_rfl) ?_
                              have hS307 := hS292.drew
                              generalize w291.drew = w306 at hS307 ⊢
                              refine gd1 0 { dst := some 135, op := _, type := _, pos := _, after := _, guard := _ } (.slice A83 l82.length c84) rfl hS307 (fun w hSw => by kernel_rfl) ?_
                              refine gd1 1 { dst := some 136, op := _, type := _, pos := _, after := _, guard := _ } (.pointer (some ⟨w180.heap.size, 4, none⟩)) rfl hS307 (fun w hSw => by kernel_rfl) ?_
                              refine gd1 2 { dst := some 137, op := _, type := _, pos := _, after := _, guard := _ } (.int .i64 x199.2.1) rfl hS307 (fun w hSw => run_load1 rfl (by kernel_rfl) (fun _ => by kernel_rfl) (hSw.box 1 rfl 4 rfl)) ?_
                              refine gd1 3 { dst := some 138, op := _, type := _, pos := _, after := _, guard := _ } (.int .i64 x294) rfl hS307 (fun w hSw => by kernel_rfl) ?_
                              refine gd1 4 { dst := some 139, op := _, type := _, pos := _, after := _, guard := _ } (.int .i64 (IntKind.i64.wrap (x199.2.1 + x294))) rfl hS307 (fun w hSw => by kernel_rfl) ?_
                              obtain ⟨x308, hx309, hL296⟩ := bind_in hL296
                              refine gd1 5 { dst := some 140, op := _, type := _, pos := _, after := _, guard := _ } (.pointer (Option.map (fun p => p.add (Int.toNat (IntKind.i64.wrap (x199.2.1 + x294)) * 1)) A83)) rfl hS307 (fun w hSw => run_ixaddr (E := 5) (s := 1) (k := .i64) (c := c84) rfl (by kernel_rfl) (by kernel_rfl) (by kernel_rfl) (fun _ => by kernel_rfl) (ix_in hx309).1 (ix_in hx309).2.1 (num_nil (num_sl (hSw.now 0 rfl (hT156.pool hf85))))) ?_
                              refine gd1 6 { dst := some 141, op := _, type := _, pos := _, after := _, guard := _ } (.int .u8 x308) rfl hS307 (fun w hSw => run_loadix rfl (by kernel_rfl) (fun _ => by kernel_rfl) (num_sl (hSw.now 0 rfl (hT156.pool hf85))) hx309) ?_
                              refine gd1 7 { dst := some 142, op := _, type := _, pos := _, after := _, guard := _ } (.slice A1 p1.length c1) rfl hS307 (fun w hSw => by kernel_rfl) ?_
                              refine gd1 8 { dst := some 143, op := _, type := _, pos := _, after := _, guard := _ } (.int .i64 x183) rfl hS307 (fun w hSw => by kernel_rfl) ?_
                              obtain ⟨x310, hx311, hL296⟩ := bind_in hL296
                              obtain ⟨g312, o313, e314, hA315, he316, h317, ha318⟩ := elem_at (e := (rowOf (intE .u8))) (sl_lies (hS307.inn ho1 hv1)) (sl_each hv1) hx311 (by decide)
                              obtain ⟨A319, c320, vs321, rfl, hf322⟩ := h317
                              have ha318 : ∀ w', Lies w' A1 vs1 → w'.rangeAt g312 o313 [.slice A319 x310.length c320] := ha318
                              refine gd1 9 { dst := some 144, op := _, type := _, pos := _, after := _, guard := _ } (.pointer (some ⟨g312, o313, none⟩)) rfl hS307 (fun w hSw => run_ixaddrN (E := 22) (s := 1) (k := .i64) (c := c1) rfl (by kernel_rfl) (by kernel_rfl) (by kernel_rfl) (fun _ => by kernel_rfl) (ixg_in hx311).1 (ixg_in hx311).2.1 hA315) ?_
                              refine gd1 10 { dst := some 145, op := _, type := _, pos := _, after := _, guard := _ } (.slice A319 x310.length c320) rfl hS307 (fun w hSw => run_loadN1 0 rfl (by kernel_rfl) (fun _ => by kernel_rfl) (ha318 _ (sl_lies (hSw.inn ho1 hv1))) rfl) ?_
                              refine gd1 11 { dst := some 146, op := _, type := _, pos := _, after := _, guard := _ } (.int .i64 x294) rfl hS307 (fun w hSw => by kernel_rfl) ?_
                              obtain ⟨x323, hx324, hL296⟩ := bind_in hL296
                              refine gd1 12 { dst := some 147, op := _, type := _, pos := _, after := _, guard := _ } (.pointer (Option.map (fun p => p.add (Int.toNat x294 * 1)) A319)) rfl hS307 (fun w hSw => run_ixaddr (E := 5) (s := 1) (k := .i64) (c := c320) rfl (by kernel_rfl) (by kernel_rfl) (by kernel_rfl) (fun _ => by kernel_rfl) (ix_in hx324).1 (ix_in hx324).2.1 (num_nil (num_sl (hSw.inn ho1 hf322)))) ?_
                              refine gd1 13 { dst := some 148, op := _, type := _, pos := _, after := _, guard := _ } (.int .u8 x323) rfl hS307 (fun w hSw => run_loadix rfl (by kernel_rfl) (fun _ => by kernel_rfl) (num_sl (hSw.inn ho1 hf322)) hx324) ?_
                              rcases if_in hL296 with ⟨h325, hL296⟩ | ⟨h325, hL296⟩
                              · refine gd1 14 { dst := some 149, op := _, type := _, pos := _, after := _, guard := _ } (.bool true) rfl hS307 (fun w hSw => run_boolE (ne_yes h325) (by kernel_rfl)) ?_
                                refine gd1 15 { dst := some 150, op := _, type := _, pos := _, after := _, guard := _ } (.bool true) rfl hS307 (fun w hSw => by kernel_rfl) ?_
                                refine gd1 16 { dst := some 151, op := _, type := _, pos := _, after := _, guard := _ } (.pointer (some ⟨w180.heap.size, 0, none⟩)) rfl hS307 (fun w hSw => by kernel_rfl) ?_
                                refine gd1 17 { dst := some 152, op := _, type := _, pos := _, after := _, guard := _ } (.agg #[.int .u8 x199.1.1, .int .u8 x199.1.2.1, .int .u8 x199.1.2.2.1, .int .u8 x199.1.2.2.2]) rfl hS307 (fun w hSw => run_loadNG (d := _) (ec := [.int .u8 x199.1.1, .int .u8 x199.1.2.1, .int .u8 x199.1.2.2.1, .int .u8 x199.1.2.2.2]) rfl (by kernel_rfl) (range_sub (range_box (hSw.get 1 rfl)) 0 4) rfl rfl (by kernel_rfl)) ?_
                                refine gd1 18 { dst := some 153, op := _, type := _, pos := _, after := _, guard := _ } (.agg #[.int .u8 104, .int .u8 101, .int .u8 97, .int .u8 100]) rfl hS307 (fun w hSw => by kernel_rfl) ?_
                                obtain ⟨b326, h327, hL296⟩ := bind_in hL296
                                refine gd1 19 { dst := some 154, op := _, type := _, pos := _, after := _, guard := _ } (.bool b326) rfl hS307 (fun w hSw => run_eqTag (x := (x199.1.1, x199.1.2.1, x199.1.2.2.1, x199.1.2.2.2)) (y := (104, 101, 97, 100)) rfl (by kernel_rfl) (by kernel_rfl) h327) ?_
                                refine gd1 20 { dst := some 155, op := _, type := _, pos := _, after := _, guard := _ } (.bool b326) rfl hS307 (fun w hSw => by kernel_rfl) ?_
                                cases b326 with
                                | true =>
                                  try dsimp only at hL296
                                  refine gd1 21 { dst := some 156, op := _, type := _, pos := _, after := _, guard := _ } (.pointer (some ⟨w180.heap.size, 5, none⟩)) rfl hS307 (fun w hSw => by kernel_rfl) ?_
                                  refine gd1 22 { dst := some 157, op := _, type := _, pos := _, after := _, guard := _ } (.int .i64 x199.2.2) rfl hS307 (fun w hSw => run_load1 rfl (by kernel_rfl) (fun _ => by kernel_rfl) (hSw.box 1 rfl 5 rfl)) ?_
                                  rcases if_in hL296 with ⟨h328, hL296⟩ | ⟨h328, hL296⟩
                                  · refine gd1 23 { dst := some 158, op := _, type := _, pos := _, after := _, guard := _ } (.bool true) rfl hS307 (fun w hSw => run_boolE (decide_eq_true h328) (by kernel_rfl)) ?_
                                    refine gd1 24 { dst := some 159, op := _, type := _, pos := _, after := _, guard := _ } (.bool true) rfl hS307 (fun w hSw => by kernel_rfl) ?_
                                    refine gd1 25 { dst := some 160, op := _, type := _, pos := _, after := _, guard := _ } (.bool true) rfl hS307 (fun w hSw => by kernel_rfl) ?_
                                    refine gd1 26 { dst := some 161, op := _, type := _, pos := _, after := _, guard := _ } (.int .i64 x294) rfl hS307 (fun w hSw => by kernel_rfl) ?_
                                    rcases if_in hL296 with ⟨h329, hL296⟩ | ⟨h329, hL296⟩
                                    · refine gd1 27 { dst := some 162, op := _, type := _, pos := _, after := _, guard := _ } (.bool true) rfl hS307 (fun w hSw => run_boolE (decide_eq_true h329) (by kernel_rfl)) ?_
                                      refine gd1 28 { dst := some 163, op := _, type := _, pos := _, after := _, guard := _ } (.bool true) rfl hS307 (fun w hSw => by kernel_rfl) ?_
                                      refine gd1 29 { dst := some 164, op := _, type := _, pos := _, after := _, guard := _ } (.bool true) rfl hS307 (fun w hSw => by kernel_rfl) ?_
                                      refine gd1 30 { dst := some 165, op := _, type := _, pos := _, after := _, guard := _ } (.int .i64 x294) rfl hS307 (fun w hSw => by kernel_rfl) ?_
                                      rcases if_in hL296 with ⟨h330, hL296⟩ | ⟨h330, hL296⟩
                                      · refine gd1 31 { dst := some 166, op := _, type := _, pos := _, after := _, guard := _ } (.bool true) rfl hS307 (fun w hSw => run_boolE (decide_eq_true h330) (by kernel_rfl)) ?_
                                        refine gd1 32 { dst := some 167, op := _, type := _, pos := _, after := _, guard := _ } (.bool true) rfl hS307 (fun w hSw => by kernel_rfl) ?_
                                        refine gd1 33 { dst := some 168, op := _, type := _, pos := _, after := _, guard := _ } (.bool false) rfl hS307 (fun w hSw => by kernel_rfl) ?_
                                        refine gd1 34 { dst := some 169, op := _, type := _, pos := _, after := _, guard := _ } (.bool false) rfl hS307 (fun w hSw => by kernel_rfl) ?_
                                        refine gd_done (by kernel_rfl) ?_
                                        refine gx_thenN ?_
                                        refine hK305 _ _ ?_
                                        refine gx_no (by kernel_rfl) ?_
                                        refine gx_pass ?_
                                        refine gx_blkN ?_
                                        refine gx_thenN ?_
                                        refine hK303 _ _ ?_
                                        refine gx_region ?_
                                        refine gx_val (.int .i64 x294) w306 (by kernel_rfl) (by kernel_rfl) ?_
                                        refine gx_val (.int .i64 (IntKind.i64.wrap (x294 + 1))) w306 (by kernel_rfl) (by kernel_rfl) ?_
                                        refine gx_val (.int .i64 (IntKind.i64.wrap (x294 + 1))) w306 (by kernel_rfl) (by kernel_rfl) ?_
                                        refine gx_nil ?_
                                        refine gx_thenN ?_
                                        exact ⟨k295, Nat.lt_succ_self k295, (IntKind.i64.wrap (x294 + 1)), (fun i => List.getD ((u293 0) :: (.int .i64 x294) :: (.pointer (some ⟨w180.heap.size, 5, none⟩)) :: (.int .i64 x199.2.2) :: (.bool true) :: (.int .i64 x294) :: (.int .i64 (IntKind.i64.wrap (x294 + 1))) :: (.slice A83 l82.length c84) :: (.pointer (some ⟨w180.heap.size, 4, none⟩)) :: (.int .i64 x199.2.1) :: (.int .i64 x294) :: (.int .i64 (IntKind.i64.wrap (x199.2.1 + x294))) :: (.pointer (Option.map (fun p => p.add (Int.toNat (IntKind.i64.wrap (x199.2.1 + x294)) * 1)) A83)) :: (.int .u8 x308) :: (.slice A1 p1.length c1) :: (.int .i64 x183) :: (.pointer (some ⟨g312, o313, none⟩)) :: (.slice A319 x310.length c320) :: (.int .i64 x294) :: (.pointer (Option.map (fun p => p.add (Int.toNat x294 * 1)) A319)) :: (.int .u8 x323) :: (.bool true) :: (.bool true) :: (.pointer (some ⟨w180.heap.size, 0, none⟩)) :: (.agg #[.int .u8 x199.1.1, .int .u8 x199.1.2.1, .int .u8 x199.1.2.2.1, .int .u8 x199.1.2.2.2]) :: (.agg #[.int .u8 104, .int .u8 101, .int .u8 97, .int .u8 100]) :: (.bool true) :: (.bool true) :: (.pointer (some ⟨w180.heap.size, 5, none⟩)) :: (.int .i64 x199.2.2) :: (.bool true) :: (.bool true) :: (.bool true) :: (.int .i64 x294) :: (.bool true) :: (.bool true) :: (.bool true) :: (.int .i64 x294) :: (.bool true) :: (.bool true) :: (.bool false) :: (.bool false) :: []) i undef), by kernel_rfl, hL296, hS307⟩
                                      · refine gd1 31 { dst := some 166, op := _, type := _, pos := _, after := _, guard := _ } (.bool false) rfl hS307 (fun w hSw => run_boolE (decide_eq_false h330) (by kernel_rfl)) ?_
                                        refine gd1 32 { dst := some 167, op := _, type := _, pos := _, after := _, guard := _ } (.bool false) rfl hS307 (fun w hSw => by kernel_rfl) ?_
                                        refine gd1 33 { dst := some 168, op := _, type := _, pos := _, after := _, guard := _ } (.bool true) rfl hS307 (fun w hSw => by kernel_rfl) ?_
                                        refine gd1 34 { dst := some 169, op := _, type := _, pos := _, after := _, guard := _ } (.bool true) rfl hS307 (fun w hSw => by kernel_rfl) ?_
                                        refine gd_done (by kernel_rfl) ?_
                                        refine gx_thenN ?_
                                        refine hK305 _ _ ?_
                                        refine gx_yes (by kernel_rfl) ?_
                                        refine gx_seq (fun K331 hK332 => ?_)
                                        refine gx_region ?_
                                        refine gx_val (.bool false) w306 (by kernel_rfl) (by kernel_rfl) ?_
                                        refine gx_nil ?_
                                        refine gx_thenN ?_
                                        refine hK332 _ _ ?_
                                        refine gx_ret ?_
                                        refine gx_blkR ?_
                                        refine gx_thenR ?_
                                        refine gx_thenR ?_
                                        refine gx_blkR ?_
                                        refine gx_blkR ?_
                                        refine gx_thenR ?_
                                        obtain rfl := Option.some.inj hL296
                                        try dsimp only at hO196
                                        refine gx_thenR ?_
                                        refine gx_blkR ?_
                                        refine gx_thenR ?_
                                        obtain rfl := Option.some.inj hO196
                                        try dsimp only at hO177
                                        obtain rfl := Option.some.inj hO177
                                        exact gx_fin (.bool false) (by kernel_rfl) (by kernel_rfl) ⟨_, rfl, rfl, (hS307.pick [] rfl rfl)⟩
                                    · refine gd1 27 { dst := some 162, op := _, type := _, pos := _, after := _, guard := _ } (.bool false) rfl hS307 (fun w hSw => run_boolE (decide_eq_false h329) (by kernel_rfl)) ?_
                                      refine gd1 28 { dst := some 163, op := _, type := _, pos := _, after := _, guard := _ } (.bool false) rfl hS307 (fun w hSw => by kernel_rfl) ?_
                                      refine gd1 29 { dst := some 164, op := _, type := _, pos := _, after := _, guard := _ } (.bool false) rfl hS307 (fun w hSw => by kernel_rfl) ?_
                                      refine gd0 30 { dst := some 165, op := _, type := _, pos := _, after := _, guard := _ } rfl hS307 ?_
                                      refine gd0 31 { dst := some 166, op := _, type := _, pos := _, after := _, guard := _ } rfl hS307 ?_
                                      refine gd1 32 { dst := some 167, op := _, type := _, pos := _, after := _, guard := _ } (.bool false) rfl hS307 (fun w hSw => by kernel_rfl) ?_
                                      refine gd1 33 { dst := some 168, op := _, type := _, pos := _, after := _, guard := _ } (.bool true) rfl hS307 (fun w hSw => by kernel_rfl) ?_
                                      refine gd1 34 { dst := some 169, op := _, type := _, pos := _, after := _, guard := _ } (.bool true) rfl hS307 (fun w hSw => by kernel_rfl) ?_
                                      refine gd_done (by kernel_rfl) ?_
                                      refine gx_thenN ?_
                                      refine hK305 _ _ ?_
                                      refine gx_yes (by kernel_rfl) ?_
                                      refine gx_seq (fun K333 hK334 => ?_)
                                      refine gx_region ?_
                                      refine gx_val (.bool false) w306 (by kernel_rfl) (by kernel_rfl) ?_
                                      refine gx_nil ?_
                                      refine gx_thenN ?_
                                      refine hK334 _ _ ?_
                                      refine gx_ret ?_
                                      refine gx_blkR ?_
                                      refine gx_thenR ?_
                                      refine gx_thenR ?_
                                      refine gx_blkR ?_
                                      refine gx_blkR ?_
                                      refine gx_thenR ?_
                                      obtain rfl := Option.some.inj hL296
                                      try dsimp only at hO196
                                      refine gx_thenR ?_
                                      refine gx_blkR ?_
                                      refine gx_thenR ?_
                                      obtain rfl := Option.some.inj hO196
                                      try dsimp only at hO177
                                      obtain rfl := Option.some.inj hO177
                                      exact gx_fin (.bool false) (by kernel_rfl) (by kernel_rfl) ⟨_, rfl, rfl, (hS307.pick [] rfl rfl)⟩
                                  · refine gd1 23 { dst := some 158, op := _, type := _, pos := _, after := _, guard := _ } (.bool false) rfl hS307 (fun w hSw => run_boolE (decide_eq_false h328) (by kernel_rfl)) ?_
                                    refine gd1 24 { dst := some 159, op := _, type := _, pos := _, after := _, guard := _ } (.bool false) rfl hS307 (fun w hSw => by kernel_rfl) ?_
                                    refine gd1 25 { dst := some 160, op := _, type := _, pos := _, after := _, guard := _ } (.bool false) rfl hS307 (fun w hSw => by kernel_rfl) ?_
                                    refine gd0 26 { dst := some 161, op := _, type := _, pos := _, after := _, guard := _ } rfl hS307 ?_
                                    refine gd0 27 { dst := some 162, op := _, type := _, pos := _, after := _, guard := _ } rfl hS307 ?_
                                    refine gd1 28 { dst := some 163, op := _, type := _, pos := _, after := _, guard := _ } (.bool false) rfl hS307 (fun w hSw => by kernel_rfl) ?_
                                    refine gd1 29 { dst := some 164, op := _, type := _, pos := _, after := _, guard := _ } (.bool false) rfl hS307 (fun w hSw => by kernel_rfl) ?_
                                    refine gd0 30 { dst := some 165, op := _, type := _, pos := _, after := _, guard := _ } rfl hS307 ?_
                                    refine gd0 31 { dst := some 166, op := _, type := _, pos := _, after := _, guard := _ } rfl hS307 ?_
                                    refine gd1 32 { dst := some 167, op := _, type := _, pos := _, after := _, guard := _ } (.bool false) rfl hS307 (fun w hSw => by kernel_rfl) ?_
                                    refine gd1 33 { dst := some 168, op := _, type := _, pos := _, after := _, guard := _ } (.bool true) rfl hS307 (fun w hSw => by kernel_rfl) ?_
                                    refine gd1 34 { dst := some 169, op := _, type := _, pos := _, after := _, guard := _ } (.bool true) rfl hS307 (fun w hSw => by kernel_rfl) ?_
                                    refine gd_done (by kernel_rfl) ?_
                                    refine gx_thenN ?_
                                    refine hK305 _ _ ?_
                                    refine gx_yes (by kernel_rfl) ?_
                                    refine gx_seq (fun K335 hK336 => ?_)
                                    refine gx_region ?_
                                    refine gx_val (.bool false) w306 (by kernel_rfl) (by kernel_rfl) ?_
                                    refine gx_nil ?_
                                    refine gx_thenN ?_
                                    refine hK336 _ _ ?_
                                    refine gx_ret ?_
                                    refine gx_blkR ?_
                                    refine gx_thenR ?_
                                    refine gx_thenR ?_
                                    refine gx_blkR ?_
                                    refine gx_blkR ?_
                                    refine gx_thenR ?_
                                    obtain rfl := Option.some.inj hL296
                                    try dsimp only at hO196
                                    refine gx_thenR ?_
                                    refine gx_blkR ?_
                                    refine gx_thenR ?_
                                    obtain rfl := Option.some.inj hO196
                                    try dsimp only at hO177
                                    obtain rfl := Option.some.inj hO177
                                    exact gx_fin (.bool false) (by kernel_rfl) (by kernel_rfl) ⟨_, rfl, rfl, (hS307.pick [] rfl rfl)⟩
                                | false =>
                                  try dsimp only at hL296
                                  refine gd0 21 { dst := some 156, op := _, type := _, pos := _, after := _, guard := _ } rfl hS307 ?_
                                  refine gd0 22 { dst := some 157, op := _, type := _, pos := _, after := _, guard := _ } rfl hS307 ?_
                                  refine gd0 23 { dst := some 158, op := _, type := _, pos := _, after := _, guard := _ } rfl hS307 ?_
                                  refine gd1 24 { dst := some 159, op := _, type := _, pos := _, after := _, guard := _ } (.bool false) rfl hS307 (fun w hSw => by kernel_rfl) ?_
                                  refine gd1 25 { dst := some 160, op := _, type := _, pos := _, after := _, guard := _ } (.bool false) rfl hS307 (fun w hSw => by kernel_rfl) ?_
                                  refine gd0 26 { dst := some 161, op := _, type := _, pos := _, after := _, guard := _ } rfl hS307 ?_
                                  refine gd0 27 { dst := some 162, op := _, type := _, pos := _, after := _, guard := _ } rfl hS307 ?_
                                  refine gd1 28 { dst := some 163, op := _, type := _, pos := _, after := _, guard := _ } (.bool false) rfl hS307 (fun w hSw => by kernel_rfl) ?_
                                  refine gd1 29 { dst := some 164, op := _, type := _, pos := _, after := _, guard := _ } (.bool false) rfl hS307 (fun w hSw => by kernel_rfl) ?_
                                  refine gd0 30 { dst := some 165, op := _, type := _, pos := _, after := _, guard := _ } rfl hS307 ?_
                                  refine gd0 31 { dst := some 166, op := _, type := _, pos := _, after := _, guard := _ } rfl hS307 ?_
                                  refine gd1 32 { dst := some 167, op := _, type := _, pos := _, after := _, guard := _ } (.bool false) rfl hS307 (fun w hSw => by kernel_rfl) ?_
                                  refine gd1 33 { dst := some 168, op := _, type := _, pos := _, after := _, guard := _ } (.bool true) rfl hS307 (fun w hSw => by kernel_rfl) ?_
                                  refine gd1 34 { dst := some 169, op := _, type := _, pos := _, after := _, guard := _ } (.bool true) rfl hS307 (fun w hSw => by kernel_rfl) ?_
                                  refine gd_done (by kernel_rfl) ?_
                                  refine gx_thenN ?_
                                  refine hK305 _ _ ?_
                                  refine gx_yes (by kernel_rfl) ?_
                                  refine gx_seq (fun K337 hK338 => ?_)
                                  refine gx_region ?_
                                  refine gx_val (.bool false) w306 (by kernel_rfl) (by kernel_rfl) ?_
                                  refine gx_nil ?_
                                  refine gx_thenN ?_
                                  refine hK338 _ _ ?_
                                  refine gx_ret ?_
                                  refine gx_blkR ?_
                                  refine gx_thenR ?_
                                  refine gx_thenR ?_
                                  refine gx_blkR ?_
                                  refine gx_blkR ?_
                                  refine gx_thenR ?_
                                  obtain rfl := Option.some.inj hL296
                                  try dsimp only at hO196
                                  refine gx_thenR ?_
                                  refine gx_blkR ?_
                                  refine gx_thenR ?_
                                  obtain rfl := Option.some.inj hO196
                                  try dsimp only at hO177
                                  obtain rfl := Option.some.inj hO177
                                  exact gx_fin (.bool false) (by kernel_rfl) (by kernel_rfl) ⟨_, rfl, rfl, (hS307.pick [] rfl rfl)⟩
                              · refine gd1 14 { dst := some 149, op := _, type := _, pos := _, after := _, guard := _ } (.bool false) rfl hS307 (fun w hSw => run_boolE (ne_no h325) (by kernel_rfl)) ?_
                                refine gd1 15 { dst := some 150, op := _, type := _, pos := _, after := _, guard := _ } (.bool false) rfl hS307 (fun w hSw => by kernel_rfl) ?_
                                refine gd0 16 { dst := some 151, op := _, type := _, pos := _, after := _, guard := _ } rfl hS307 ?_
                                refine gd0 17 { dst := some 152, op := _, type := _, pos := _, after := _, guard := _ } rfl hS307 ?_
                                refine gd0 18 { dst := some 153, op := _, type := _, pos := _, after := _, guard := _ } rfl hS307 ?_
                                refine gd0 19 { dst := some 154, op := _, type := _, pos := _, after := _, guard := _ } rfl hS307 ?_
                                refine gd0 20 { dst := some 155, op := _, type := _, pos := _, after := _, guard := _ } rfl hS307 ?_
                                refine gd0 21 { dst := some 156, op := _, type := _, pos := _, after := _, guard := _ } rfl hS307 ?_
                                refine gd0 22 { dst := some 157, op := _, type := _, pos := _, after := _, guard := _ } rfl hS307 ?_
                                refine gd0 23 { dst := some 158, op := _, type := _, pos := _, after := _, guard := _ } rfl hS307 ?_
                                refine gd0 24 { dst := some 159, op := _, type := _, pos := _, after := _, guard := _ } rfl hS307 ?_
                                refine gd0 25 { dst := some 160, op := _, type := _, pos := _, after := _, guard := _ } rfl hS307 ?_
                                refine gd0 26 { dst := some 161, op := _, type := _, pos := _, after := _, guard := _ } rfl hS307 ?_
                                refine gd0 27 { dst := some 162, op := _, type := _, pos := _, after := _, guard := _ } rfl hS307 ?_
                                refine gd0 28 { dst := some 163, op := _, type := _, pos := _, after := _, guard := _ } rfl hS307 ?_
                                refine gd0 29 { dst := some 164, op := _, type := _, pos := _, after := _, guard := _ } rfl hS307 ?_
                                refine gd0 30 { dst := some 165, op := _, type := _, pos := _, after := _, guard := _ } rfl hS307 ?_
                                refine gd0 31 { dst := some 166, op := _, type := _, pos := _, after := _, guard := _ } rfl hS307 ?_
                                refine gd0 32 { dst := some 167, op := _, type := _, pos := _, after := _, guard := _ } rfl hS307 ?_
                                refine gd0 33 { dst := some 168, op := _, type := _, pos := _, after := _, guard := _ } rfl hS307 ?_
                                refine gd1 34 { dst := some 169, op := _, type := _, pos := _, after := _, guard := _ } (.bool false) rfl hS307 (fun w hSw => by kernel_rfl) ?_
                                refine gd_done (by kernel_rfl) ?_
                                refine gx_thenN ?_
                                refine hK305 _ _ ?_
                                refine gx_no (by kernel_rfl) ?_
                                refine gx_pass ?_
                                refine gx_blkN ?_
                                refine gx_thenN ?_
                                refine hK303 _ _ ?_
                                refine gx_region ?_
                                refine gx_val (.int .i64 x294) w306 (by kernel_rfl) (by kernel_rfl) ?_
                                refine gx_val (.int .i64 (IntKind.i64.wrap (x294 + 1))) w306 (by kernel_rfl) (by kernel_rfl) ?_
                                refine gx_val (.int .i64 (IntKind.i64.wrap (x294 + 1))) w306 (by kernel_rfl) (by kernel_rfl) ?_
                                refine gx_nil ?_
                                refine gx_thenN ?_
                                exact ⟨k295, Nat.lt_succ_self k295, (IntKind.i64.wrap (x294 + 1)), (fun i => List.getD ((u293 0) :: (.int .i64 x294) :: (.pointer (some ⟨w180.heap.size, 5, none⟩)) :: (.int .i64 x199.2.2) :: (.bool true) :: (.int .i64 x294) :: (.int .i64 (IntKind.i64.wrap (x294 + 1))) :: (.slice A83 l82.length c84) :: (.pointer (some ⟨w180.heap.size, 4, none⟩)) :: (.int .i64 x199.2.1) :: (.int .i64 x294) :: (.int .i64 (IntKind.i64.wrap (x199.2.1 + x294))) :: (.pointer (Option.map (fun p => p.add (Int.toNat (IntKind.i64.wrap (x199.2.1 + x294)) * 1)) A83)) :: (.int .u8 x308) :: (.slice A1 p1.length c1) :: (.int .i64 x183) :: (.pointer (some ⟨g312, o313, none⟩)) :: (.slice A319 x310.length c320) :: (.int .i64 x294) :: (.pointer (Option.map (fun p => p.add (Int.toNat x294 * 1)) A319)) :: (.int .u8 x323) :: (.bool false) :: (.bool false) :: undef :: undef :: undef :: undef :: undef :: undef :: undef :: undef :: undef :: undef :: undef :: undef :: undef :: undef :: undef :: undef :: undef :: undef :: (.bool false) :: []) i undef), by kernel_rfl, hL296, hS307⟩
                            · refine gx_val (.bool false) w291 (by kernel_rfl) (run_boolE (decide_eq_false h301) (by kernel_rfl)) ?_
                              refine gx_nil ?_
                              refine gx_thenN ?_
                              refine hK300 _ _ ?_
                              refine gx_no (by kernel_rfl) ?_
                              refine gx_exit ?_
                              refine gx_thenE ?_
                              refine gx_thenE ?_
                              refine gx_blkE ?_
                              refine gx_blkN ?_
                              refine gx_thenN ?_
                              exact ⟨(fun i => List.getD ((u293 0) :: (.pointer (some ⟨w180.heap.size, 0, none⟩)) :: (.int .i64 x294) :: (u234 1) :: (u234 2) :: (.int .i64 x183) :: (u234 3) :: (u234 4) :: (u234 5) :: (u234 6) :: (u234 7) :: (u234 8) :: (u234 9) :: (u234 10) :: (u234 11) :: (u234 12) :: (u234 13) :: (u234 14) :: (u234 15) :: (u234 16) :: (u234 17) :: (u234 18) :: (u234 19) :: (u234 20) :: (u234 21) :: (u234 22) :: (u234 23) :: (u234 24) :: (u234 25) :: (u234 26) :: (u234 27) :: (u234 28) :: (u234 29) :: (u234 30) :: (u234 31) :: (u234 32) :: (u234 33) :: (u234 34) :: (u234 35) :: (u234 36) :: (.int .i64 x294) :: (.pointer (some ⟨w180.heap.size, 5, none⟩)) :: (.int .i64 x199.2.2) :: (.bool false) :: (u293 5) :: (u293 6) :: (u293 7) :: (u293 8) :: (u293 9) :: (u293 10) :: (u293 11) :: (u293 12) :: (u293 13) :: (u293 14) :: (u293 15) :: (u293 16) :: (u293 17) :: (u293 18) :: (u293 19) :: (u293 20) :: (u293 21) :: (u293 22) :: (u293 23) :: (u293 24) :: (u293 25) :: (u293 26) :: (u293 27) :: (u293 28) :: (u293 29) :: (u293 30) :: (u293 31) :: (u293 32) :: (u293 33) :: (u293 34) :: (u293 35) :: (u293 36) :: (u293 37) :: (u293 38) :: (u293 39) :: (u293 40) :: (u293 41) :: []) i undef), by kernel_rfl, (Option.some.inj hL296), (hS292.pick [0, 2] rfl rfl)⟩
                    · rintro _ w191 ⟨u193, rfl, rfl, hS192⟩
                      try dsimp only at hO196
                      refine gx_region ?_
                      refine gx_val (.int .i64 x183) w191 (by kernel_rfl) (by kernel_rfl) ?_
                      refine gx_val (.int .i64 (IntKind.i64.wrap (x183 + 1))) w191 (by kernel_rfl) (by kernel_rfl) ?_
                      refine gx_val (.int .i64 (IntKind.i64.wrap (x183 + 1))) w191 (by kernel_rfl) (by kernel_rfl) ?_
                      refine gx_nil ?_
                      refine gx_thenN ?_
                      exact ⟨k184, Nat.lt_succ_self k184, (IntKind.i64.wrap (x183 + 1)), (fun i => List.getD ((u193 0) :: (u193 1) :: (u193 2) :: (.int .i64 x183) :: (u193 3) :: (.int .i64 ((l143.length : Nat) : Int)) :: (.bool true) :: (.int .i64 x183) :: (.int .i64 (IntKind.i64.wrap (x183 + 1))) :: (u193 4) :: (u193 5) :: (u193 6) :: (u193 7) :: (u193 8) :: (u193 9) :: (u193 10) :: (u193 11) :: (u193 12) :: (u193 13) :: (u193 14) :: (u193 15) :: (u193 16) :: (u193 17) :: (u193 18) :: (u193 19) :: (u193 20) :: (u193 21) :: (u193 22) :: (u193 23) :: (u193 24) :: (u193 25) :: (u193 26) :: (u193 27) :: (u193 28) :: (u193 29) :: (u193 30) :: (u193 31) :: (u193 32) :: (u193 33) :: (u193 34) :: (u193 35) :: (u193 36) :: (u193 37) :: (u193 38) :: (u193 39) :: (u193 40) :: (u193 41) :: (u193 42) :: (u193 43) :: (u193 44) :: (u193 45) :: (u193 46) :: (u193 47) :: (u193 48) :: (u193 49) :: (u193 50) :: (u193 51) :: (u193 52) :: (u193 53) :: (u193 54) :: (u193 55) :: (u193 56) :: (u193 57) :: (u193 58) :: (u193 59) :: (u193 60) :: (u193 61) :: (u193 62) :: (u193 63) :: (u193 64) :: (u193 65) :: (u193 66) :: (u193 67) :: (u193 68) :: (u193 69) :: (u193 70) :: (u193 71) :: (u193 72) :: (u193 73) :: (u193 74) :: (u193 75) :: (u193 76) :: (u193 77) :: (u193 78) :: (u193 79) :: (u193 80) :: []) i undef), by kernel_rfl, hO196, hS192⟩
                  · refine gx_val (.bool false) w180 (by kernel_rfl) (run_boolE (decide_eq_false h190) (by kernel_rfl)) ?_
                    refine gx_nil ?_
                    refine gx_thenN ?_
                    refine hK189 _ _ ?_
                    refine gx_no (by kernel_rfl) ?_
                    refine gx_exit ?_
                    refine gx_thenE ?_
                    refine gx_thenE ?_
                    refine gx_blkE ?_
                    refine gx_thenN ?_
                    exact ⟨(fun i => List.getD ((.slice A0 p0.length c0) :: (.slice A1 p1.length c1) :: (u182 0) :: (.slice A83 l82.length c84) :: (.slice A144 l143.length c145) :: (.int .i64 x183) :: (u182 1) :: (u182 2) :: (.int .i64 x183) :: (.slice A144 l143.length c145) :: (.int .i64 ((l143.length : Nat) : Int)) :: (.bool false) :: (u182 7) :: (u182 8) :: (u182 9) :: (u182 10) :: (u182 11) :: (u182 12) :: (u182 13) :: (u182 14) :: (u182 15) :: (u182 16) :: (u182 17) :: (u182 18) :: (u182 19) :: (u182 20) :: (u182 21) :: (u182 22) :: (u182 23) :: (u182 24) :: (u182 25) :: (u182 26) :: (u182 27) :: (u182 28) :: (u182 29) :: (u182 30) :: (u182 31) :: (u182 32) :: (u182 33) :: (u182 34) :: (u182 35) :: (u182 36) :: (u182 37) :: (u182 38) :: (u182 39) :: (u182 40) :: (u182 41) :: (u182 42) :: (u182 43) :: (u182 44) :: (u182 45) :: (u182 46) :: (u182 47) :: (u182 48) :: (u182 49) :: (u182 50) :: (u182 51) :: (u182 52) :: (u182 53) :: (u182 54) :: (u182 55) :: (u182 56) :: (u182 57) :: (u182 58) :: (u182 59) :: (u182 60) :: (u182 61) :: (u182 62) :: (u182 63) :: (u182 64) :: (u182 65) :: (u182 66) :: (u182 67) :: (u182 68) :: (u182 69) :: (u182 70) :: (u182 71) :: (u182 72) :: (u182 73) :: (u182 74) :: (u182 75) :: (u182 76) :: (u182 77) :: (u182 78) :: (u182 79) :: (u182 80) :: (u182 81) :: (u182 82) :: (u182 83) :: (u182 84) :: (u182 85) :: []) i undef), by kernel_rfl, (Option.some.inj hL185), (hS181.pick [0] rfl rfl)⟩
            · rintro _ w172 ⟨u174, rfl, rfl, hS173⟩
              try dsimp only at hO177
              refine gx_seq (fun K339 hK340 => ?_)
              refine gx_region ?_
              have hP341 : St _ _ w172 ([] ++ [poolE ft153 W154]) := hS173
              obtain ⟨b343, hc342, hO177⟩ := bind_in hO177
              try dsimp only at hO177
              refine gx_call (hWorks_R b343 w172) (by kernel_rfl) (by kernel_rfl) (hWorks_ok N  _ hc342 w172 ) ?_
              rintro _ w344 ⟨rfl, hT346⟩
              have hS345 : St _ _ w344 [poolE ft153 W154] := hS173.take _ hT346
              refine gx_val (.bool b343) w344 (by kernel_rfl) (by kernel_rfl) ?_
              refine gx_nil ?_
              refine gx_thenN ?_
              refine hK340 _ _ ?_
              refine gx_ret ?_
              obtain rfl := Option.some.inj hO177
              exact gx_fin (.bool b343) (by kernel_rfl) (by kernel_rfl) ⟨_, rfl, rfl, (hS345.pick [] rfl rfl)⟩

end Go.Proofs.Ytijmponhkabeiaa
