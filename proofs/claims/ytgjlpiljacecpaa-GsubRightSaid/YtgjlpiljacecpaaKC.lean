/-
  What is right, walked.
-/
import Derived.Test.YtgjlpiljacecpaaKA
namespace Go.Proofs.Ytgjlpiljacecpaa
open Go Go.RowKit
set_option linter.unusedVariables false
set_option maxRecDepth 100000
set_option maxHeartbeats 4000000
def kRightPos (_N : Nat) (_p0 : Int) (_p1_0 : List (Int × Int × Int)) (_p1_1 : List (Int × Int × Int × Int)) (_p1_2 : List (Int × List (Bool × Int × Int))) (_p2 : Int) : Option (Bool) := none
def kRightPos_R (r : Bool) (w0 : World) (v : Value) (w : World) : Prop := v = .bool r ∧ St [] w0 w []
theorem kRightPos_ok (N : Nat) (p0 : Int) (p1_0 : List (Int × Int × Int)) (p1_1 : List (Int × Int × Int × Int)) (p1_2 : List (Int × List (Bool × Int × Int))) (p2 : Int) (A1_0 : Option Addr) (c1_0 : Nat) (vs1_0 : List Value) (ft1_0 : List Nat) (A1_1 : Option Addr) (c1_1 : Nat) (vs1_1 : List Value) (ft1_1 : List Nat) (A1_2 : Option Addr) (c1_2 : Nat) (vs1_2 : List Value) (ft1_2 : List Nat) (r : Bool) (hF : kRightPos N p0 p1_0 p1_1 p1_2 p2 = some r) (w0 : World) (hv1_0 : (fSl encapiKern A1_0 c1_0 vs1_0 p1_0).rd w0 ft1_0) (ho1_0 : Off [] w0 ft1_0) (hv1_1 : (fSl encapiMark A1_1 c1_1 vs1_1 p1_1).rd w0 ft1_1) (ho1_1 : Off [] w0 ft1_1) (hv1_2 : (fSl (pairE (intE .u16) (rowOf encapiAnchor)) A1_2 c1_2 vs1_2 p1_2).rd w0 ft1_2) (ho1_2 : Off [] w0 ft1_2) :
    Calls Try.prog 30 #[.int .u16 p0, .agg #[.slice A1_0 p1_0.length c1_0, .slice A1_1 p1_1.length c1_1, .slice A1_2 p1_2.length c1_2], .int .i64 p2] w0 fun e w => ∃ v, e = .returned v ∧ kRightPos_R r w0 v w := by
 unfold kRightPos at hF
 cases hF
def kRightL_L2 (N : Nat) (p0 : List (Int × Int × (List ((List (Int × Int)) × (List (Int × List Int)) × (List (List Int × Int)) × List (List Int) × List (List Int) × List (List Int) × List (Int × Int))) × List ((List (Int × Int × Int)) × (List (Int × Int × Int × Int)) × List (Int × List (Bool × Int × Int))))) (p1 : Int) (x21 : Int) : Nat → Int → Option (Ctl (Unit) (Bool))
 | 0, _ => none
 | k341+1, x340 => ((ixg p0 x21).bind fun x347 => (if x340 < (((x347.2.2.1).length : Nat) : Int) then ((ixg p0 x21).bind fun x383 => ((ixg p0 x21).bind fun x412 => ((ixg x412.2.2.1 x340).bind fun x441 => ((kRightSub N x383.1 x441.1 x441.2.1 x441.2.2.1 x441.2.2.2.1 x441.2.2.2.2.1 x441.2.2.2.2.2.1 x441.2.2.2.2.2.2 p1 ((p0.length : Nat) : Int)).bind fun b504 => (match b504 with | true => kRightL_L2 N p0 p1 x21 k341 (IntKind.i64.wrap (x340 + 1)) | false => some (Ctl.ret false)))))) else some (Ctl.go ())))
def kRightL_L3 (N : Nat) (p0 : List (Int × Int × (List ((List (Int × Int)) × (List (Int × List Int)) × (List (List Int × Int)) × List (List Int) × List (List Int) × List (List Int) × List (Int × Int))) × List ((List (Int × Int × Int)) × (List (Int × Int × Int × Int)) × List (Int × List (Bool × Int × Int))))) (p1 : Int) (x21 : Int) : Nat → Int → Option (Ctl (Unit) (Bool))
 | 0, _ => none
 | k517+1, x516 => ((ixg p0 x21).bind fun x523 => (if x516 < (((x523.2.2.2).length : Nat) : Int) then ((ixg p0 x21).bind fun x559 => ((ixg p0 x21).bind fun x588 => ((ixg x588.2.2.2 x516).bind fun x617 => ((kRightPos N x559.1 x617.1 x617.2.1 x617.2.2 p1).bind fun b648 => (match b648 with | true => kRightL_L3 N p0 p1 x21 k517 (IntKind.i64.wrap (x516 + 1)) | false => some (Ctl.ret false)))))) else some (Ctl.go ())))
def kRightL_L1 (N : Nat) (p0 : List (Int × Int × (List ((List (Int × Int)) × (List (Int × List Int)) × (List (List Int × Int)) × List (List Int) × List (List Int) × List (List Int) × List (Int × Int))) × List ((List (Int × Int × Int)) × (List (Int × Int × Int × Int)) × List (Int × List (Bool × Int × Int))))) (p1 : Int) (p2 : Bool) : Nat → Int → Option (Ctl (Unit) (Bool))
 | 0, _ => none
 | k22+1, x21 => (if x21 < ((p0.length : Nat) : Int) then ((((((ixg p0 x21).bind fun x43 => (((if x43.2.1 > 14 then some (true) else ((ixg p0 x21).bind fun x81 => (if (Int.tmod x81.2.1 2) ≠ 0 then some (true) else some (false)))) : Option (Bool)).bind fun b75 => (((match b75 with | true => some (true) | false => (match p2 with | true => ((ixg p0 x21).bind fun x119 => (((if (((x119.2.2.2).length : Nat) : Int) > 0 then some (true) else ((ixg p0 x21).bind fun x157 => (if (((x157.2.2.1).length : Nat) : Int) = 0 then some (true) else some (false)))) : Option (Bool)).bind fun b151 => (((match b151 with | true => some (true) | false => ((ixg p0 x21).bind fun x195 => (if (((x195.2.2.1).length : Nat) : Int) > 256 then some (true) else some (false)))) : Option (Bool)).bind fun b190 => some (b190)))) | false => some (false))) : Option (Bool)).bind fun b114 => (match b114 with | true => some (Ctl.ret false) | false => (match p2 with | true => some (Ctl.go ()) | false => ((ixg p0 x21).bind fun x227 => (((if (((x227.2.2.1).length : Nat) : Int) > 0 then some (true) else ((ixg p0 x21).bind fun x265 => (if (((x265.2.2.2).length : Nat) : Int) = 0 then some (true) else some (false)))) : Option (Bool)).bind fun b259 => (match b259 with | true => some (Ctl.ret false) | false => ((ixg p0 x21).bind fun x297 => (if (((x297.2.2.2).length : Nat) : Int) > 256 then some (Ctl.ret false) else some (Ctl.go ()))))))))))) : Option (Ctl (Unit) (Bool))).bind fun | Ctl.go () => ((kRightL_L2 N p0 p1 x21 N 0 : Option (Ctl (Unit) (Bool))).bind fun | Ctl.go () => kRightL_L3 N p0 p1 x21 N 0 | Ctl.ret r => some (Ctl.ret r)) | Ctl.ret r => some (Ctl.ret r)) : Option (Ctl (Unit) (Bool))).bind fun | Ctl.go () => kRightL_L1 N p0 p1 p2 k22 (IntKind.i64.wrap (x21 + 1)) | Ctl.ret r => some (Ctl.ret r)) else some (Ctl.go ()))
def kRightL (N : Nat) (p0 : List (Int × Int × (List ((List (Int × Int)) × (List (Int × List Int)) × (List (List Int × Int)) × List (List Int) × List (List Int) × List (List Int) × List (Int × Int))) × List ((List (Int × Int × Int)) × (List (Int × Int × Int × Int)) × List (Int × List (Bool × Int × Int))))) (p1 : Int) (p2 : Bool) : Option (Bool) :=
 (if ((p0.length : Nat) : Int) > 256 then some false else ((kRightL_L1 N p0 p1 p2 N 0 : Option (Ctl (Unit) (Bool))).bind fun | Ctl.go () => some true | Ctl.ret r => some r))
def kRightL_R (r : Bool) (w0 : World) (v : Value) (w : World) : Prop := v = .bool r ∧ St [] w0 w []
theorem kRightL_ok (N : Nat) (p0 : List (Int × Int × (List ((List (Int × Int)) × (List (Int × List Int)) × (List (List Int × Int)) × List (List Int) × List (List Int) × List (List Int) × List (Int × Int))) × List ((List (Int × Int × Int)) × (List (Int × Int × Int × Int)) × List (Int × List (Bool × Int × Int))))) (p1 : Int) (p2 : Bool) (A0 : Option Addr) (c0 : Nat) (vs0 : List Value) (ft0 : List Nat) (r : Bool) (hF : kRightL N p0 p1 p2 = some r) (w0 : World) (hv0 : (fSl encapiLookup A0 c0 vs0 p0).rd w0 ft0) (ho0 : Off [] w0 ft0) :
  Calls Try.prog 12 #[.slice A0 p0.length c0, .int .i64 p1, .bool p2] w0 fun e w => ∃ v, e = .returned v ∧ kRightL_R r w0 v w := by
 have hS0 := (St.start w0).pool0
 unfold kRightL at hF
 refine calls_of Try.func12 rfl ⟨((.slice A0 p0.length c0) :: (i6 p1) :: (.bool p2) :: un 146 ([])).toArray, []⟩ (by as_aux_lemma => kernel_rfl) (gx_seq (fun K1 hK2 => gx_region (gx_kA (.bool false) w0 (gx_nil (gx_thenN (hK2 _ _ (gx_seq (fun K3 hK4 => ?_))))))))
 refine gx_seq (fun K5 hK6 => gx_region (gx_kA (.slice A0 p0.length c0) w0 (gx_kA (i6 ((p0.length : Nat) : Int)) w0 ?_)))
 rcases if_in hF with ⟨h7, hF⟩ | ⟨h7, hF⟩
 refine gx_vA (.bool true) w0 (rbE (decide_eq_true h7)) (gx_nil (gx_thenN (hK6 _ _ (gx_yes (by as_aux_lemma => kernel_rfl) (gx_seq (fun K8 hK9 => gx_region (gx_kA (.bool false) w0 ?_)))))))
 refine gx_nil (gx_thenN (hK9 _ _ (gx_ret (gx_thenR ?_))))
 obtain rfl := sj hF
 exact gxF (.bool false) ⟨_, rfl, rfl, (hS0.pick [] rfl rfl)⟩
 refine gx_vA (.bool false) w0 (rbE (decide_eq_false h7)) (gx_nil (gx_thenN (hK6 _ _ (gx_no (by as_aux_lemma => kernel_rfl) (gx_pass (gx_thenN (hK4 _ _ ?_)))))))
 obtain ⟨c13, hE14, hO15⟩ := bind_in hF
 refine gx_cut (fun a w => selfA (fun u12 => ⟨((u12 0) :: (i6 p1) :: (.bool p2) :: un 3 (dd u12 6 5 ((i6 ((p0.length : Nat) : Int)) :: (.bool false) :: dd u12 13 136 ([])))).toArray, []⟩) a ∧ Ctl.go () = c13 ∧ St [] w0 w [poolE ([]) w0]) ?_ ?_
 refine gx_seq (fun K16 hK17 => gx_region (gx_kA (i6 0) w0 (gx_nil (gx_thenN (hK17 _ _ (gx_block (gx_loop (fun k a w => ∃ (x21 : Int), selfA (fun u20 => ⟨((.slice A0 p0.length c0) :: (i6 p1) :: (.bool p2) :: un 3 ((u20 6) :: (i6 x21) :: dd u20 8 3 ((i6 ((p0.length : Nat) : Int)) :: (.bool false) :: dd u20 13 136 ([])))).toArray, []⟩) a ∧ kRightL_L1 N p0 p1 p2 k x21 = some c13 ∧ St [] w0 w [poolE ([]) w0]) N ?_ ?_)))))))
 exact ⟨0, selfX, hE14, hS0⟩
 rintro k22 _ w18 ⟨x21, hq658, hL23, hS19⟩
 obtain ⟨u20, rfl⟩ := selfA_u hq658
 rcases k22 with _ | k22
 cases hL23
 first | rw [kRightL_L1] at hL23 | unfold kRightL_L1 at hL23
 refine gx_seq (fun K24 hK25 => gx_seq (fun K26 hK27 => gx_region (gx_kA (i6 x21) w18 (gx_kA (.slice A0 p0.length c0) w18 (gx_kA (i6 ((p0.length : Nat) : Int)) w18 ?_)))))
 rcases if_in hL23 with ⟨h28, hL23⟩ | ⟨h28, hL23⟩
 refine gx_vA (.bool true) w18 (rbE (decide_eq_true h28)) (gx_nil (gx_thenN (hK27 _ _ (gx_yes (by as_aux_lemma => kernel_rfl) (gx_pass (gx_thenN (hK25 _ _ ?_)))))))
 obtain ⟨c32, hE33, hO34⟩ := bind_in hL23
 refine gx_cut (fun a w => selfA (fun u31 => ⟨((.slice A0 p0.length c0) :: (i6 p1) :: (.bool p2) :: un 3 ((u31 6) :: (i6 x21) :: dd u31 8 2 ((u20 10) :: (i6 ((p0.length : Nat) : Int)) :: (.bool false) :: (i6 x21) :: (u31 14) :: (i6 ((p0.length : Nat) : Int)) :: (.bool true) :: dd u20 17 2 (dd u31 19 130 ([]))))).toArray, []⟩) a ∧ Ctl.go () = c32 ∧ St [] w0 w [poolE ([]) w0]) ?_ ?_
 refine gx_block ?_
 obtain ⟨c38, hE39, hO40⟩ := bind_in hE33
 refine gx_cut (fun a w => selfA (fun u37 => ⟨((.slice A0 p0.length c0) :: (i6 p1) :: (.bool p2) :: un 3 ((u37 6) :: (i6 x21) :: dd u20 8 3 ((i6 ((p0.length : Nat) : Int)) :: (.bool false) :: (i6 x21) :: (u37 14) :: (i6 ((p0.length : Nat) : Int)) :: (.bool true) :: dd u20 17 2 (dd u37 19 76 (dd u20 95 54 ([])))))).toArray, []⟩) a ∧ Ctl.go () = c38 ∧ St [] w0 w [poolE ([]) w0]) ?_ ?_
 refine gx_seq (fun K41 hK42 => gx_region (gx_kA (.slice A0 p0.length c0) w18 (gx_kA (i6 x21) w18 ?_)))
 obtain ⟨x43, hx44, hE39⟩ := bind_in hE39
 obtain ⟨g45, o46, e47, hA48, he49, h50, ha51⟩ := elem_at (e := encapiLookup) (sl_lies (hS19.inn ho0 hv0)) (sl_each hv0) hx44 (by decide)
 obtain ⟨e52, e53, rfl, h54, h55⟩ := h50
 obtain rfl := h54
 obtain ⟨e56, e57, rfl, h58, h59⟩ := h55
 obtain rfl := h58
 obtain ⟨e60, e61, rfl, h62, h63⟩ := h59
 obtain ⟨A64, c65, vs66, rfl, hf67⟩ := h62
 obtain ⟨A68, c69, vs70, rfl, hf71⟩ := h63
 have ha51 : ∀ w', Lies w' A0 vs0 → w'.rangeAt g45 o46 [u6 x43.1, u6 x43.2.1, .slice A64 ((x43.2.2.1).length) c65, .slice A68 ((x43.2.2.2).length) c69] := ha51
 refine gx_vA (.pointer (some ⟨g45, o46, none⟩)) w18 (run_ixaddrN (E := 35) (s := 4) (k := .i64) (c := c0) rfl (by as_aux_lemma => kernel_rfl) (by as_aux_lemma => kernel_rfl) (by as_aux_lemma => kernel_rfl) (fun _ => by kernel_rfl) (ixg_in hx44).1 (ixg_in hx44).2.1 hA48) (gx_kA (.pointer (some ⟨g45, o46 + 1, none⟩)) w18 (gx_vA (u6 x43.2.1) w18 (run_loadN1 1 rfl (by as_aux_lemma => kernel_rfl) (fun _ => by kernel_rfl) (ha51 _ (sl_lies (hS19.inn ho0 hv0))) rfl) ?_))
 obtain ⟨c76, hE77, hO78⟩ := bind_in hE39
 refine gx_part (l1 := [_, _, _, _, _, _, _, _, _, _]) (fun a w => ∃ (b75 : Bool), selfA (fun u74 => ⟨((.slice A0 p0.length c0) :: (i6 p1) :: (.bool p2) :: un 3 ((u20 6) :: (i6 x21) :: dd u20 8 3 ((i6 ((p0.length : Nat) : Int)) :: (.bool false) :: (i6 x21) :: (u74 14) :: (i6 ((p0.length : Nat) : Int)) :: (.bool true) :: dd u20 17 2 ((u74 19) :: (i6 x21) :: dd u74 21 2 ((u6 x43.2.1) :: dd u74 24 9 ((.bool b75) :: dd u20 34 115 ([]))))))).toArray, []⟩) a ∧ b75 = c76 ∧ St [] w0 w [poolE ([]) w0]) rfl ?_ ?_
 rcases if_in hE77 with ⟨h80, hE77⟩ | ⟨h80, hE77⟩
 refine gx_vA (.bool true) w18 (rbE (decide_eq_true h80)) (gx_kA (.bool true) w18 (gx_oA (gx_oA (gx_oA (gx_oA (gx_oA (gx_oA (gx_oA (gx_kA (.bool true) w18 (gx_nil (gx_thenN ?_)))))))))))
 exact ⟨true, selfX, (sj hE77), hS19⟩
 refine gx_vA (.bool false) w18 (rbE (decide_eq_false h80)) (gx_kA (.bool false) w18 (gx_kA (.slice A0 p0.length c0) w18 (gx_kA (i6 x21) w18 ?_)))
 obtain ⟨x81, hx82, hE77⟩ := bind_in hE77
 obtain ⟨g83, o84, e85, hA86, he87, h88, ha89⟩ := elem_at (e := encapiLookup) (sl_lies (hS19.inn ho0 hv0)) (sl_each hv0) hx82 (by decide)
 obtain ⟨e90, e91, rfl, h92, h93⟩ := h88
 obtain rfl := h92
 obtain ⟨e94, e95, rfl, h96, h97⟩ := h93
 obtain rfl := h96
 obtain ⟨e98, e99, rfl, h100, h101⟩ := h97
 obtain ⟨A102, c103, vs104, rfl, hf105⟩ := h100
 obtain ⟨A106, c107, vs108, rfl, hf109⟩ := h101
 have ha89 : ∀ w', Lies w' A0 vs0 → w'.rangeAt g83 o84 [u6 x81.1, u6 x81.2.1, .slice A102 ((x81.2.2.1).length) c103, .slice A106 ((x81.2.2.2).length) c107] := ha89
 refine gx_vA (.pointer (some ⟨g83, o84, none⟩)) w18 (run_ixaddrN (E := 35) (s := 4) (k := .i64) (c := c0) rfl (by as_aux_lemma => kernel_rfl) (by as_aux_lemma => kernel_rfl) (by as_aux_lemma => kernel_rfl) (fun _ => by kernel_rfl) (ixg_in hx82).1 (ixg_in hx82).2.1 hA86) (gx_kA (.pointer (some ⟨g83, o84 + 1, none⟩)) w18 (gx_vA (u6 x81.2.1) w18 (run_loadN1 1 rfl (by as_aux_lemma => kernel_rfl) (fun _ => by kernel_rfl) (ha89 _ (sl_lies (hS19.inn ho0 hv0))) rfl) (gx_kA (u6 (Int.tmod x81.2.1 2)) w18 ?_)))
 rcases if_in hE77 with ⟨h110, hE77⟩ | ⟨h110, hE77⟩
 refine gx_vA (.bool true) w18 (rbE (ne_yes h110)) (gx_kA (.bool true) w18 (gx_nil (gx_thenN ?_)))
 exact ⟨true, selfX, (sj hE77), hS19⟩
 refine gx_vA (.bool false) w18 (rbE (ne_no h110)) (gx_kA (.bool false) w18 (gx_nil (gx_thenN ?_)))
 exact ⟨false, selfX, (sj hE77), hS19⟩
 rintro _ w72 ⟨b75, hq79, rfl, hS73⟩
 obtain ⟨u74, rfl⟩ := selfA_u hq79
 try dsimp only at hO78
 obtain ⟨c115, hE116, hO117⟩ := bind_in hO78
 refine gx_part (l1 := [_, _, _, _, _, _, _, _, _, _, _, _, _, _, _, _, _, _, _, _, _, _, _, _, _, _, _, _, _, _]) (fun a w => ∃ (b114 : Bool), selfA (fun u113 => ⟨((.slice A0 p0.length c0) :: (i6 p1) :: (.bool p2) :: un 3 ((u20 6) :: (i6 x21) :: dd u20 8 3 ((i6 ((p0.length : Nat) : Int)) :: (.bool false) :: (i6 x21) :: (u74 14) :: (i6 ((p0.length : Nat) : Int)) :: (.bool true) :: dd u20 17 2 ((u74 19) :: (i6 x21) :: dd u74 21 2 ((u6 x43.2.1) :: dd u74 24 9 ((.bool b75) :: dd u113 34 29 ((.bool b114) :: dd u20 64 85 ([])))))))).toArray, []⟩) a ∧ b114 = c115 ∧ St [] w0 w [poolE ([]) w0]) rfl ?_ ?_
 refine gx_kA (.bool b75) w72 ?_
 rcases b75 with _ | _
 try dsimp only at hE116
 refine gx_kA (.bool p2) w72 (gx_kA (.bool p2) w72 ?_)
 rcases p2 with _ | _
 try dsimp only at hE116
 refine gx_oA (gx_oA (gx_oA (gx_oA (gx_oA (gx_oA (gx_oA (gx_oA (gx_oA (gx_oA (gx_oA (gx_oA (gx_oA (gx_oA (gx_oA (gx_oA (gx_oA (gx_oA (gx_oA (gx_oA (gx_oA (gx_oA (gx_oA (gx_oA (gx_oA (gx_kA (.bool false) w72 (gx_kA (.bool false) w72 (gx_nil (gx_thenN ?_))))))))))))))))))))))))))))
 exact ⟨false, selfX, (sj hE116), hS73⟩
 try dsimp only at hE116
 refine gx_kA (.slice A0 p0.length c0) w72 (gx_kA (i6 x21) w72 ?_)
 obtain ⟨x119, hx120, hE116⟩ := bind_in hE116
 obtain ⟨g121, o122, e123, hA124, he125, h126, ha127⟩ := elem_at (e := encapiLookup) (sl_lies (hS73.inn ho0 hv0)) (sl_each hv0) hx120 (by decide)
 obtain ⟨e128, e129, rfl, h130, h131⟩ := h126
 obtain rfl := h130
 obtain ⟨e132, e133, rfl, h134, h135⟩ := h131
 obtain rfl := h134
 obtain ⟨e136, e137, rfl, h138, h139⟩ := h135
 obtain ⟨A140, c141, vs142, rfl, hf143⟩ := h138
 obtain ⟨A144, c145, vs146, rfl, hf147⟩ := h139
 have ha127 : ∀ w', Lies w' A0 vs0 → w'.rangeAt g121 o122 [u6 x119.1, u6 x119.2.1, .slice A140 ((x119.2.2.1).length) c141, .slice A144 ((x119.2.2.2).length) c145] := ha127
 refine gx_vA (.pointer (some ⟨g121, o122, none⟩)) w72 (run_ixaddrN (E := 35) (s := 4) (k := .i64) (c := c0) rfl (by as_aux_lemma => kernel_rfl) (by as_aux_lemma => kernel_rfl) (by as_aux_lemma => kernel_rfl) (fun _ => by kernel_rfl) (ixg_in hx120).1 (ixg_in hx120).2.1 hA124) (gx_kA (.pointer (some ⟨g121, o122 + 3, none⟩)) w72 (gx_vA (.slice A144 ((x119.2.2.2).length) c145) w72 (run_loadN1 3 rfl (by as_aux_lemma => kernel_rfl) (fun _ => by kernel_rfl) (ha127 _ (sl_lies (hS73.inn ho0 hv0))) rfl) (gx_kA (i6 (((x119.2.2.2).length : Nat) : Int)) w72 ?_)))
 obtain ⟨c152, hE153, hO154⟩ := bind_in hE116
 refine gx_part (l1 := [_, _, _, _, _, _, _, _, _, _]) (fun a w => ∃ (b151 : Bool), selfA (fun u150 => ⟨((.slice A0 p0.length c0) :: (i6 p1) :: (.bool true) :: un 3 ((u20 6) :: (i6 x21) :: dd u20 8 3 ((i6 ((p0.length : Nat) : Int)) :: (.bool false) :: (i6 x21) :: (u74 14) :: (i6 ((p0.length : Nat) : Int)) :: (.bool true) :: dd u20 17 2 ((u74 19) :: (i6 x21) :: dd u74 21 2 ((u6 x43.2.1) :: dd u74 24 9 ((.bool false) :: (.bool false) :: (.bool true) :: (.bool true) :: (u150 37) :: (i6 x21) :: dd u150 39 3 ((i6 (((x119.2.2.2).length : Nat) : Int)) :: dd u150 43 9 ((.bool b151) :: dd u20 53 96 ([]))))))))).toArray, []⟩) a ∧ b151 = c152 ∧ St [] w0 w [poolE ([]) w0]) rfl ?_ ?_
 rcases if_in hE153 with ⟨h156, hE153⟩ | ⟨h156, hE153⟩
 refine gx_vA (.bool true) w72 (rbE (decide_eq_true h156)) (gx_kA (.bool true) w72 (gx_oA (gx_oA (gx_oA (gx_oA (gx_oA (gx_oA (gx_oA (gx_kA (.bool true) w72 (gx_nil (gx_thenN ?_)))))))))))
 exact ⟨true, selfX, (sj hE153), hS73⟩
 refine gx_vA (.bool false) w72 (rbE (decide_eq_false h156)) (gx_kA (.bool false) w72 (gx_kA (.slice A0 p0.length c0) w72 (gx_kA (i6 x21) w72 ?_)))
 obtain ⟨x157, hx158, hE153⟩ := bind_in hE153
 obtain ⟨g159, o160, e161, hA162, he163, h164, ha165⟩ := elem_at (e := encapiLookup) (sl_lies (hS73.inn ho0 hv0)) (sl_each hv0) hx158 (by decide)
 obtain ⟨e166, e167, rfl, h168, h169⟩ := h164
 obtain rfl := h168
 obtain ⟨e170, e171, rfl, h172, h173⟩ := h169
 obtain rfl := h172
 obtain ⟨e174, e175, rfl, h176, h177⟩ := h173
 obtain ⟨A178, c179, vs180, rfl, hf181⟩ := h176
 obtain ⟨A182, c183, vs184, rfl, hf185⟩ := h177
 have ha165 : ∀ w', Lies w' A0 vs0 → w'.rangeAt g159 o160 [u6 x157.1, u6 x157.2.1, .slice A178 ((x157.2.2.1).length) c179, .slice A182 ((x157.2.2.2).length) c183] := ha165
 refine gx_vA (.pointer (some ⟨g159, o160, none⟩)) w72 (run_ixaddrN (E := 35) (s := 4) (k := .i64) (c := c0) rfl (by as_aux_lemma => kernel_rfl) (by as_aux_lemma => kernel_rfl) (by as_aux_lemma => kernel_rfl) (fun _ => by kernel_rfl) (ixg_in hx158).1 (ixg_in hx158).2.1 hA162) (gx_kA (.pointer (some ⟨g159, o160 + 2, none⟩)) w72 (gx_vA (.slice A178 ((x157.2.2.1).length) c179) w72 (run_loadN1 2 rfl (by as_aux_lemma => kernel_rfl) (fun _ => by kernel_rfl) (ha165 _ (sl_lies (hS73.inn ho0 hv0))) rfl) (gx_kA (i6 (((x157.2.2.1).length : Nat) : Int)) w72 ?_)))
 rcases if_in hE153 with ⟨h186, hE153⟩ | ⟨h186, hE153⟩
 refine gx_vA (.bool true) w72 (rbE (decide_eq_true h186)) (gx_kA (.bool true) w72 (gx_nil (gx_thenN ?_)))
 exact ⟨true, selfX, (sj hE153), hS73⟩
 refine gx_vA (.bool false) w72 (rbE (decide_eq_false h186)) (gx_kA (.bool false) w72 (gx_nil (gx_thenN ?_)))
 exact ⟨false, selfX, (sj hE153), hS73⟩
 rintro _ w148 ⟨b151, hq155, rfl, hS149⟩
 obtain ⟨u150, rfl⟩ := selfA_u hq155
 try dsimp only at hO154
 obtain ⟨c191, hE192, hO193⟩ := bind_in hO154
 refine gx_part (l1 := [_, _, _, _, _, _, _, _, _]) (fun a w => ∃ (b190 : Bool), selfA (fun u189 => ⟨((.slice A0 p0.length c0) :: (i6 p1) :: (.bool true) :: un 3 ((u20 6) :: (i6 x21) :: dd u20 8 3 ((i6 ((p0.length : Nat) : Int)) :: (.bool false) :: (i6 x21) :: (u74 14) :: (i6 ((p0.length : Nat) : Int)) :: (.bool true) :: dd u20 17 2 ((u74 19) :: (i6 x21) :: dd u74 21 2 ((u6 x43.2.1) :: dd u74 24 9 ((.bool false) :: (.bool false) :: (.bool true) :: (.bool true) :: (u150 37) :: (i6 x21) :: dd u150 39 3 ((i6 (((x119.2.2.2).length : Nat) : Int)) :: dd u150 43 9 ((.bool b151) :: dd u189 53 8 ((.bool b190) :: dd u20 62 87 ([])))))))))).toArray, []⟩) a ∧ b190 = c191 ∧ St [] w0 w [poolE ([]) w0]) rfl ?_ ?_
 refine gx_kA (.bool b151) w148 ?_
 rcases b151 with _ | _
 try dsimp only at hE192
 refine gx_kA (.slice A0 p0.length c0) w148 (gx_kA (i6 x21) w148 ?_)
 obtain ⟨x195, hx196, hE192⟩ := bind_in hE192
 obtain ⟨g197, o198, e199, hA200, he201, h202, ha203⟩ := elem_at (e := encapiLookup) (sl_lies (hS149.inn ho0 hv0)) (sl_each hv0) hx196 (by decide)
 obtain ⟨e204, e205, rfl, h206, h207⟩ := h202
 obtain rfl := h206
 obtain ⟨e208, e209, rfl, h210, h211⟩ := h207
 obtain rfl := h210
 obtain ⟨e212, e213, rfl, h214, h215⟩ := h211
 obtain ⟨A216, c217, vs218, rfl, hf219⟩ := h214
 obtain ⟨A220, c221, vs222, rfl, hf223⟩ := h215
 have ha203 : ∀ w', Lies w' A0 vs0 → w'.rangeAt g197 o198 [u6 x195.1, u6 x195.2.1, .slice A216 ((x195.2.2.1).length) c217, .slice A220 ((x195.2.2.2).length) c221] := ha203
 refine gx_vA (.pointer (some ⟨g197, o198, none⟩)) w148 (run_ixaddrN (E := 35) (s := 4) (k := .i64) (c := c0) rfl (by as_aux_lemma => kernel_rfl) (by as_aux_lemma => kernel_rfl) (by as_aux_lemma => kernel_rfl) (fun _ => by kernel_rfl) (ixg_in hx196).1 (ixg_in hx196).2.1 hA200) (gx_kA (.pointer (some ⟨g197, o198 + 2, none⟩)) w148 (gx_vA (.slice A216 ((x195.2.2.1).length) c217) w148 (run_loadN1 2 rfl (by as_aux_lemma => kernel_rfl) (fun _ => by kernel_rfl) (ha203 _ (sl_lies (hS149.inn ho0 hv0))) rfl) (gx_kA (i6 (((x195.2.2.1).length : Nat) : Int)) w148 ?_)))
 rcases if_in hE192 with ⟨h224, hE192⟩ | ⟨h224, hE192⟩
 refine gx_vA (.bool true) w148 (rbE (decide_eq_true h224)) (gx_kA (.bool true) w148 (gx_nil (gx_thenN ?_)))
 exact ⟨true, selfX, (sj hE192), hS149⟩
 refine gx_vA (.bool false) w148 (rbE (decide_eq_false h224)) (gx_kA (.bool false) w148 (gx_nil (gx_thenN ?_)))
 exact ⟨false, selfX, (sj hE192), hS149⟩
 try dsimp only at hE192
 refine gx_oA (gx_oA (gx_oA (gx_oA (gx_oA (gx_oA (gx_oA (gx_kA (.bool true) w148 (gx_nil (gx_thenN ?_)))))))))
 exact ⟨true, selfX, (sj hE192), hS149⟩
 rintro _ w187 ⟨b190, hq194, rfl, hS188⟩
 obtain ⟨u189, rfl⟩ := selfA_u hq194
 try dsimp only at hO193
 refine gx_kA (.bool b190) w187 (gx_kA (.bool b190) w187 (gx_nil (gx_thenN ?_)))
 exact ⟨b190, selfX, (sj hO193), hS188⟩
 try dsimp only at hE116
 refine gx_oA (gx_oA (gx_oA (gx_oA (gx_oA (gx_oA (gx_oA (gx_oA (gx_oA (gx_oA (gx_oA (gx_oA (gx_oA (gx_oA (gx_oA (gx_oA (gx_oA (gx_oA (gx_oA (gx_oA (gx_oA (gx_oA (gx_oA (gx_oA (gx_oA (gx_oA (gx_oA (gx_oA (gx_kA (.bool true) w72 (gx_nil (gx_thenN ?_))))))))))))))))))))))))))))))
 exact ⟨true, selfX, (sj hE116), hS73⟩
 rintro _ w111 ⟨b114, hq118, rfl, hS112⟩
 obtain ⟨u113, rfl⟩ := selfA_u hq118
 try dsimp only at hO117
 refine gx_kA (.bool b114) w111 ?_
 rcases b114 with _ | _
 try dsimp only at hO117
 refine gx_kA (.bool p2) w111 ?_
 rcases p2 with _ | _
 try dsimp only at hO117
 refine gx_kA (.bool true) w111 (gx_kA (.bool true) w111 (gx_kA (.slice A0 p0.length c0) w111 (gx_kA (i6 x21) w111 ?_)))
 obtain ⟨x227, hx228, hO117⟩ := bind_in hO117
 obtain ⟨g229, o230, e231, hA232, he233, h234, ha235⟩ := elem_at (e := encapiLookup) (sl_lies (hS112.inn ho0 hv0)) (sl_each hv0) hx228 (by decide)
 obtain ⟨e236, e237, rfl, h238, h239⟩ := h234
 obtain rfl := h238
 obtain ⟨e240, e241, rfl, h242, h243⟩ := h239
 obtain rfl := h242
 obtain ⟨e244, e245, rfl, h246, h247⟩ := h243
 obtain ⟨A248, c249, vs250, rfl, hf251⟩ := h246
 obtain ⟨A252, c253, vs254, rfl, hf255⟩ := h247
 have ha235 : ∀ w', Lies w' A0 vs0 → w'.rangeAt g229 o230 [u6 x227.1, u6 x227.2.1, .slice A248 ((x227.2.2.1).length) c249, .slice A252 ((x227.2.2.2).length) c253] := ha235
 refine gx_vA (.pointer (some ⟨g229, o230, none⟩)) w111 (run_ixaddrN (E := 35) (s := 4) (k := .i64) (c := c0) rfl (by as_aux_lemma => kernel_rfl) (by as_aux_lemma => kernel_rfl) (by as_aux_lemma => kernel_rfl) (fun _ => by kernel_rfl) (ixg_in hx228).1 (ixg_in hx228).2.1 hA232) (gx_kA (.pointer (some ⟨g229, o230 + 2, none⟩)) w111 (gx_vA (.slice A248 ((x227.2.2.1).length) c249) w111 (run_loadN1 2 rfl (by as_aux_lemma => kernel_rfl) (fun _ => by kernel_rfl) (ha235 _ (sl_lies (hS112.inn ho0 hv0))) rfl) (gx_kA (i6 (((x227.2.2.1).length : Nat) : Int)) w111 ?_)))
 obtain ⟨c260, hE261, hO262⟩ := bind_in hO117
 refine gx_part (l1 := [_, _, _, _, _, _, _, _, _, _]) (fun a w => ∃ (b259 : Bool), selfA (fun u258 => ⟨((.slice A0 p0.length c0) :: (i6 p1) :: (.bool false) :: un 3 ((u20 6) :: (i6 x21) :: dd u20 8 3 ((i6 ((p0.length : Nat) : Int)) :: (.bool false) :: (i6 x21) :: (u74 14) :: (i6 ((p0.length : Nat) : Int)) :: (.bool true) :: dd u20 17 2 ((u74 19) :: (i6 x21) :: dd u74 21 2 ((u6 x43.2.1) :: dd u74 24 9 ((.bool b75) :: dd u113 34 29 ((.bool false) :: (.bool false) :: (.bool false) :: (.bool true) :: (.bool true) :: (u258 68) :: (i6 x21) :: dd u258 70 3 ((i6 (((x227.2.2.1).length : Nat) : Int)) :: dd u258 74 9 ((.bool b259) :: dd u20 84 65 ([])))))))))).toArray, []⟩) a ∧ b259 = c260 ∧ St [] w0 w [poolE ([]) w0]) rfl ?_ ?_
 rcases if_in hE261 with ⟨h264, hE261⟩ | ⟨h264, hE261⟩
 refine gx_vA (.bool true) w111 (rbE (decide_eq_true h264)) (gx_kA (.bool true) w111 (gx_oA (gx_oA (gx_oA (gx_oA (gx_oA (gx_oA (gx_oA (gx_kA (.bool true) w111 (gx_nil (gx_thenN ?_)))))))))))
 exact ⟨true, selfX, (sj hE261), hS112⟩
 refine gx_vA (.bool false) w111 (rbE (decide_eq_false h264)) (gx_kA (.bool false) w111 (gx_kA (.slice A0 p0.length c0) w111 (gx_kA (i6 x21) w111 ?_)))
 obtain ⟨x265, hx266, hE261⟩ := bind_in hE261
 obtain ⟨g267, o268, e269, hA270, he271, h272, ha273⟩ := elem_at (e := encapiLookup) (sl_lies (hS112.inn ho0 hv0)) (sl_each hv0) hx266 (by decide)
 obtain ⟨e274, e275, rfl, h276, h277⟩ := h272
 obtain rfl := h276
 obtain ⟨e278, e279, rfl, h280, h281⟩ := h277
 obtain rfl := h280
 obtain ⟨e282, e283, rfl, h284, h285⟩ := h281
 obtain ⟨A286, c287, vs288, rfl, hf289⟩ := h284
 obtain ⟨A290, c291, vs292, rfl, hf293⟩ := h285
 have ha273 : ∀ w', Lies w' A0 vs0 → w'.rangeAt g267 o268 [u6 x265.1, u6 x265.2.1, .slice A286 ((x265.2.2.1).length) c287, .slice A290 ((x265.2.2.2).length) c291] := ha273
 refine gx_vA (.pointer (some ⟨g267, o268, none⟩)) w111 (run_ixaddrN (E := 35) (s := 4) (k := .i64) (c := c0) rfl (by as_aux_lemma => kernel_rfl) (by as_aux_lemma => kernel_rfl) (by as_aux_lemma => kernel_rfl) (fun _ => by kernel_rfl) (ixg_in hx266).1 (ixg_in hx266).2.1 hA270) (gx_kA (.pointer (some ⟨g267, o268 + 3, none⟩)) w111 (gx_vA (.slice A290 ((x265.2.2.2).length) c291) w111 (run_loadN1 3 rfl (by as_aux_lemma => kernel_rfl) (fun _ => by kernel_rfl) (ha273 _ (sl_lies (hS112.inn ho0 hv0))) rfl) (gx_kA (i6 (((x265.2.2.2).length : Nat) : Int)) w111 ?_)))
 rcases if_in hE261 with ⟨h294, hE261⟩ | ⟨h294, hE261⟩
 refine gx_vA (.bool true) w111 (rbE (decide_eq_true h294)) (gx_kA (.bool true) w111 (gx_nil (gx_thenN ?_)))
 exact ⟨true, selfX, (sj hE261), hS112⟩
 refine gx_vA (.bool false) w111 (rbE (decide_eq_false h294)) (gx_kA (.bool false) w111 (gx_nil (gx_thenN ?_)))
 exact ⟨false, selfX, (sj hE261), hS112⟩
 rintro _ w256 ⟨b259, hq263, rfl, hS257⟩
 obtain ⟨u258, rfl⟩ := selfA_u hq263
 try dsimp only at hO262
 refine gx_kA (.bool b259) w256 ?_
 rcases b259 with _ | _
 try dsimp only at hO262
 refine gx_kA (.slice A0 p0.length c0) w256 (gx_kA (i6 x21) w256 ?_)
 obtain ⟨x297, hx298, hO262⟩ := bind_in hO262
 obtain ⟨g299, o300, e301, hA302, he303, h304, ha305⟩ := elem_at (e := encapiLookup) (sl_lies (hS257.inn ho0 hv0)) (sl_each hv0) hx298 (by decide)
 obtain ⟨e306, e307, rfl, h308, h309⟩ := h304
 obtain rfl := h308
 obtain ⟨e310, e311, rfl, h312, h313⟩ := h309
 obtain rfl := h312
 obtain ⟨e314, e315, rfl, h316, h317⟩ := h313
 obtain ⟨A318, c319, vs320, rfl, hf321⟩ := h316
 obtain ⟨A322, c323, vs324, rfl, hf325⟩ := h317
 have ha305 : ∀ w', Lies w' A0 vs0 → w'.rangeAt g299 o300 [u6 x297.1, u6 x297.2.1, .slice A318 ((x297.2.2.1).length) c319, .slice A322 ((x297.2.2.2).length) c323] := ha305
 refine gx_vA (.pointer (some ⟨g299, o300, none⟩)) w256 (run_ixaddrN (E := 35) (s := 4) (k := .i64) (c := c0) rfl (by as_aux_lemma => kernel_rfl) (by as_aux_lemma => kernel_rfl) (by as_aux_lemma => kernel_rfl) (fun _ => by kernel_rfl) (ixg_in hx298).1 (ixg_in hx298).2.1 hA302) (gx_kA (.pointer (some ⟨g299, o300 + 3, none⟩)) w256 (gx_vA (.slice A322 ((x297.2.2.2).length) c323) w256 (run_loadN1 3 rfl (by as_aux_lemma => kernel_rfl) (fun _ => by kernel_rfl) (ha305 _ (sl_lies (hS257.inn ho0 hv0))) rfl) (gx_kA (i6 (((x297.2.2.2).length : Nat) : Int)) w256 ?_)))
 rcases if_in hO262 with ⟨h326, hO262⟩ | ⟨h326, hO262⟩
 refine gx_vA (.bool true) w256 (rbE (decide_eq_true h326)) (gx_kA (.bool true) w256 (gx_kA (.bool true) w256 (gx_kA (.bool true) w256 (gx_nil (gx_thenN (hK42 _ _ (gx_yes (by as_aux_lemma => kernel_rfl) (gx_seq (fun K327 hK328 => gx_region ?_)))))))))
 refine gx_kA (.bool false) w256 (gx_nil (gx_thenN (hK328 _ _ (gx_ret (gx_thenR ?_)))))
 obtain rfl := sj hO262
 try dsimp only at hO40
 refine gx_blkR (gx_thenR ?_)
 obtain rfl := sj hO40
 try dsimp only at hO34
 refine gx_thenR (gx_blkR (gx_thenR ?_))
 obtain rfl := sj hO34
 try dsimp only at hO15
 obtain rfl := sj hO15
 exact gxF (.bool false) ⟨_, rfl, rfl, (hS257.pick [] rfl rfl)⟩
 refine gx_vA (.bool false) w256 (rbE (decide_eq_false h326)) (gx_kA (.bool false) w256 (gx_kA (.bool false) w256 (gx_kA (.bool false) w256 (gx_nil (gx_thenN (hK42 _ _ (gx_no (by as_aux_lemma => kernel_rfl) (gx_pass (gx_thenN ?_)))))))))
 exact ⟨selfX, (sj hO262), hS257⟩
 try dsimp only at hO262
 refine gx_oA (gx_oA (gx_oA (gx_oA (gx_oA (gx_oA (gx_oA (gx_kA (.bool true) w256 (gx_kA (.bool true) w256 (gx_kA (.bool true) w256 (gx_nil (gx_thenN (hK42 _ _ (gx_yes (by as_aux_lemma => kernel_rfl) (gx_seq (fun K295 hK296 => gx_region ?_)))))))))))))))
 refine gx_kA (.bool false) w256 (gx_nil (gx_thenN (hK296 _ _ (gx_ret (gx_thenR ?_)))))
 obtain rfl := sj hO262
 try dsimp only at hO40
 refine gx_blkR (gx_thenR ?_)
 obtain rfl := sj hO40
 try dsimp only at hO34
 refine gx_thenR (gx_blkR (gx_thenR ?_))
 obtain rfl := sj hO34
 try dsimp only at hO15
 obtain rfl := sj hO15
 exact gxF (.bool false) ⟨_, rfl, rfl, (hS257.pick [] rfl rfl)⟩
 try dsimp only at hO117
 refine gx_kA (.bool false) w111 (gx_kA (.bool false) w111 (gx_oA (gx_oA (gx_oA (gx_oA (gx_oA (gx_oA (gx_oA (gx_oA (gx_oA (gx_oA (gx_oA (gx_oA (gx_oA (gx_oA (gx_oA (gx_oA (gx_oA (gx_oA (gx_oA (gx_oA (gx_oA (gx_oA (gx_oA (gx_oA (gx_oA (gx_kA (.bool false) w111 (gx_kA (.bool false) w111 (gx_nil (gx_thenN (hK42 _ _ (gx_no (by as_aux_lemma => kernel_rfl) ?_))))))))))))))))))))))))))))))))
 refine gx_pass (gx_thenN ?_)
 exact ⟨selfX, (sj hO117), hS112⟩
 try dsimp only at hO117
 refine gx_oA (gx_oA (gx_oA (gx_oA (gx_oA (gx_oA (gx_oA (gx_oA (gx_oA (gx_oA (gx_oA (gx_oA (gx_oA (gx_oA (gx_oA (gx_oA (gx_oA (gx_oA (gx_oA (gx_oA (gx_oA (gx_oA (gx_oA (gx_oA (gx_oA (gx_oA (gx_oA (gx_oA (gx_oA (gx_kA (.bool true) w111 (gx_nil (gx_thenN (hK42 _ _ (gx_yes (by as_aux_lemma => kernel_rfl) ?_)))))))))))))))))))))))))))))))))
 refine gx_seq (fun K225 hK226 => gx_region (gx_kA (.bool false) w111 (gx_nil (gx_thenN (hK226 _ _ (gx_ret (gx_thenR ?_)))))))
 obtain rfl := sj hO117
 try dsimp only at hO40
 refine gx_blkR (gx_thenR ?_)
 obtain rfl := sj hO40
 try dsimp only at hO34
 refine gx_thenR (gx_blkR (gx_thenR ?_))
 obtain rfl := sj hO34
 try dsimp only at hO15
 obtain rfl := sj hO15
 exact gxF (.bool false) ⟨_, rfl, rfl, (hS112.pick [] rfl rfl)⟩
 rintro _ w35 ⟨hq656, rfl, hS36⟩
 obtain ⟨u37, rfl⟩ := selfA_u hq656
 try dsimp only at hO40
 obtain ⟨c332, hE333, hO334⟩ := bind_in hO40
 refine gx_cut (fun a w => selfA (fun u331 => ⟨((.slice A0 p0.length c0) :: (i6 p1) :: (.bool p2) :: un 3 ((u331 6) :: (i6 x21) :: (u331 8) :: dd u20 9 2 ((i6 ((p0.length : Nat) : Int)) :: (.bool false) :: (i6 x21) :: (u37 14) :: (i6 ((p0.length : Nat) : Int)) :: (.bool true) :: dd u20 17 2 (dd u37 19 76 (dd u331 95 28 (dd u20 123 26 ([]))))))).toArray, []⟩) a ∧ Ctl.go () = c332 ∧ St [] w0 w [poolE ([]) w0]) ?_ ?_
 refine gx_seq (fun K335 hK336 => gx_region (gx_kA (i6 0) w35 (gx_nil (gx_thenN (hK336 _ _ (gx_block (gx_loop (fun k a w => ∃ (x340 : Int), selfA (fun u339 => ⟨((.slice A0 p0.length c0) :: (i6 p1) :: (.bool p2) :: un 3 ((u339 6) :: (i6 x21) :: (i6 x340) :: dd u20 9 2 ((i6 ((p0.length : Nat) : Int)) :: (.bool false) :: (i6 x21) :: (u37 14) :: (i6 ((p0.length : Nat) : Int)) :: (.bool true) :: dd u20 17 2 (dd u37 19 76 (dd u339 95 28 (dd u20 123 26 ([]))))))).toArray, []⟩) a ∧ kRightL_L2 N p0 p1 x21 k x340 = some c332 ∧ St [] w0 w [poolE ([]) w0]) N ?_ ?_)))))))
 exact ⟨0, selfX, hE333, hS36⟩
 rintro k341 _ w337 ⟨x340, hq510, hL342, hS338⟩
 obtain ⟨u339, rfl⟩ := selfA_u hq510
 rcases k341 with _ | k341
 cases hL342
 first | rw [kRightL_L2] at hL342 | unfold kRightL_L2 at hL342
 refine gx_seq (fun K343 hK344 => gx_seq (fun K345 hK346 => gx_region (gx_kA (i6 x340) w337 (gx_kA (.slice A0 p0.length c0) w337 (gx_kA (i6 x21) w337 ?_)))))
 obtain ⟨x347, hx348, hL342⟩ := bind_in hL342
 obtain ⟨g349, o350, e351, hA352, he353, h354, ha355⟩ := elem_at (e := encapiLookup) (sl_lies (hS338.inn ho0 hv0)) (sl_each hv0) hx348 (by decide)
 obtain ⟨e356, e357, rfl, h358, h359⟩ := h354
 obtain rfl := h358
 obtain ⟨e360, e361, rfl, h362, h363⟩ := h359
 obtain rfl := h362
 obtain ⟨e364, e365, rfl, h366, h367⟩ := h363
 obtain ⟨A368, c369, vs370, rfl, hf371⟩ := h366
 obtain ⟨A372, c373, vs374, rfl, hf375⟩ := h367
 have ha355 : ∀ w', Lies w' A0 vs0 → w'.rangeAt g349 o350 [u6 x347.1, u6 x347.2.1, .slice A368 ((x347.2.2.1).length) c369, .slice A372 ((x347.2.2.2).length) c373] := ha355
 refine gx_vA (.pointer (some ⟨g349, o350, none⟩)) w337 (run_ixaddrN (E := 35) (s := 4) (k := .i64) (c := c0) rfl (by as_aux_lemma => kernel_rfl) (by as_aux_lemma => kernel_rfl) (by as_aux_lemma => kernel_rfl) (fun _ => by kernel_rfl) (ixg_in hx348).1 (ixg_in hx348).2.1 hA352) (gx_kA (.pointer (some ⟨g349, o350 + 2, none⟩)) w337 (gx_vA (.slice A368 ((x347.2.2.1).length) c369) w337 (run_loadN1 2 rfl (by as_aux_lemma => kernel_rfl) (fun _ => by kernel_rfl) (ha355 _ (sl_lies (hS338.inn ho0 hv0))) rfl) (gx_kA (i6 (((x347.2.2.1).length : Nat) : Int)) w337 ?_)))
 rcases if_in hL342 with ⟨h376, hL342⟩ | ⟨h376, hL342⟩
 refine gx_vA (.bool true) w337 (rbE (decide_eq_true h376)) (gx_nil (gx_thenN (hK346 _ _ (gx_yes (by as_aux_lemma => kernel_rfl) (gx_pass (gx_thenN (hK344 _ _ ?_)))))))
 refine gx_seq (fun K377 hK378 => gx_block (gx_seq (fun K379 hK380 => gdst (fun w => St [] w0 w [poolE ([]) w0]) 18 ?_)))
 have hS382 := hS338.drew
 generalize w337.drew = w381 at hS382 ⊢
 refine gv1 0 105 (.slice A0 p0.length c0) rfl hS382 (gv1 1 106 (i6 x21) rfl hS382 ?_)
 obtain ⟨x383, hx384, hL342⟩ := bind_in hL342
 obtain ⟨g385, o386, e387, hA388, he389, h390, ha391⟩ := elem_at (e := encapiLookup) (sl_lies (hS382.inn ho0 hv0)) (sl_each hv0) hx384 (by decide)
 obtain ⟨e392, e393, rfl, h394, h395⟩ := h390
 obtain rfl := h394
 obtain ⟨e396, e397, rfl, h398, h399⟩ := h395
 obtain rfl := h398
 obtain ⟨e400, e401, rfl, h402, h403⟩ := h399
 obtain ⟨A404, c405, vs406, rfl, hf407⟩ := h402
 obtain ⟨A408, c409, vs410, rfl, hf411⟩ := h403
 have ha391 : ∀ w', Lies w' A0 vs0 → w'.rangeAt g385 o386 [u6 x383.1, u6 x383.2.1, .slice A404 ((x383.2.2.1).length) c405, .slice A408 ((x383.2.2.2).length) c409] := ha391
 refine gu1 2 107 (.pointer (some ⟨g385, o386, none⟩)) rfl hS382 (fun w hSw => run_ixaddrN (E := 35) (s := 4) (k := .i64) (c := c0) rfl (by as_aux_lemma => kernel_rfl) (by as_aux_lemma => kernel_rfl) (by as_aux_lemma => kernel_rfl) (fun _ => by kernel_rfl) (ixg_in hx384).1 (ixg_in hx384).2.1 hA388) (gv1 3 108 (.pointer (some ⟨g385, o386, none⟩)) rfl hS382 (gu1 4 109 (u6 x383.1) rfl hS382 (fun w hSw => run_loadN1 0 rfl (by as_aux_lemma => kernel_rfl) (fun _ => by kernel_rfl) (ha391 _ (sl_lies (hSw.inn ho0 hv0))) rfl) (gv1 5 110 (.slice A0 p0.length c0) rfl hS382 (gv1 6 111 (i6 x21) rfl hS382 ?_))))
 obtain ⟨x412, hx413, hL342⟩ := bind_in hL342
 obtain ⟨g414, o415, e416, hA417, he418, h419, ha420⟩ := elem_at (e := encapiLookup) (sl_lies (hS382.inn ho0 hv0)) (sl_each hv0) hx413 (by decide)
 obtain ⟨e421, e422, rfl, h423, h424⟩ := h419
 obtain rfl := h423
 obtain ⟨e425, e426, rfl, h427, h428⟩ := h424
 obtain rfl := h427
 obtain ⟨e429, e430, rfl, h431, h432⟩ := h428
 obtain ⟨A433, c434, vs435, rfl, hf436⟩ := h431
 obtain ⟨A437, c438, vs439, rfl, hf440⟩ := h432
 have ha420 : ∀ w', Lies w' A0 vs0 → w'.rangeAt g414 o415 [u6 x412.1, u6 x412.2.1, .slice A433 ((x412.2.2.1).length) c434, .slice A437 ((x412.2.2.2).length) c438] := ha420
 refine gu1 7 112 (.pointer (some ⟨g414, o415, none⟩)) rfl hS382 (fun w hSw => run_ixaddrN (E := 35) (s := 4) (k := .i64) (c := c0) rfl (by as_aux_lemma => kernel_rfl) (by as_aux_lemma => kernel_rfl) (by as_aux_lemma => kernel_rfl) (fun _ => by kernel_rfl) (ixg_in hx413).1 (ixg_in hx413).2.1 hA417) (gv1 8 113 (.pointer (some ⟨g414, o415 + 2, none⟩)) rfl hS382 (gu1 9 114 (.slice A433 ((x412.2.2.1).length) c434) rfl hS382 (fun w hSw => run_loadN1 2 rfl (by as_aux_lemma => kernel_rfl) (fun _ => by kernel_rfl) (ha420 _ (sl_lies (hSw.inn ho0 hv0))) rfl) (gv1 10 115 (i6 x340) rfl hS382 ?_)))
 obtain ⟨x441, hx442, hL342⟩ := bind_in hL342
 obtain ⟨g443, o444, e445, hA446, he447, h448, ha449⟩ := elem_at (e := encapiSub) (sl_lies (hS382.inn ho0 hf436)) (sl_each hf436) hx442 (by decide)
 obtain ⟨e450, e451, rfl, h452, h453⟩ := h448
 obtain ⟨A454, c455, vs456, rfl, hf457⟩ := h452
 obtain ⟨e458, e459, rfl, h460, h461⟩ := h453
 obtain ⟨A462, c463, vs464, rfl, hf465⟩ := h460
 obtain ⟨e466, e467, rfl, h468, h469⟩ := h461
 obtain ⟨A470, c471, vs472, rfl, hf473⟩ := h468
 obtain ⟨e474, e475, rfl, h476, h477⟩ := h469
 obtain ⟨A478, c479, vs480, rfl, hf481⟩ := h476
 obtain ⟨e482, e483, rfl, h484, h485⟩ := h477
 obtain ⟨A486, c487, vs488, rfl, hf489⟩ := h484
 obtain ⟨e490, e491, rfl, h492, h493⟩ := h485
 obtain ⟨A494, c495, vs496, rfl, hf497⟩ := h492
 obtain ⟨A498, c499, vs500, rfl, hf501⟩ := h493
 have ha449 : ∀ w', Lies w' A433 vs435 → w'.rangeAt g443 o444 [.slice A454 ((x441.1).length) c455, .slice A462 ((x441.2.1).length) c463, .slice A470 ((x441.2.2.1).length) c471, .slice A478 ((x441.2.2.2.1).length) c479, .slice A486 ((x441.2.2.2.2.1).length) c487, .slice A494 ((x441.2.2.2.2.2.1).length) c495, .slice A498 ((x441.2.2.2.2.2.2).length) c499] := ha449
 refine gu1 11 116 (.pointer (some ⟨g443, o444, none⟩)) rfl hS382 (fun w hSw => run_ixaddrN (E := 43) (s := 7) (k := .i64) (c := c434) rfl (by as_aux_lemma => kernel_rfl) (by as_aux_lemma => kernel_rfl) (by as_aux_lemma => kernel_rfl) (fun _ => by kernel_rfl) (ixg_in hx442).1 (ixg_in hx442).2.1 hA446) (gu1 12 117 (.agg #[.slice A454 ((x441.1).length) c455, .slice A462 ((x441.2.1).length) c463, .slice A470 ((x441.2.2.1).length) c471, .slice A478 ((x441.2.2.2.1).length) c479, .slice A486 ((x441.2.2.2.2.1).length) c487, .slice A494 ((x441.2.2.2.2.2.1).length) c495, .slice A498 ((x441.2.2.2.2.2.2).length) c499]) rfl hS382 (fun w hSw => run_loadNG (d := _) (ec := [.slice A454 ((x441.1).length) c455, .slice A462 ((x441.2.1).length) c463, .slice A470 ((x441.2.2.1).length) c471, .slice A478 ((x441.2.2.2.1).length) c479, .slice A486 ((x441.2.2.2.2.1).length) c487, .slice A494 ((x441.2.2.2.2.2.1).length) c495, .slice A498 ((x441.2.2.2.2.2.2).length) c499]) rfl (by as_aux_lemma => kernel_rfl) (ha449 _ (sl_lies (hSw.inn ho0 hf436))) rfl rfl (by as_aux_lemma => kernel_rfl)) (gv1 13 118 (i6 p1) rfl hS382 (gv1 14 119 (.slice A0 p0.length c0) rfl hS382 (gv1 15 120 (i6 ((p0.length : Nat) : Int)) rfl hS382 ?_))))
 have hP502 : St _ _ w381 ([] ++ [poolE ([]) w0]) := hS382
 obtain ⟨b504, hc503, hL342⟩ := bind_in hL342
 try dsimp only at hL342
 refine gdC 16 ⟨some 121, _, _, _, _, _⟩ _ rfl (by as_aux_lemma => kernel_rfl) (kRightSub_ok N x383.1 x441.1 x441.2.1 x441.2.2.1 x441.2.2.2.1 x441.2.2.2.2.1 x441.2.2.2.2.2.1 x441.2.2.2.2.2.2 p1 ((p0.length : Nat) : Int) A454 c455 vs456 ft0 A462 c463 vs464 ft0 A470 c471 vs472 ft0 A478 c479 vs480 ft0 A486 c487 vs488 ft0 A494 c495 vs496 ft0 A498 c499 vs500 ft0 _ hc503 w381 (hS382.inn ho0 hf457) (hP502.offIA ho0) (hS382.inn ho0 hf465) (hP502.offIA ho0) (hS382.inn ho0 hf473) (hP502.offIA ho0) (hS382.inn ho0 hf481) (hP502.offIA ho0) (hS382.inn ho0 hf489) (hP502.offIA ho0) (hS382.inn ho0 hf497) (hP502.offIA ho0) (hS382.inn ho0 hf501) (hP502.offIA ho0)) ?_
 rintro _ w505 ⟨rfl, hT507⟩
 have hS506 : St _ _ w505 [poolE ([]) w0] := hS382.take _ hT507
 refine ⟨hS506, ?_⟩
 rcases b504 with _ | _
 try dsimp only at hL342
 refine gv1 17 122 (.bool true) rfl hS506 (gd_done (by as_aux_lemma => kernel_rfl) (gx_thenN (hK380 _ _ (gx_yes (by as_aux_lemma => kernel_rfl) (gx_seq (fun K508 hK509 => gx_region (gx_kA (.bool false) w505 ?_)))))))
 refine gx_nil (gx_thenN (hK509 _ _ (gx_ret (gx_blkR (gx_thenR (gx_thenR (gx_blkR ?_)))))))
 refine gx_thenR ?_
 obtain rfl := sj hL342
 try dsimp only at hO334
 refine gx_blkR (gx_thenR ?_)
 obtain rfl := sj hO334
 try dsimp only at hO34
 refine gx_thenR (gx_blkR (gx_thenR ?_))
 obtain rfl := sj hO34
 try dsimp only at hO15
 obtain rfl := sj hO15
 exact gxF (.bool false) ⟨_, rfl, rfl, (hS506.pick [] rfl rfl)⟩
 try dsimp only at hL342
 refine gv1 17 122 (.bool false) rfl hS506 (gd_done (by as_aux_lemma => kernel_rfl) (gx_thenN (hK380 _ _ (gx_no (by as_aux_lemma => kernel_rfl) (gx_pass (gx_blkN (gx_thenN ?_)))))))
 refine hK378 _ _ (gx_region (gx_kA (i6 x340) w505 (gx_kA (i6 (iw (x340 + 1))) w505 (gx_kA (i6 (iw (x340 + 1))) w505 (gx_nil (gx_thenN ?_))))))
 exact ⟨k341, Nat.lt_succ_self k341, (iw (x340 + 1)), selfX, hL342, hS506⟩
 refine gx_vA (.bool false) w337 (rbE (decide_eq_false h376)) (gx_nil (gx_thenN (hK346 _ _ (gx_no (by as_aux_lemma => kernel_rfl) (gx_exit (gx_thenE (gx_thenE ?_)))))))
 refine gx_blkE (gx_thenN ?_)
 exact ⟨selfX, (sj hL342), hS338⟩
 rintro _ w329 ⟨hq655, rfl, hS330⟩
 obtain ⟨u331, rfl⟩ := selfA_u hq655
 try dsimp only at hO334
 refine gx_seq (fun K511 hK512 => gx_region (gx_kA (i6 0) w329 (gx_nil (gx_thenN (hK512 _ _ (gx_block (gx_loop (fun k a w => ∃ (x516 : Int), selfA (fun u515 => ⟨((.slice A0 p0.length c0) :: (i6 p1) :: (.bool p2) :: un 3 ((u515 6) :: (i6 x21) :: (u331 8) :: (i6 x516) :: (u20 10) :: (i6 ((p0.length : Nat) : Int)) :: (.bool false) :: (i6 x21) :: (u37 14) :: (i6 ((p0.length : Nat) : Int)) :: (.bool true) :: dd u20 17 2 (dd u37 19 76 (dd u331 95 28 (dd u515 123 26 ([])))))).toArray, []⟩) a ∧ kRightL_L3 N p0 p1 x21 k x516 = some c32 ∧ St [] w0 w [poolE ([]) w0]) N ?_ ?_)))))))
 exact ⟨0, selfX, hO334, hS330⟩
 rintro k517 _ w513 ⟨x516, hq654, hL518, hS514⟩
 obtain ⟨u515, rfl⟩ := selfA_u hq654
 rcases k517 with _ | k517
 cases hL518
 first | rw [kRightL_L3] at hL518 | unfold kRightL_L3 at hL518
 refine gx_seq (fun K519 hK520 => gx_seq (fun K521 hK522 => gx_region (gx_kA (i6 x516) w513 (gx_kA (.slice A0 p0.length c0) w513 (gx_kA (i6 x21) w513 ?_)))))
 obtain ⟨x523, hx524, hL518⟩ := bind_in hL518
 obtain ⟨g525, o526, e527, hA528, he529, h530, ha531⟩ := elem_at (e := encapiLookup) (sl_lies (hS514.inn ho0 hv0)) (sl_each hv0) hx524 (by decide)
 obtain ⟨e532, e533, rfl, h534, h535⟩ := h530
 obtain rfl := h534
 obtain ⟨e536, e537, rfl, h538, h539⟩ := h535
 obtain rfl := h538
 obtain ⟨e540, e541, rfl, h542, h543⟩ := h539
 obtain ⟨A544, c545, vs546, rfl, hf547⟩ := h542
 obtain ⟨A548, c549, vs550, rfl, hf551⟩ := h543
 have ha531 : ∀ w', Lies w' A0 vs0 → w'.rangeAt g525 o526 [u6 x523.1, u6 x523.2.1, .slice A544 ((x523.2.2.1).length) c545, .slice A548 ((x523.2.2.2).length) c549] := ha531
 refine gx_vA (.pointer (some ⟨g525, o526, none⟩)) w513 (run_ixaddrN (E := 35) (s := 4) (k := .i64) (c := c0) rfl (by as_aux_lemma => kernel_rfl) (by as_aux_lemma => kernel_rfl) (by as_aux_lemma => kernel_rfl) (fun _ => by kernel_rfl) (ixg_in hx524).1 (ixg_in hx524).2.1 hA528) (gx_kA (.pointer (some ⟨g525, o526 + 3, none⟩)) w513 (gx_vA (.slice A548 ((x523.2.2.2).length) c549) w513 (run_loadN1 3 rfl (by as_aux_lemma => kernel_rfl) (fun _ => by kernel_rfl) (ha531 _ (sl_lies (hS514.inn ho0 hv0))) rfl) (gx_kA (i6 (((x523.2.2.2).length : Nat) : Int)) w513 ?_)))
 rcases if_in hL518 with ⟨h552, hL518⟩ | ⟨h552, hL518⟩
 refine gx_vA (.bool true) w513 (rbE (decide_eq_true h552)) (gx_nil (gx_thenN (hK522 _ _ (gx_yes (by as_aux_lemma => kernel_rfl) (gx_pass (gx_thenN (hK520 _ _ ?_)))))))
 refine gx_seq (fun K553 hK554 => gx_block (gx_seq (fun K555 hK556 => gdst (fun w => St [] w0 w [poolE ([]) w0]) 16 ?_)))
 have hS558 := hS514.drew
 generalize w513.drew = w557 at hS558 ⊢
 refine gv1 0 133 (.slice A0 p0.length c0) rfl hS558 (gv1 1 134 (i6 x21) rfl hS558 ?_)
 obtain ⟨x559, hx560, hL518⟩ := bind_in hL518
 obtain ⟨g561, o562, e563, hA564, he565, h566, ha567⟩ := elem_at (e := encapiLookup) (sl_lies (hS558.inn ho0 hv0)) (sl_each hv0) hx560 (by decide)
 obtain ⟨e568, e569, rfl, h570, h571⟩ := h566
 obtain rfl := h570
 obtain ⟨e572, e573, rfl, h574, h575⟩ := h571
 obtain rfl := h574
 obtain ⟨e576, e577, rfl, h578, h579⟩ := h575
 obtain ⟨A580, c581, vs582, rfl, hf583⟩ := h578
 obtain ⟨A584, c585, vs586, rfl, hf587⟩ := h579
 have ha567 : ∀ w', Lies w' A0 vs0 → w'.rangeAt g561 o562 [u6 x559.1, u6 x559.2.1, .slice A580 ((x559.2.2.1).length) c581, .slice A584 ((x559.2.2.2).length) c585] := ha567
 refine gu1 2 135 (.pointer (some ⟨g561, o562, none⟩)) rfl hS558 (fun w hSw => run_ixaddrN (E := 35) (s := 4) (k := .i64) (c := c0) rfl (by as_aux_lemma => kernel_rfl) (by as_aux_lemma => kernel_rfl) (by as_aux_lemma => kernel_rfl) (fun _ => by kernel_rfl) (ixg_in hx560).1 (ixg_in hx560).2.1 hA564) (gv1 3 136 (.pointer (some ⟨g561, o562, none⟩)) rfl hS558 (gu1 4 137 (u6 x559.1) rfl hS558 (fun w hSw => run_loadN1 0 rfl (by as_aux_lemma => kernel_rfl) (fun _ => by kernel_rfl) (ha567 _ (sl_lies (hSw.inn ho0 hv0))) rfl) (gv1 5 138 (.slice A0 p0.length c0) rfl hS558 (gv1 6 139 (i6 x21) rfl hS558 ?_))))
 obtain ⟨x588, hx589, hL518⟩ := bind_in hL518
 obtain ⟨g590, o591, e592, hA593, he594, h595, ha596⟩ := elem_at (e := encapiLookup) (sl_lies (hS558.inn ho0 hv0)) (sl_each hv0) hx589 (by decide)
 obtain ⟨e597, e598, rfl, h599, h600⟩ := h595
 obtain rfl := h599
 obtain ⟨e601, e602, rfl, h603, h604⟩ := h600
 obtain rfl := h603
 obtain ⟨e605, e606, rfl, h607, h608⟩ := h604
 obtain ⟨A609, c610, vs611, rfl, hf612⟩ := h607
 obtain ⟨A613, c614, vs615, rfl, hf616⟩ := h608
 have ha596 : ∀ w', Lies w' A0 vs0 → w'.rangeAt g590 o591 [u6 x588.1, u6 x588.2.1, .slice A609 ((x588.2.2.1).length) c610, .slice A613 ((x588.2.2.2).length) c614] := ha596
 refine gu1 7 140 (.pointer (some ⟨g590, o591, none⟩)) rfl hS558 (fun w hSw => run_ixaddrN (E := 35) (s := 4) (k := .i64) (c := c0) rfl (by as_aux_lemma => kernel_rfl) (by as_aux_lemma => kernel_rfl) (by as_aux_lemma => kernel_rfl) (fun _ => by kernel_rfl) (ixg_in hx589).1 (ixg_in hx589).2.1 hA593) (gv1 8 141 (.pointer (some ⟨g590, o591 + 3, none⟩)) rfl hS558 (gu1 9 142 (.slice A613 ((x588.2.2.2).length) c614) rfl hS558 (fun w hSw => run_loadN1 3 rfl (by as_aux_lemma => kernel_rfl) (fun _ => by kernel_rfl) (ha596 _ (sl_lies (hSw.inn ho0 hv0))) rfl) (gv1 10 143 (i6 x516) rfl hS558 ?_)))
 obtain ⟨x617, hx618, hL518⟩ := bind_in hL518
 obtain ⟨g619, o620, e621, hA622, he623, h624, ha625⟩ := elem_at (e := encapiPos) (sl_lies (hS558.inn ho0 hf616)) (sl_each hf616) hx618 (by decide)
 obtain ⟨e626, e627, rfl, h628, h629⟩ := h624
 obtain ⟨A630, c631, vs632, rfl, hf633⟩ := h628
 obtain ⟨e634, e635, rfl, h636, h637⟩ := h629
 obtain ⟨A638, c639, vs640, rfl, hf641⟩ := h636
 obtain ⟨A642, c643, vs644, rfl, hf645⟩ := h637
 have ha625 : ∀ w', Lies w' A613 vs615 → w'.rangeAt g619 o620 [.slice A630 ((x617.1).length) c631, .slice A638 ((x617.2.1).length) c639, .slice A642 ((x617.2.2).length) c643] := ha625
 refine gu1 11 144 (.pointer (some ⟨g619, o620, none⟩)) rfl hS558 (fun w hSw => run_ixaddrN (E := 86) (s := 3) (k := .i64) (c := c614) rfl (by as_aux_lemma => kernel_rfl) (by as_aux_lemma => kernel_rfl) (by as_aux_lemma => kernel_rfl) (fun _ => by kernel_rfl) (ixg_in hx618).1 (ixg_in hx618).2.1 hA622) (gu1 12 145 (.agg #[.slice A630 ((x617.1).length) c631, .slice A638 ((x617.2.1).length) c639, .slice A642 ((x617.2.2).length) c643]) rfl hS558 (fun w hSw => run_loadNG (d := _) (ec := [.slice A630 ((x617.1).length) c631, .slice A638 ((x617.2.1).length) c639, .slice A642 ((x617.2.2).length) c643]) rfl (by as_aux_lemma => kernel_rfl) (ha625 _ (sl_lies (hSw.inn ho0 hf616))) rfl rfl (by as_aux_lemma => kernel_rfl)) (gv1 13 146 (i6 p1) rfl hS558 ?_))
 have hP646 : St _ _ w557 ([] ++ [poolE ([]) w0]) := hS558
 obtain ⟨b648, hc647, hL518⟩ := bind_in hL518
 try dsimp only at hL518
 refine gdC 14 ⟨some 147, _, _, _, _, _⟩ _ rfl (by as_aux_lemma => kernel_rfl) (kRightPos_ok N x559.1 x617.1 x617.2.1 x617.2.2 p1 A630 c631 vs632 ft0 A638 c639 vs640 ft0 A642 c643 vs644 ft0 _ hc647 w557 (hS558.inn ho0 hf633) (hP646.offIA ho0) (hS558.inn ho0 hf641) (hP646.offIA ho0) (hS558.inn ho0 hf645) (hP646.offIA ho0)) ?_
 rintro _ w649 ⟨rfl, hT651⟩
 have hS650 : St _ _ w649 [poolE ([]) w0] := hS558.take _ hT651
 refine ⟨hS650, ?_⟩
 rcases b648 with _ | _
 try dsimp only at hL518
 refine gv1 15 148 (.bool true) rfl hS650 (gd_done (by as_aux_lemma => kernel_rfl) (gx_thenN (hK556 _ _ (gx_yes (by as_aux_lemma => kernel_rfl) (gx_seq (fun K652 hK653 => gx_region (gx_kA (.bool false) w649 ?_)))))))
 refine gx_nil (gx_thenN (hK653 _ _ (gx_ret (gx_blkR (gx_thenR (gx_thenR (gx_blkR ?_)))))))
 refine gx_blkR (gx_thenR ?_)
 obtain rfl := sj hL518
 try dsimp only at hO34
 refine gx_thenR (gx_blkR (gx_thenR ?_))
 obtain rfl := sj hO34
 try dsimp only at hO15
 obtain rfl := sj hO15
 exact gxF (.bool false) ⟨_, rfl, rfl, (hS650.pick [] rfl rfl)⟩
 try dsimp only at hL518
 refine gv1 15 148 (.bool false) rfl hS650 (gd_done (by as_aux_lemma => kernel_rfl) (gx_thenN (hK556 _ _ (gx_no (by as_aux_lemma => kernel_rfl) (gx_pass (gx_blkN (gx_thenN ?_)))))))
 refine hK554 _ _ (gx_region (gx_kA (i6 x516) w649 (gx_kA (i6 (iw (x516 + 1))) w649 (gx_kA (i6 (iw (x516 + 1))) w649 (gx_nil (gx_thenN ?_))))))
 exact ⟨k517, Nat.lt_succ_self k517, (iw (x516 + 1)), selfX, hL518, hS650⟩
 refine gx_vA (.bool false) w513 (rbE (decide_eq_false h552)) (gx_nil (gx_thenN (hK522 _ _ (gx_no (by as_aux_lemma => kernel_rfl) (gx_exit (gx_thenE (gx_thenE ?_)))))))
 refine gx_blkE (gx_blkN (gx_thenN ?_))
 exact ⟨selfX, (sj hL518), hS514⟩
 rintro _ w29 ⟨hq657, rfl, hS30⟩
 obtain ⟨u31, rfl⟩ := selfA_u hq657
 try dsimp only at hO34
 refine gx_region (gx_kA (i6 x21) w29 (gx_kA (i6 (iw (x21 + 1))) w29 (gx_kA (i6 (iw (x21 + 1))) w29 (gx_nil (gx_thenN ?_)))))
 exact ⟨k22, Nat.lt_succ_self k22, (iw (x21 + 1)), selfX, hO34, hS30⟩
 refine gx_vA (.bool false) w18 (rbE (decide_eq_false h28)) (gx_nil (gx_thenN (hK27 _ _ (gx_no (by as_aux_lemma => kernel_rfl) (gx_exit (gx_thenE (gx_thenE ?_)))))))
 refine gx_blkE (gx_thenN ?_)
 exact ⟨selfX, (sj hL23), hS19⟩
 rintro _ w10 ⟨hq661, rfl, hS11⟩
 obtain ⟨u12, rfl⟩ := selfA_u hq661
 try dsimp only at hO15
 refine gx_seq (fun K659 hK660 => gx_region (gx_kA (.bool true) w10 (gx_nil (gx_thenN (hK660 _ _ (gx_ret ?_))))))
 obtain rfl := sj hO15
 exact gxF (.bool true) ⟨_, rfl, rfl, (hS11.pick [] rfl rfl)⟩
end Go.Proofs.Ytgjlpiljacecpaa
