/-
  ResolveWeakEnds, walked.
-/
import Derived.Test.YtdpcaidhpccaiaaF0
namespace Go.Proofs.Ytdpcaidhpccaiaa
open Go Go.RowKit
set_option linter.unusedVariables false

def fWeakEnds_L1 (N : Nat) (p0 : List Int) (l20 : List Int) : Nat → Int → Bool → Int → Option (Ctl (Unit) (Bool))
 | 0, _, _, _ => none
 | k61+1, x58, b59, x60 => (if x60 < ((p0.length : Nat) : Int) then ((((ix l20 x60).bind fun x78 => (((if x78 = 3 then some (true) else (if x78 = 5 then some (true) else (if x78 = 6 then some (true) else (if x78 = 8 then some (true) else (if x78 = 9 then some (true) else some (false)))))) : Option (Bool)).bind fun b83 => (match b83 with | true => some (Ctl.ret false) | false => (if x78 = 4 then (if x58 = 1 then some (Ctl.ret false) else (match b59 with | true => some (Ctl.ret false) | false => some (Ctl.go ()))) else some (Ctl.go ()))))) : Option (Ctl (Unit) (Bool))).bind fun | Ctl.go () => ((ix p0 x60).bind fun x115 => (((if x115 = 1 then some (true) else (if x115 = 2 then some (true) else some (false))) : Option (Bool)).bind fun b120 => (match b120 with | true => ((ix l20 x60).bind fun x134 => ((ix p0 x60).bind fun x136 => (if x134 ≠ x136 then some (Ctl.ret false) else ((ix p0 x60).bind fun x143 => fWeakEnds_L1 N p0 l20 k61 x143 false (IntKind.i64.wrap (x60 + 1)))))) | false => (if x115 = 3 then ((ix l20 x60).bind fun x152 => (if x152 ≠ 2 then some (Ctl.ret false) else fWeakEnds_L1 N p0 l20 k61 2 true (IntKind.i64.wrap (x60 + 1)))) else (if x115 = 4 then ((ix l20 x60).bind fun x164 => (if x164 = 7 then (match b59 with | true => fWeakEnds_L1 N p0 l20 k61 x58 true (IntKind.i64.wrap (x60 + 1)) | false => some (Ctl.ret false)) else (match b59 with | true => some (Ctl.ret false) | false => ((ix l20 x60).bind fun x171 => (if x171 = 1 then (if x58 = 1 then fWeakEnds_L1 N p0 l20 k61 x58 false (IntKind.i64.wrap (x60 + 1)) else some (Ctl.ret false)) else (if x58 = 1 then some (Ctl.ret false) else fWeakEnds_L1 N p0 l20 k61 x58 false (IntKind.i64.wrap (x60 + 1)))))))) else (((if x115 = 5 then some (true) else (if x115 = 6 then some (true) else (if x115 = 8 then some (true) else (if x115 = 9 then some (true) else some (false))))) : Option (Bool)).bind fun b183 => (match b183 with | true => fWeakEnds_L1 N p0 l20 k61 x58 b59 (IntKind.i64.wrap (x60 + 1)) | false => ((ix l20 x60).bind fun x201 => ((ix p0 x60).bind fun x203 => (if x201 ≠ x203 then some (Ctl.ret false) else fWeakEnds_L1 N p0 l20 k61 x58 b59 (IntKind.i64.wrap (x60 + 1)))))))))))) | Ctl.ret r => some (Ctl.ret r)) else some (Ctl.go ()))
def fWeakEnds (N : Nat) (p0 : List Int) (p1 : Int) : Option (Bool) :=
 (if ((p0.length : Nat) : Int) > 3000 then ((kArabic N ).bind fun b12 => some b12) else ((pWeak N p0 p1).bind fun l20 => (if ((l20.length : Nat) : Int) ≠ ((p0.length : Nat) : Int) then some false else (((if p1 = 2 then some (2) else some (1)) : Option (Int)).bind fun x38 => ((fWeakEnds_L1 N p0 l20 N x38 false 0 : Option (Ctl (Unit) (Bool))).bind fun | Ctl.go () => ((kArabic N ).bind fun b216 => some b216) | Ctl.ret r => some r)))))

set_option linter.unusedVariables false in
def fWeakEnds_R (r : Bool) (w0 : World) (v : Value) (w : World) : Prop := v = .bool r ∧ St [] w0 w []

set_option maxRecDepth 100000 in
set_option maxHeartbeats 4000000 in
theorem fWeakEnds_ok (N : Nat) (p0 : List Int) (p1 : Int) (A0 : Option Addr) (c0 : Nat) (r : Bool) (hF : fWeakEnds N p0 p1 = some r) (w0 : World) (hv0 : Vw [] .u8 w0 A0 c0 p0) :
  Calls Try.prog 4 #[.slice A0 p0.length c0, .int .u8 p1] w0 fun e w => ∃ v, e = .returned v ∧ fWeakEnds_R r w0 v w := by
 have hS0 := St.start w0
 unfold fWeakEnds at hF
 refine calls_of Try.func4 rfl ⟨((.slice A0 p0.length c0) :: (.int .u8 p1) :: un 109 ([])).toArray, []⟩ (by as_aux_lemma => kernel_rfl) ?_
 refine gx_seq (fun K1 hK2 => ?_)
 refine gx_region ?_
 refine gx_kA (.bool false) w0 ?_
 refine gx_nil ?_
 refine gx_thenN ?_
 refine hK2 _ _ ?_
 refine gx_seq (fun K3 hK4 => ?_)
 refine gx_seq (fun K5 hK6 => ?_)
 refine gx_region ?_
 refine gx_kA (.slice A0 p0.length c0) w0 (gx_kA (.int .i64 ((p0.length : Nat) : Int)) w0 ?_)
 rcases if_in hF with ⟨h7, hF⟩ | ⟨h7, hF⟩
 ·refine gx_vA (.bool true) w0 (run_boolE (decide_eq_true h7) (by as_aux_lemma => kernel_rfl)) ?_
  refine gx_nil ?_
  refine gx_thenN ?_
  refine hK6 _ _ ?_
  refine gx_yes (by as_aux_lemma => kernel_rfl) ?_
  refine gx_seq (fun K8 hK9 => ?_)
  refine gx_region ?_
  have hP10 : St _ _ w0 ([] ++ []) := hS0
  obtain ⟨b12, hc11, hF⟩ := bind_in hF
  try dsimp only at hF
  refine gx_cA (kArabic_R b12 w0) (kArabic_ok N  _ hc11 w0 ) ?_
  rintro _ w13 ⟨rfl, hT15⟩
  have hS14 : St _ _ w13 [] := hS0.take _ hT15
  refine gx_kA (.bool b12) w13 ?_
  refine gx_nil ?_
  refine gx_thenN ?_
  refine hK9 _ _ ?_
  refine gx_ret ?_
  refine gx_thenR ?_
  obtain rfl := Option.some.inj hF
  exact gx_fin (.bool b12) (by as_aux_lemma => kernel_rfl) (by as_aux_lemma => kernel_rfl) ⟨_, rfl, rfl, hS14⟩
 ·refine gx_vA (.bool false) w0 (run_boolE (decide_eq_false h7) (by as_aux_lemma => kernel_rfl)) ?_
  refine gx_nil ?_
  refine gx_thenN ?_
  refine hK6 _ _ ?_
  refine gx_no (by as_aux_lemma => kernel_rfl) ?_
  refine gx_pass ?_
  refine gx_thenN ?_
  refine hK4 _ _ ?_
  refine gx_seq (fun K16 hK17 => ?_)
  refine gx_region ?_
  refine gx_kA (.slice A0 p0.length c0) w0 (gx_kA (.int .u8 p1) w0 ?_)
  have hP18 : St _ _ w0 ([] ++ []) := hS0
  obtain ⟨l20, hc19, hF⟩ := bind_in hF
  try dsimp only at hF
  refine gx_cA (pWeak_R l20 w0) (pWeak_ok N p0 p1 A0 c0 _ hc19 w0 (hP18.vwA hv0)) ?_
  rintro _ w23 ⟨A21, c22, rfl, hT25⟩
  have hS24 : St _ _ w23 [rowE .u8 23 A21 c22 l20] := hS0.take _ hT25
  refine gx_kA (.slice A21 l20.length c22) w23 ?_
  refine gx_nil ?_
  refine gx_thenN ?_
  refine hK17 _ _ ?_
  refine gx_seq (fun K26 hK27 => ?_)
  refine gx_seq (fun K28 hK29 => ?_)
  refine gx_region ?_
  refine gx_kA (.slice A21 l20.length c22) w23 (gx_kA (.int .i64 ((l20.length : Nat) : Int)) w23 (gx_kA (.slice A0 p0.length c0) w23 (gx_kA (.int .i64 ((p0.length : Nat) : Int)) w23 ?_)))
  rcases if_in hF with ⟨h30, hF⟩ | ⟨h30, hF⟩
  ·refine gx_vA (.bool true) w23 (run_boolE (ne_yes h30) (by as_aux_lemma => kernel_rfl)) ?_
   refine gx_nil ?_
   refine gx_thenN ?_
   refine hK29 _ _ ?_
   refine gx_yes (by as_aux_lemma => kernel_rfl) ?_
   refine gx_seq (fun K31 hK32 => ?_)
   refine gx_region ?_
   refine gx_kA (.bool false) w23 ?_
   refine gx_nil ?_
   refine gx_thenN ?_
   refine hK32 _ _ ?_
   refine gx_ret ?_
   refine gx_thenR ?_
   obtain rfl := Option.some.inj hF
   exact gx_fin (.bool false) (by as_aux_lemma => kernel_rfl) (by as_aux_lemma => kernel_rfl) ⟨_, rfl, rfl, (hS24.pick [] rfl rfl)⟩
  ·refine gx_vA (.bool false) w23 (run_boolE (ne_no h30) (by as_aux_lemma => kernel_rfl)) ?_
   refine gx_nil ?_
   refine gx_thenN ?_
   refine hK29 _ _ ?_
   refine gx_no (by as_aux_lemma => kernel_rfl) ?_
   refine gx_pass ?_
   refine gx_thenN ?_
   refine hK27 _ _ ?_
   refine gx_seq (fun K33 hK34 => ?_)
   refine gx_region ?_
   refine gx_kA (.int .u8 1) w23 ?_
   refine gx_nil ?_
   refine gx_thenN ?_
   refine hK34 _ _ ?_
   obtain ⟨c39, hE40, hO41⟩ := bind_in hF
   refine gx_cut (fun a w => ∃ (x38 : Int), selfA (fun u37 => ⟨((.slice A0 p0.length c0) :: (.int .u8 p1) :: undef :: undef :: (.bool false) :: (.slice A21 l20.length c22) :: (.int .u8 x38) :: undef :: undef :: (u37 9) :: (.int .i64 ((p0.length : Nat) : Int)) :: (.bool false) :: undef :: (u37 13) :: (.int .u8 p1) :: dd u37 15 2 ((.int .i64 ((l20.length : Nat) : Int)) :: (u37 18) :: (.int .i64 ((p0.length : Nat) : Int)) :: (.bool false) :: dd u37 21 2 (un 88 ([])))).toArray, []⟩) a ∧ x38 = c39 ∧ St [] w0 w [rowE .u8 23 A21 c22 l20]) ?_ ?_
   ·refine gx_seq (fun K42 hK43 => ?_)
    refine gx_region ?_
    refine gx_kA (.int .u8 p1) w23 ?_
    rcases if_in hE40 with ⟨h44, hE40⟩ | ⟨h44, hE40⟩
    ·refine gx_vA (.bool true) w23 (run_boolE (decide_eq_true h44) (by as_aux_lemma => kernel_rfl)) ?_
     refine gx_nil ?_
     refine gx_thenN ?_
     refine hK43 _ _ ?_
     refine gx_yes (by as_aux_lemma => kernel_rfl) ?_
     refine gx_region ?_
     refine gx_kA (.int .u8 2) w23 ?_
     refine gx_nil ?_
     refine gx_thenN ?_
     exact ⟨2, selfA_i (by as_aux_lemma => kernel_rfl), (Option.some.inj hE40), hS24⟩
    ·refine gx_vA (.bool false) w23 (run_boolE (decide_eq_false h44) (by as_aux_lemma => kernel_rfl)) ?_
     refine gx_nil ?_
     refine gx_thenN ?_
     refine hK43 _ _ ?_
     refine gx_no (by as_aux_lemma => kernel_rfl) ?_
     refine gx_pass ?_
     refine gx_thenN ?_
     exact ⟨1, selfA_i (by as_aux_lemma => kernel_rfl), (Option.some.inj hE40), hS24⟩
   ·rintro _ w35 ⟨x38, hq221, rfl, hS36⟩
    obtain ⟨u37, rfl⟩ := selfA_u hq221
    try dsimp only at hO41
    refine gx_seq (fun K45 hK46 => ?_)
    refine gx_region ?_
    refine gx_kA (.bool false) w35 ?_
    refine gx_nil ?_
    refine gx_thenN ?_
    refine hK46 _ _ ?_
    obtain ⟨c50, hE51, hO52⟩ := bind_in hO41
    refine gx_cut (fun a w => selfA (fun u49 => ⟨((u49 0) :: (.int .u8 p1) :: undef :: undef :: dd u49 4 5 ((u37 9) :: (.int .i64 ((p0.length : Nat) : Int)) :: (.bool false) :: undef :: (u37 13) :: (.int .u8 p1) :: dd u37 15 2 ((.int .i64 ((l20.length : Nat) : Int)) :: (u37 18) :: (.int .i64 ((p0.length : Nat) : Int)) :: (.bool false) :: dd u37 21 2 (dd u49 23 87 (undef :: []))))).toArray, []⟩) a ∧ Ctl.go () = c50 ∧ St [] w0 w []) ?_ ?_
    ·refine gx_seq (fun K53 hK54 => ?_)
     refine gx_region ?_
     refine gx_kA (.int .i64 0) w35 ?_
     refine gx_nil ?_
     refine gx_thenN ?_
     refine hK54 _ _ ?_
     refine gx_block ?_
     refine gx_loop (fun k a w => ∃ (x58 : Int) (b59 : Bool) (x60 : Int), selfA (fun u57 => ⟨((.slice A0 p0.length c0) :: (.int .u8 p1) :: undef :: undef :: (u57 4) :: (.slice A21 l20.length c22) :: (.int .u8 x58) :: (.bool b59) :: (.int .i64 x60) :: (u37 9) :: (.int .i64 ((p0.length : Nat) : Int)) :: (.bool false) :: undef :: (u37 13) :: (.int .u8 p1) :: dd u37 15 2 ((.int .i64 ((l20.length : Nat) : Int)) :: (u37 18) :: (.int .i64 ((p0.length : Nat) : Int)) :: (.bool false) :: dd u37 21 2 (dd u57 23 87 (undef :: [])))).toArray, []⟩) a ∧ fWeakEnds_L1 N p0 l20 k x58 b59 x60 = some c50 ∧ St [] w0 w [rowE .u8 23 A21 c22 l20]) N ?_ ?_
     ·exact ⟨x38, false, 0, selfA_i (by as_aux_lemma => kernel_rfl), hE51, hS36⟩
     ·rintro k61 _ w55 ⟨x58, b59, x60, hq211, hL62, hS56⟩
      obtain ⟨u57, rfl⟩ := selfA_u hq211
      cases k61 with
      | zero => cases hL62
      | succ k61 =>
       first | rw [fWeakEnds_L1] at hL62 | unfold fWeakEnds_L1 at hL62
       refine gx_seq (fun K63 hK64 => ?_)
       refine gx_seq (fun K65 hK66 => ?_)
       refine gx_region ?_
       refine gx_kA (.int .i64 x60) w55 (gx_kA (.slice A0 p0.length c0) w55 (gx_kA (.int .i64 ((p0.length : Nat) : Int)) w55 ?_))
       rcases if_in hL62 with ⟨h67, hL62⟩ | ⟨h67, hL62⟩
       ·refine gx_vA (.bool true) w55 (run_boolE (decide_eq_true h67) (by as_aux_lemma => kernel_rfl)) ?_
        refine gx_nil ?_
        refine gx_thenN ?_
        refine hK66 _ _ ?_
        refine gx_yes (by as_aux_lemma => kernel_rfl) ?_
        refine gx_pass ?_
        refine gx_thenN ?_
        refine hK64 _ _ ?_
        refine gx_seq (fun K68 hK69 => ?_)
        refine gx_block ?_
        obtain ⟨c73, hE74, hO75⟩ := bind_in hL62
        refine gx_cut (fun a w => selfA (fun u72 => ⟨((.slice A0 p0.length c0) :: (.int .u8 p1) :: undef :: undef :: (u72 4) :: (.slice A21 l20.length c22) :: (.int .u8 x58) :: (.bool b59) :: (.int .i64 x60) :: (u37 9) :: (.int .i64 ((p0.length : Nat) : Int)) :: (.bool false) :: undef :: (u37 13) :: (.int .u8 p1) :: dd u37 15 2 ((.int .i64 ((l20.length : Nat) : Int)) :: (u37 18) :: (.int .i64 ((p0.length : Nat) : Int)) :: (.bool false) :: dd u37 21 2 ((.int .i64 x60) :: (u72 24) :: (.int .i64 ((p0.length : Nat) : Int)) :: (.bool true) :: dd u57 27 2 (dd u72 29 17 (dd u57 46 64 (undef :: [])))))).toArray, []⟩) a ∧ Ctl.go () = c73 ∧ St [] w0 w [rowE .u8 23 A21 c22 l20]) ?_ ?_
        ·refine gx_seq (fun K76 hK77 => ?_)
         refine gx_region ?_
         refine gx_kA (.slice A21 l20.length c22) w55 (gx_kA (.int .i64 x60) w55 ?_)
         obtain ⟨x78, hx79, hE74⟩ := bind_in hE74
         refine gx_vA (.pointer (Option.map (fun (p : Addr) => p.add (Int.toNat x60 * 1)) A21)) w55 (run_ixaddr (E := 23) (s := 1) (k := .i64) (c := c22) rfl (by as_aux_lemma => kernel_rfl) (by as_aux_lemma => kernel_rfl) (by as_aux_lemma => kernel_rfl) (fun _ => by kernel_rfl) (ix_in hx79).1 (ix_in hx79).2.1 (num_nil (hS56.row 0 rfl).1)) ?_
         refine gx_vA (.int .u8 x78) w55 (run_loadix rfl (by as_aux_lemma => kernel_rfl) (fun _ => by kernel_rfl) (hS56.row 0 rfl).1 hx79) ?_
         refine gx_nil ?_
         refine gx_thenN ?_
         refine hK77 _ _ ?_
         refine gx_block ?_
         obtain ⟨c84, hE85, hO86⟩ := bind_in hE74
         refine gx_cut (fun a w => ∃ (b83 : Bool), selfA (fun u82 => ⟨((.slice A0 p0.length c0) :: (.int .u8 p1) :: undef :: undef :: (u57 4) :: (.slice A21 l20.length c22) :: (.int .u8 x58) :: (.bool b59) :: (.int .i64 x60) :: (u37 9) :: (.int .i64 ((p0.length : Nat) : Int)) :: (.bool false) :: undef :: (u37 13) :: (.int .u8 p1) :: dd u37 15 2 ((.int .i64 ((l20.length : Nat) : Int)) :: (u37 18) :: (.int .i64 ((p0.length : Nat) : Int)) :: (.bool false) :: dd u37 21 2 ((.int .i64 x60) :: (u82 24) :: (.int .i64 ((p0.length : Nat) : Int)) :: (.bool true) :: dd u57 27 2 ((u82 29) :: (.int .i64 x60) :: (.pointer (Option.map (fun (p : Addr) => p.add (Int.toNat x60 * 1)) A21)) :: (.int .u8 x78) :: (.bool b83) :: dd u82 34 5 (dd u57 39 71 (undef :: [])))))).toArray, []⟩) a ∧ b83 = c84 ∧ St [] w0 w [rowE .u8 23 A21 c22 l20]) ?_ ?_
         ·refine gx_seq (fun K87 hK88 => ?_)
          refine gx_region ?_
          rcases if_in hE85 with ⟨h89, hE85⟩ | ⟨h89, hE85⟩
          ·refine gx_vA (.bool true) w55 (run_boolE (decide_eq_true h89) (by as_aux_lemma => kernel_rfl)) ?_
           refine gx_kA (.bool true) w55 ?_
           refine gx_nil ?_
           refine gx_thenN ?_
           refine hK88 _ _ ?_
           refine gx_yes (by as_aux_lemma => kernel_rfl) ?_
           refine gx_pass ?_
           refine gx_thenN ?_
           exact ⟨true, selfA_i (by as_aux_lemma => kernel_rfl), (Option.some.inj hE85), hS56⟩
          ·refine gx_vA (.bool false) w55 (run_boolE (decide_eq_false h89) (by as_aux_lemma => kernel_rfl)) ?_
           refine gx_kA (.bool false) w55 ?_
           refine gx_nil ?_
           refine gx_thenN ?_
           refine hK88 _ _ ?_
           refine gx_no (by as_aux_lemma => kernel_rfl) ?_
           refine gx_seq (fun K90 hK91 => ?_)
           refine gx_region ?_
           rcases if_in hE85 with ⟨h92, hE85⟩ | ⟨h92, hE85⟩
           ·refine gx_vA (.bool true) w55 (run_boolE (decide_eq_true h92) (by as_aux_lemma => kernel_rfl)) ?_
            refine gx_kA (.bool true) w55 ?_
            refine gx_nil ?_
            refine gx_thenN ?_
            refine hK91 _ _ ?_
            refine gx_yes (by as_aux_lemma => kernel_rfl) ?_
            refine gx_pass ?_
            refine gx_thenN ?_
            exact ⟨true, selfA_i (by as_aux_lemma => kernel_rfl), (Option.some.inj hE85), hS56⟩
           ·refine gx_vA (.bool false) w55 (run_boolE (decide_eq_false h92) (by as_aux_lemma => kernel_rfl)) ?_
            refine gx_kA (.bool false) w55 ?_
            refine gx_nil ?_
            refine gx_thenN ?_
            refine hK91 _ _ ?_
            refine gx_no (by as_aux_lemma => kernel_rfl) ?_
            refine gx_seq (fun K93 hK94 => ?_)
            refine gx_region ?_
            rcases if_in hE85 with ⟨h95, hE85⟩ | ⟨h95, hE85⟩
            ·refine gx_vA (.bool true) w55 (run_boolE (decide_eq_true h95) (by as_aux_lemma => kernel_rfl)) ?_
             refine gx_kA (.bool true) w55 ?_
             refine gx_nil ?_
             refine gx_thenN ?_
             refine hK94 _ _ ?_
             refine gx_yes (by as_aux_lemma => kernel_rfl) ?_
             refine gx_pass ?_
             refine gx_thenN ?_
             exact ⟨true, selfA_i (by as_aux_lemma => kernel_rfl), (Option.some.inj hE85), hS56⟩
            ·refine gx_vA (.bool false) w55 (run_boolE (decide_eq_false h95) (by as_aux_lemma => kernel_rfl)) ?_
             refine gx_kA (.bool false) w55 ?_
             refine gx_nil ?_
             refine gx_thenN ?_
             refine hK94 _ _ ?_
             refine gx_no (by as_aux_lemma => kernel_rfl) ?_
             refine gx_seq (fun K96 hK97 => ?_)
             refine gx_region ?_
             rcases if_in hE85 with ⟨h98, hE85⟩ | ⟨h98, hE85⟩
             ·refine gx_vA (.bool true) w55 (run_boolE (decide_eq_true h98) (by as_aux_lemma => kernel_rfl)) ?_
              refine gx_kA (.bool true) w55 ?_
              refine gx_nil ?_
              refine gx_thenN ?_
              refine hK97 _ _ ?_
              refine gx_yes (by as_aux_lemma => kernel_rfl) ?_
              refine gx_pass ?_
              refine gx_thenN ?_
              exact ⟨true, selfA_i (by as_aux_lemma => kernel_rfl), (Option.some.inj hE85), hS56⟩
             ·refine gx_vA (.bool false) w55 (run_boolE (decide_eq_false h98) (by as_aux_lemma => kernel_rfl)) ?_
              refine gx_kA (.bool false) w55 ?_
              refine gx_nil ?_
              refine gx_thenN ?_
              refine hK97 _ _ ?_
              refine gx_no (by as_aux_lemma => kernel_rfl) ?_
              refine gx_region ?_
              rcases if_in hE85 with ⟨h99, hE85⟩ | ⟨h99, hE85⟩
              ·refine gx_vA (.bool true) w55 (run_boolE (decide_eq_true h99) (by as_aux_lemma => kernel_rfl)) ?_
               refine gx_kA (.bool true) w55 ?_
               refine gx_nil ?_
               refine gx_thenN ?_
               exact ⟨true, selfA_i (by as_aux_lemma => kernel_rfl), (Option.some.inj hE85), hS56⟩
              ·refine gx_vA (.bool false) w55 (run_boolE (decide_eq_false h99) (by as_aux_lemma => kernel_rfl)) ?_
               refine gx_kA (.bool false) w55 ?_
               refine gx_nil ?_
               refine gx_thenN ?_
               exact ⟨false, selfA_i (by as_aux_lemma => kernel_rfl), (Option.some.inj hE85), hS56⟩
         ·rintro _ w80 ⟨b83, hq112, rfl, hS81⟩
          obtain ⟨u82, rfl⟩ := selfA_u hq112
          try dsimp only at hO86
          cases b83 with
          | true =>
           try dsimp only at hO86
           refine gx_yes (by as_aux_lemma => kernel_rfl) ?_
           refine gx_seq (fun K100 hK101 => ?_)
           refine gx_region ?_
           refine gx_kA (.bool false) w80 ?_
           refine gx_nil ?_
           refine gx_thenN ?_
           refine hK101 _ _ ?_
           refine gx_ret ?_
           refine gx_blkR ?_
           refine gx_thenR ?_
           obtain rfl := Option.some.inj hO86
           try dsimp only at hO75
           refine gx_blkR ?_
           refine gx_thenR ?_
           refine gx_thenR ?_
           refine gx_blkR ?_
           refine gx_thenR ?_
           obtain rfl := Option.some.inj hO75
           try dsimp only at hO52
           obtain rfl := Option.some.inj hO52
           exact gx_fin (.bool false) (by as_aux_lemma => kernel_rfl) (by as_aux_lemma => kernel_rfl) ⟨_, rfl, rfl, (hS81.pick [] rfl rfl)⟩
          | false =>
           try dsimp only at hO86
           refine gx_no (by as_aux_lemma => kernel_rfl) ?_
           refine gx_seq (fun K102 hK103 => ?_)
           refine gx_region ?_
           rcases if_in hO86 with ⟨h104, hO86⟩ | ⟨h104, hO86⟩
           ·refine gx_vA (.bool true) w80 (run_boolE (decide_eq_true h104) (by as_aux_lemma => kernel_rfl)) ?_
            refine gx_kA (.bool true) w80 ?_
            refine gx_nil ?_
            refine gx_thenN ?_
            refine hK103 _ _ ?_
            refine gx_yes (by as_aux_lemma => kernel_rfl) ?_
            refine gx_seq (fun K105 hK106 => ?_)
            refine gx_region ?_
            refine gx_kA (.int .u8 x58) w80 ?_
            rcases if_in hO86 with ⟨h107, hO86⟩ | ⟨h107, hO86⟩
            ·refine gx_vA (.bool true) w80 (run_boolE (decide_eq_true h107) (by as_aux_lemma => kernel_rfl)) ?_
             refine gx_kA (.bool true) w80 (gx_oA (gx_kA (.bool true) w80 ?_))
             refine gx_nil ?_
             refine gx_thenN ?_
             refine hK106 _ _ ?_
             refine gx_yes (by as_aux_lemma => kernel_rfl) ?_
             refine gx_seq (fun K108 hK109 => ?_)
             refine gx_region ?_
             refine gx_kA (.bool false) w80 ?_
             refine gx_nil ?_
             refine gx_thenN ?_
             refine hK109 _ _ ?_
             refine gx_ret ?_
             refine gx_blkR ?_
             refine gx_thenR ?_
             obtain rfl := Option.some.inj hO86
             try dsimp only at hO75
             refine gx_blkR ?_
             refine gx_thenR ?_
             refine gx_thenR ?_
             refine gx_blkR ?_
             refine gx_thenR ?_
             obtain rfl := Option.some.inj hO75
             try dsimp only at hO52
             obtain rfl := Option.some.inj hO52
             exact gx_fin (.bool false) (by as_aux_lemma => kernel_rfl) (by as_aux_lemma => kernel_rfl) ⟨_, rfl, rfl, (hS81.pick [] rfl rfl)⟩
            ·refine gx_vA (.bool false) w80 (run_boolE (decide_eq_false h107) (by as_aux_lemma => kernel_rfl)) ?_
             refine gx_kA (.bool false) w80 (gx_kA (.bool b59) w80 (gx_kA (.bool b59) w80 ?_))
             refine gx_nil ?_
             refine gx_thenN ?_
             refine hK106 _ _ ?_
             cases b59 with
             | true =>
              try dsimp only at hO86
              refine gx_yes (by as_aux_lemma => kernel_rfl) ?_
              refine gx_seq (fun K110 hK111 => ?_)
              refine gx_region ?_
              refine gx_kA (.bool false) w80 ?_
              refine gx_nil ?_
              refine gx_thenN ?_
              refine hK111 _ _ ?_
              refine gx_ret ?_
              refine gx_blkR ?_
              refine gx_thenR ?_
              obtain rfl := Option.some.inj hO86
              try dsimp only at hO75
              refine gx_blkR ?_
              refine gx_thenR ?_
              refine gx_thenR ?_
              refine gx_blkR ?_
              refine gx_thenR ?_
              obtain rfl := Option.some.inj hO75
              try dsimp only at hO52
              obtain rfl := Option.some.inj hO52
              exact gx_fin (.bool false) (by as_aux_lemma => kernel_rfl) (by as_aux_lemma => kernel_rfl) ⟨_, rfl, rfl, (hS81.pick [] rfl rfl)⟩
             | false =>
              try dsimp only at hO86
              refine gx_no (by as_aux_lemma => kernel_rfl) ?_
              refine gx_pass ?_
              refine gx_blkN ?_
              refine gx_thenN ?_
              exact ⟨selfA_i (by as_aux_lemma => kernel_rfl), (Option.some.inj hO86), hS81⟩
           ·refine gx_vA (.bool false) w80 (run_boolE (decide_eq_false h104) (by as_aux_lemma => kernel_rfl)) ?_
            refine gx_kA (.bool false) w80 ?_
            refine gx_nil ?_
            refine gx_thenN ?_
            refine hK103 _ _ ?_
            refine gx_no (by as_aux_lemma => kernel_rfl) ?_
            refine gx_pass ?_
            refine gx_blkN ?_
            refine gx_thenN ?_
            exact ⟨selfA_i (by as_aux_lemma => kernel_rfl), (Option.some.inj hO86), hS81⟩
        ·rintro _ w70 ⟨hq210, rfl, hS71⟩
         obtain ⟨u72, rfl⟩ := selfA_u hq210
         try dsimp only at hO75
         refine gx_seq (fun K113 hK114 => ?_)
         refine gx_region ?_
         refine gx_kA (.slice A0 p0.length c0) w70 (gx_kA (.int .i64 x60) w70 ?_)
         obtain ⟨x115, hx116, hO75⟩ := bind_in hO75
         refine gx_vA (.pointer (Option.map (fun (p : Addr) => p.add (Int.toNat x60 * 1)) A0)) w70 (run_ixaddr (E := 23) (s := 1) (k := .i64) (c := c0) rfl (by as_aux_lemma => kernel_rfl) (by as_aux_lemma => kernel_rfl) (by as_aux_lemma => kernel_rfl) (fun _ => by kernel_rfl) (ix_in hx116).1 (ix_in hx116).2.1 (num_nil (hS71.view hv0))) ?_
         refine gx_vA (.int .u8 x115) w70 (run_loadix rfl (by as_aux_lemma => kernel_rfl) (fun _ => by kernel_rfl) (hS71.view hv0) hx116) ?_
         refine gx_nil ?_
         refine gx_thenN ?_
         refine hK114 _ _ ?_
         refine gx_block ?_
         obtain ⟨c121, hE122, hO123⟩ := bind_in hO75
         refine gx_cut (fun a w => ∃ (b120 : Bool), selfA (fun u119 => ⟨((.slice A0 p0.length c0) :: (.int .u8 p1) :: undef :: undef :: (u72 4) :: (.slice A21 l20.length c22) :: (.int .u8 x58) :: (.bool b59) :: (.int .i64 x60) :: (u37 9) :: (.int .i64 ((p0.length : Nat) : Int)) :: (.bool false) :: undef :: (u37 13) :: (.int .u8 p1) :: dd u37 15 2 ((.int .i64 ((l20.length : Nat) : Int)) :: (u37 18) :: (.int .i64 ((p0.length : Nat) : Int)) :: (.bool false) :: dd u37 21 2 ((.int .i64 x60) :: (u72 24) :: (.int .i64 ((p0.length : Nat) : Int)) :: (.bool true) :: dd u57 27 2 (dd u72 29 17 ((u119 46) :: (.int .i64 x60) :: (.pointer (Option.map (fun (p : Addr) => p.add (Int.toNat x60 * 1)) A0)) :: (.int .u8 x115) :: dd u57 50 9 ((.bool b120) :: dd u119 60 2 (dd u57 62 48 (undef :: [])))))))).toArray, []⟩) a ∧ b120 = c121 ∧ St [] w0 w [rowE .u8 23 A21 c22 l20]) ?_ ?_
         ·refine gx_seq (fun K124 hK125 => ?_)
          refine gx_region ?_
          rcases if_in hE122 with ⟨h126, hE122⟩ | ⟨h126, hE122⟩
          ·refine gx_vA (.bool true) w70 (run_boolE (decide_eq_true h126) (by as_aux_lemma => kernel_rfl)) ?_
           refine gx_kA (.bool true) w70 ?_
           refine gx_nil ?_
           refine gx_thenN ?_
           refine hK125 _ _ ?_
           refine gx_yes (by as_aux_lemma => kernel_rfl) ?_
           refine gx_pass ?_
           refine gx_thenN ?_
           exact ⟨true, selfA_i (by as_aux_lemma => kernel_rfl), (Option.some.inj hE122), hS71⟩
          ·refine gx_vA (.bool false) w70 (run_boolE (decide_eq_false h126) (by as_aux_lemma => kernel_rfl)) ?_
           refine gx_kA (.bool false) w70 ?_
           refine gx_nil ?_
           refine gx_thenN ?_
           refine hK125 _ _ ?_
           refine gx_no (by as_aux_lemma => kernel_rfl) ?_
           refine gx_region ?_
           rcases if_in hE122 with ⟨h127, hE122⟩ | ⟨h127, hE122⟩
           ·refine gx_vA (.bool true) w70 (run_boolE (decide_eq_true h127) (by as_aux_lemma => kernel_rfl)) ?_
            refine gx_kA (.bool true) w70 ?_
            refine gx_nil ?_
            refine gx_thenN ?_
            exact ⟨true, selfA_i (by as_aux_lemma => kernel_rfl), (Option.some.inj hE122), hS71⟩
           ·refine gx_vA (.bool false) w70 (run_boolE (decide_eq_false h127) (by as_aux_lemma => kernel_rfl)) ?_
            refine gx_kA (.bool false) w70 ?_
            refine gx_nil ?_
            refine gx_thenN ?_
            exact ⟨false, selfA_i (by as_aux_lemma => kernel_rfl), (Option.some.inj hE122), hS71⟩
         ·rintro _ w117 ⟨b120, hq209, rfl, hS118⟩
          obtain ⟨u119, rfl⟩ := selfA_u hq209
          try dsimp only at hO123
          cases b120 with
          | true =>
           try dsimp only at hO123
           refine gx_yes (by as_aux_lemma => kernel_rfl) ?_
           refine gx_seq (fun K128 hK129 => ?_)
           refine gx_seq (fun K130 hK131 => ?_)
           refine gd_start (fun w => St [] w0 w [rowE .u8 23 A21 c22 l20]) 9 #[false, false, false, false, false, false, false, false, false] (by as_aux_lemma => kernel_rfl) (by as_aux_lemma => kernel_rfl) ?_
           have hS133 := hS118.drew
           generalize w117.drew = w132 at hS133 ⊢
           refine gd1 0 { dst := some 62, op := _, type := _, pos := _, after := _, guard := _ } (.slice A21 l20.length c22) rfl hS133 (fun w hSw => by kernel_rfl) ?_
           refine gd1 1 { dst := some 63, op := _, type := _, pos := _, after := _, guard := _ } (.int .i64 x60) rfl hS133 (fun w hSw => by kernel_rfl) ?_
           obtain ⟨x134, hx135, hO123⟩ := bind_in hO123
           refine gd1 2 { dst := some 64, op := _, type := _, pos := _, after := _, guard := _ } (.pointer (Option.map (fun (p : Addr) => p.add (Int.toNat x60 * 1)) A21)) rfl hS133 (fun w hSw => run_ixaddr (E := 23) (s := 1) (k := .i64) (c := c22) rfl (by as_aux_lemma => kernel_rfl) (by as_aux_lemma => kernel_rfl) (by as_aux_lemma => kernel_rfl) (fun _ => by kernel_rfl) (ix_in hx135).1 (ix_in hx135).2.1 (num_nil (hS133.row 0 rfl).1)) ?_
           refine gd1 3 { dst := some 65, op := _, type := _, pos := _, after := _, guard := _ } (.int .u8 x134) rfl hS133 (fun w hSw => run_loadix rfl (by as_aux_lemma => kernel_rfl) (fun _ => by kernel_rfl) (hSw.row 0 rfl).1 hx135) ?_
           refine gd1 4 { dst := some 66, op := _, type := _, pos := _, after := _, guard := _ } (.slice A0 p0.length c0) rfl hS133 (fun w hSw => by kernel_rfl) ?_
           refine gd1 5 { dst := some 67, op := _, type := _, pos := _, after := _, guard := _ } (.int .i64 x60) rfl hS133 (fun w hSw => by kernel_rfl) ?_
           obtain ⟨x136, hx137, hO123⟩ := bind_in hO123
           refine gd1 6 { dst := some 68, op := _, type := _, pos := _, after := _, guard := _ } (.pointer (Option.map (fun (p : Addr) => p.add (Int.toNat x60 * 1)) A0)) rfl hS133 (fun w hSw => run_ixaddr (E := 23) (s := 1) (k := .i64) (c := c0) rfl (by as_aux_lemma => kernel_rfl) (by as_aux_lemma => kernel_rfl) (by as_aux_lemma => kernel_rfl) (fun _ => by kernel_rfl) (ix_in hx137).1 (ix_in hx137).2.1 (num_nil (hS133.view hv0))) ?_
           refine gd1 7 { dst := some 69, op := _, type := _, pos := _, after := _, guard := _ } (.int .u8 x136) rfl hS133 (fun w hSw => run_loadix rfl (by as_aux_lemma => kernel_rfl) (fun _ => by kernel_rfl) (hSw.view hv0) hx137) ?_
           rcases if_in hO123 with ⟨h138, hO123⟩ | ⟨h138, hO123⟩
           ·refine gd1 8 { dst := some 70, op := _, type := _, pos := _, after := _, guard := _ } (.bool true) rfl hS133 (fun w hSw => run_boolE (ne_yes h138) (by as_aux_lemma => kernel_rfl)) ?_
            refine gd_done (by as_aux_lemma => kernel_rfl) ?_
            refine gx_thenN ?_
            refine hK131 _ _ ?_
            refine gx_yes (by as_aux_lemma => kernel_rfl) ?_
            refine gx_seq (fun K139 hK140 => ?_)
            refine gx_region ?_
            refine gx_kA (.bool false) w132 ?_
            refine gx_nil ?_
            refine gx_thenN ?_
            refine hK140 _ _ ?_
            refine gx_ret ?_
            refine gx_thenR ?_
            refine gx_blkR ?_
            refine gx_blkR ?_
            refine gx_thenR ?_
            refine gx_thenR ?_
            refine gx_blkR ?_
            refine gx_thenR ?_
            obtain rfl := Option.some.inj hO123
            try dsimp only at hO52
            obtain rfl := Option.some.inj hO52
            exact gx_fin (.bool false) (by as_aux_lemma => kernel_rfl) (by as_aux_lemma => kernel_rfl) ⟨_, rfl, rfl, (hS133.pick [] rfl rfl)⟩
           ·refine gd1 8 { dst := some 70, op := _, type := _, pos := _, after := _, guard := _ } (.bool false) rfl hS133 (fun w hSw => run_boolE (ne_no h138) (by as_aux_lemma => kernel_rfl)) ?_
            refine gd_done (by as_aux_lemma => kernel_rfl) ?_
            refine gx_thenN ?_
            refine hK131 _ _ ?_
            refine gx_no (by as_aux_lemma => kernel_rfl) ?_
            refine gx_pass ?_
            refine gx_thenN ?_
            refine hK129 _ _ ?_
            refine gx_seq (fun K141 hK142 => ?_)
            refine gx_region ?_
            refine gx_kA (.slice A0 p0.length c0) w132 (gx_kA (.int .i64 x60) w132 ?_)
            obtain ⟨x143, hx144, hO123⟩ := bind_in hO123
            refine gx_vA (.pointer (Option.map (fun (p : Addr) => p.add (Int.toNat x60 * 1)) A0)) w132 (run_ixaddr (E := 23) (s := 1) (k := .i64) (c := c0) rfl (by as_aux_lemma => kernel_rfl) (by as_aux_lemma => kernel_rfl) (by as_aux_lemma => kernel_rfl) (fun _ => by kernel_rfl) (ix_in hx144).1 (ix_in hx144).2.1 (num_nil (hS133.view hv0))) ?_
            refine gx_vA (.int .u8 x143) w132 (run_loadix rfl (by as_aux_lemma => kernel_rfl) (fun _ => by kernel_rfl) (hS133.view hv0) hx144) ?_
            refine gx_kA (.int .u8 x143) w132 ?_
            refine gx_nil ?_
            refine gx_thenN ?_
            refine hK142 _ _ ?_
            refine gx_region ?_
            refine gx_kA (.bool false) w132 ?_
            refine gx_nil ?_
            refine gx_blkN ?_
            refine gx_blkN ?_
            refine gx_thenN ?_
            refine hK69 _ _ ?_
            refine gx_region ?_
            refine gx_kA (.int .i64 x60) w132 (gx_kA (.int .i64 (IntKind.i64.wrap (x60 + 1))) w132 (gx_kA (.int .i64 (IntKind.i64.wrap (x60 + 1))) w132 ?_))
            refine gx_nil ?_
            refine gx_thenN ?_
            exact ⟨k61, Nat.lt_succ_self k61, x143, false, (IntKind.i64.wrap (x60 + 1)), selfA_i (by as_aux_lemma => kernel_rfl), hO123, hS133⟩
          | false =>
           try dsimp only at hO123
           refine gx_no (by as_aux_lemma => kernel_rfl) ?_
           refine gx_seq (fun K145 hK146 => ?_)
           refine gx_region ?_
           rcases if_in hO123 with ⟨h147, hO123⟩ | ⟨h147, hO123⟩
           ·refine gx_vA (.bool true) w117 (run_boolE (decide_eq_true h147) (by as_aux_lemma => kernel_rfl)) ?_
            refine gx_kA (.bool true) w117 ?_
            refine gx_nil ?_
            refine gx_thenN ?_
            refine hK146 _ _ ?_
            refine gx_yes (by as_aux_lemma => kernel_rfl) ?_
            refine gx_seq (fun K148 hK149 => ?_)
            refine gx_seq (fun K150 hK151 => ?_)
            refine gx_region ?_
            refine gx_kA (.slice A21 l20.length c22) w117 (gx_kA (.int .i64 x60) w117 ?_)
            obtain ⟨x152, hx153, hO123⟩ := bind_in hO123
            refine gx_vA (.pointer (Option.map (fun (p : Addr) => p.add (Int.toNat x60 * 1)) A21)) w117 (run_ixaddr (E := 23) (s := 1) (k := .i64) (c := c22) rfl (by as_aux_lemma => kernel_rfl) (by as_aux_lemma => kernel_rfl) (by as_aux_lemma => kernel_rfl) (fun _ => by kernel_rfl) (ix_in hx153).1 (ix_in hx153).2.1 (num_nil (hS118.row 0 rfl).1)) ?_
            refine gx_vA (.int .u8 x152) w117 (run_loadix rfl (by as_aux_lemma => kernel_rfl) (fun _ => by kernel_rfl) (hS118.row 0 rfl).1 hx153) ?_
            rcases if_in hO123 with ⟨h154, hO123⟩ | ⟨h154, hO123⟩
            ·refine gx_vA (.bool true) w117 (run_boolE (ne_yes h154) (by as_aux_lemma => kernel_rfl)) ?_
             refine gx_nil ?_
             refine gx_thenN ?_
             refine hK151 _ _ ?_
             refine gx_yes (by as_aux_lemma => kernel_rfl) ?_
             refine gx_seq (fun K155 hK156 => ?_)
             refine gx_region ?_
             refine gx_kA (.bool false) w117 ?_
             refine gx_nil ?_
             refine gx_thenN ?_
             refine hK156 _ _ ?_
             refine gx_ret ?_
             refine gx_thenR ?_
             refine gx_blkR ?_
             refine gx_blkR ?_
             refine gx_thenR ?_
             refine gx_thenR ?_
             refine gx_blkR ?_
             refine gx_thenR ?_
             obtain rfl := Option.some.inj hO123
             try dsimp only at hO52
             obtain rfl := Option.some.inj hO52
             exact gx_fin (.bool false) (by as_aux_lemma => kernel_rfl) (by as_aux_lemma => kernel_rfl) ⟨_, rfl, rfl, (hS118.pick [] rfl rfl)⟩
            ·refine gx_vA (.bool false) w117 (run_boolE (ne_no h154) (by as_aux_lemma => kernel_rfl)) ?_
             refine gx_nil ?_
             refine gx_thenN ?_
             refine hK151 _ _ ?_
             refine gx_no (by as_aux_lemma => kernel_rfl) ?_
             refine gx_pass ?_
             refine gx_thenN ?_
             refine hK149 _ _ ?_
             refine gx_seq (fun K157 hK158 => ?_)
             refine gx_region ?_
             refine gx_kA (.int .u8 2) w117 ?_
             refine gx_nil ?_
             refine gx_thenN ?_
             refine hK158 _ _ ?_
             refine gx_region ?_
             refine gx_kA (.bool true) w117 ?_
             refine gx_nil ?_
             refine gx_blkN ?_
             refine gx_blkN ?_
             refine gx_thenN ?_
             refine hK69 _ _ ?_
             refine gx_region ?_
             refine gx_kA (.int .i64 x60) w117 (gx_kA (.int .i64 (IntKind.i64.wrap (x60 + 1))) w117 (gx_kA (.int .i64 (IntKind.i64.wrap (x60 + 1))) w117 ?_))
             refine gx_nil ?_
             refine gx_thenN ?_
             exact ⟨k61, Nat.lt_succ_self k61, 2, true, (IntKind.i64.wrap (x60 + 1)), selfA_i (by as_aux_lemma => kernel_rfl), hO123, hS118⟩
           ·refine gx_vA (.bool false) w117 (run_boolE (decide_eq_false h147) (by as_aux_lemma => kernel_rfl)) ?_
            refine gx_kA (.bool false) w117 ?_
            refine gx_nil ?_
            refine gx_thenN ?_
            refine hK146 _ _ ?_
            refine gx_no (by as_aux_lemma => kernel_rfl) ?_
            refine gx_seq (fun K159 hK160 => ?_)
            refine gx_region ?_
            rcases if_in hO123 with ⟨h161, hO123⟩ | ⟨h161, hO123⟩
            ·refine gx_vA (.bool true) w117 (run_boolE (decide_eq_true h161) (by as_aux_lemma => kernel_rfl)) ?_
             refine gx_kA (.bool true) w117 ?_
             refine gx_nil ?_
             refine gx_thenN ?_
             refine hK160 _ _ ?_
             refine gx_yes (by as_aux_lemma => kernel_rfl) ?_
             refine gx_seq (fun K162 hK163 => ?_)
             refine gx_region ?_
             refine gx_kA (.bool b59) w117 (gx_kA (.slice A21 l20.length c22) w117 (gx_kA (.int .i64 x60) w117 ?_))
             obtain ⟨x164, hx165, hO123⟩ := bind_in hO123
             refine gx_vA (.pointer (Option.map (fun (p : Addr) => p.add (Int.toNat x60 * 1)) A21)) w117 (run_ixaddr (E := 23) (s := 1) (k := .i64) (c := c22) rfl (by as_aux_lemma => kernel_rfl) (by as_aux_lemma => kernel_rfl) (by as_aux_lemma => kernel_rfl) (fun _ => by kernel_rfl) (ix_in hx165).1 (ix_in hx165).2.1 (num_nil (hS118.row 0 rfl).1)) ?_
             refine gx_vA (.int .u8 x164) w117 (run_loadix rfl (by as_aux_lemma => kernel_rfl) (fun _ => by kernel_rfl) (hS118.row 0 rfl).1 hx165) ?_
             rcases if_in hO123 with ⟨h166, hO123⟩ | ⟨h166, hO123⟩
             ·refine gx_vA (.bool true) w117 (run_boolE (decide_eq_true h166) (by as_aux_lemma => kernel_rfl)) ?_
              cases b59 with
              | true =>
               try dsimp only at hO123
               refine gx_kA (.bool false) w117 (gx_kA (.bool false) w117 (gx_kA (.bool true) w117 (gx_kA (.bool false) w117 (gx_kA (.bool false) w117 (gx_oA (gx_oA (gx_oA ?_)))))))
               refine gx_oA (gx_oA (gx_oA (gx_oA (gx_oA (gx_kA (.bool false) w117 (gx_kA (.bool false) w117 ?_))))))
               refine gx_nil ?_
               refine gx_thenN ?_
               refine hK163 _ _ ?_
               refine gx_no (by as_aux_lemma => kernel_rfl) ?_
               refine gx_pass ?_
               refine gx_blkN ?_
               refine gx_blkN ?_
               refine gx_thenN ?_
               refine hK69 _ _ ?_
               refine gx_region ?_
               refine gx_kA (.int .i64 x60) w117 (gx_kA (.int .i64 (IntKind.i64.wrap (x60 + 1))) w117 (gx_kA (.int .i64 (IntKind.i64.wrap (x60 + 1))) w117 ?_))
               refine gx_nil ?_
               refine gx_thenN ?_
               exact ⟨k61, Nat.lt_succ_self k61, x58, true, (IntKind.i64.wrap (x60 + 1)), selfA_i (by as_aux_lemma => kernel_rfl), hO123, hS118⟩
              | false =>
               try dsimp only at hO123
               refine gx_kA (.bool true) w117 (gx_kA (.bool true) w117 (gx_oA (gx_oA (gx_oA (gx_oA (gx_oA (gx_oA ?_)))))))
               refine gx_oA (gx_oA (gx_oA (gx_oA (gx_oA (gx_oA (gx_kA (.bool true) w117 ?_))))))
               refine gx_nil ?_
               refine gx_thenN ?_
               refine hK163 _ _ ?_
               refine gx_yes (by as_aux_lemma => kernel_rfl) ?_
               refine gx_seq (fun K167 hK168 => ?_)
               refine gx_region ?_
               refine gx_kA (.bool false) w117 ?_
               refine gx_nil ?_
               refine gx_thenN ?_
               refine hK168 _ _ ?_
               refine gx_ret ?_
               refine gx_blkR ?_
               refine gx_blkR ?_
               refine gx_thenR ?_
               refine gx_thenR ?_
               refine gx_blkR ?_
               refine gx_thenR ?_
               obtain rfl := Option.some.inj hO123
               try dsimp only at hO52
               obtain rfl := Option.some.inj hO52
               exact gx_fin (.bool false) (by as_aux_lemma => kernel_rfl) (by as_aux_lemma => kernel_rfl) ⟨_, rfl, rfl, (hS118.pick [] rfl rfl)⟩
             ·refine gx_vA (.bool false) w117 (run_boolE (decide_eq_false h166) (by as_aux_lemma => kernel_rfl)) ?_
              cases b59 with
              | true =>
               try dsimp only at hO123
               refine gx_kA (.bool true) w117 (gx_kA (.bool true) w117 (gx_oA (gx_oA (gx_oA (gx_oA (gx_oA (gx_oA ?_)))))))
               refine gx_oA (gx_oA (gx_oA (gx_oA (gx_oA (gx_oA (gx_kA (.bool true) w117 ?_))))))
               refine gx_nil ?_
               refine gx_thenN ?_
               refine hK163 _ _ ?_
               refine gx_yes (by as_aux_lemma => kernel_rfl) ?_
               refine gx_seq (fun K169 hK170 => ?_)
               refine gx_region ?_
               refine gx_kA (.bool false) w117 ?_
               refine gx_nil ?_
               refine gx_thenN ?_
               refine hK170 _ _ ?_
               refine gx_ret ?_
               refine gx_blkR ?_
               refine gx_blkR ?_
               refine gx_thenR ?_
               refine gx_thenR ?_
               refine gx_blkR ?_
               refine gx_thenR ?_
               obtain rfl := Option.some.inj hO123
               try dsimp only at hO52
               obtain rfl := Option.some.inj hO52
               exact gx_fin (.bool false) (by as_aux_lemma => kernel_rfl) (by as_aux_lemma => kernel_rfl) ⟨_, rfl, rfl, (hS118.pick [] rfl rfl)⟩
              | false =>
               try dsimp only at hO123
               refine gx_kA (.bool false) w117 (gx_kA (.bool false) w117 (gx_kA (.bool false) w117 (gx_kA (.bool true) w117 (gx_kA (.bool true) w117 (gx_kA (.slice A21 l20.length c22) w117 (gx_kA (.int .i64 x60) w117 ?_))))))
               obtain ⟨x171, hx172, hO123⟩ := bind_in hO123
               refine gx_vA (.pointer (Option.map (fun (p : Addr) => p.add (Int.toNat x60 * 1)) A21)) w117 (run_ixaddr (E := 23) (s := 1) (k := .i64) (c := c22) rfl (by as_aux_lemma => kernel_rfl) (by as_aux_lemma => kernel_rfl) (by as_aux_lemma => kernel_rfl) (fun _ => by kernel_rfl) (ix_in hx172).1 (ix_in hx172).2.1 (num_nil (hS118.row 0 rfl).1)) ?_
               refine gx_vA (.int .u8 x171) w117 (run_loadix rfl (by as_aux_lemma => kernel_rfl) (fun _ => by kernel_rfl) (hS118.row 0 rfl).1 hx172) ?_
               rcases if_in hO123 with ⟨h173, hO123⟩ | ⟨h173, hO123⟩
               ·refine gx_vA (.bool true) w117 (run_boolE (decide_eq_true h173) (by as_aux_lemma => kernel_rfl)) ?_
                refine gx_kA (.int .u8 x58) w117 ?_
                rcases if_in hO123 with ⟨h174, hO123⟩ | ⟨h174, hO123⟩
                ·refine gx_vA (.bool true) w117 (run_boolE (decide_eq_true h174) (by as_aux_lemma => kernel_rfl)) ?_
                 refine gx_kA (.bool false) w117 (gx_kA (.bool false) w117 (gx_kA (.bool false) w117 ?_))
                 refine gx_nil ?_
                 refine gx_thenN ?_
                 refine hK163 _ _ ?_
                 refine gx_no (by as_aux_lemma => kernel_rfl) ?_
                 refine gx_pass ?_
                 refine gx_blkN ?_
                 refine gx_blkN ?_
                 refine gx_thenN ?_
                 refine hK69 _ _ ?_
                 refine gx_region ?_
                 refine gx_kA (.int .i64 x60) w117 (gx_kA (.int .i64 (IntKind.i64.wrap (x60 + 1))) w117 (gx_kA (.int .i64 (IntKind.i64.wrap (x60 + 1))) w117 ?_))
                 refine gx_nil ?_
                 refine gx_thenN ?_
                 exact ⟨k61, Nat.lt_succ_self k61, x58, false, (IntKind.i64.wrap (x60 + 1)), selfA_i (by as_aux_lemma => kernel_rfl), hO123, hS118⟩
                ·refine gx_vA (.bool false) w117 (run_boolE (decide_eq_false h174) (by as_aux_lemma => kernel_rfl)) ?_
                 refine gx_kA (.bool true) w117 (gx_kA (.bool true) w117 (gx_kA (.bool true) w117 ?_))
                 refine gx_nil ?_
                 refine gx_thenN ?_
                 refine hK163 _ _ ?_
                 refine gx_yes (by as_aux_lemma => kernel_rfl) ?_
                 refine gx_seq (fun K175 hK176 => ?_)
                 refine gx_region ?_
                 refine gx_kA (.bool false) w117 ?_
                 refine gx_nil ?_
                 refine gx_thenN ?_
                 refine hK176 _ _ ?_
                 refine gx_ret ?_
                 refine gx_blkR ?_
                 refine gx_blkR ?_
                 refine gx_thenR ?_
                 refine gx_thenR ?_
                 refine gx_blkR ?_
                 refine gx_thenR ?_
                 obtain rfl := Option.some.inj hO123
                 try dsimp only at hO52
                 obtain rfl := Option.some.inj hO52
                 exact gx_fin (.bool false) (by as_aux_lemma => kernel_rfl) (by as_aux_lemma => kernel_rfl) ⟨_, rfl, rfl, (hS118.pick [] rfl rfl)⟩
               ·refine gx_vA (.bool false) w117 (run_boolE (decide_eq_false h173) (by as_aux_lemma => kernel_rfl)) ?_
                refine gx_kA (.int .u8 x58) w117 ?_
                rcases if_in hO123 with ⟨h177, hO123⟩ | ⟨h177, hO123⟩
                ·refine gx_vA (.bool true) w117 (run_boolE (decide_eq_true h177) (by as_aux_lemma => kernel_rfl)) ?_
                 refine gx_kA (.bool true) w117 (gx_kA (.bool true) w117 (gx_kA (.bool true) w117 ?_))
                 refine gx_nil ?_
                 refine gx_thenN ?_
                 refine hK163 _ _ ?_
                 refine gx_yes (by as_aux_lemma => kernel_rfl) ?_
                 refine gx_seq (fun K178 hK179 => ?_)
                 refine gx_region ?_
                 refine gx_kA (.bool false) w117 ?_
                 refine gx_nil ?_
                 refine gx_thenN ?_
                 refine hK179 _ _ ?_
                 refine gx_ret ?_
                 refine gx_blkR ?_
                 refine gx_blkR ?_
                 refine gx_thenR ?_
                 refine gx_thenR ?_
                 refine gx_blkR ?_
                 refine gx_thenR ?_
                 obtain rfl := Option.some.inj hO123
                 try dsimp only at hO52
                 obtain rfl := Option.some.inj hO52
                 exact gx_fin (.bool false) (by as_aux_lemma => kernel_rfl) (by as_aux_lemma => kernel_rfl) ⟨_, rfl, rfl, (hS118.pick [] rfl rfl)⟩
                ·refine gx_vA (.bool false) w117 (run_boolE (decide_eq_false h177) (by as_aux_lemma => kernel_rfl)) ?_
                 refine gx_kA (.bool false) w117 (gx_kA (.bool false) w117 (gx_kA (.bool false) w117 ?_))
                 refine gx_nil ?_
                 refine gx_thenN ?_
                 refine hK163 _ _ ?_
                 refine gx_no (by as_aux_lemma => kernel_rfl) ?_
                 refine gx_pass ?_
                 refine gx_blkN ?_
                 refine gx_blkN ?_
                 refine gx_thenN ?_
                 refine hK69 _ _ ?_
                 refine gx_region ?_
                 refine gx_kA (.int .i64 x60) w117 (gx_kA (.int .i64 (IntKind.i64.wrap (x60 + 1))) w117 (gx_kA (.int .i64 (IntKind.i64.wrap (x60 + 1))) w117 ?_))
                 refine gx_nil ?_
                 refine gx_thenN ?_
                 exact ⟨k61, Nat.lt_succ_self k61, x58, false, (IntKind.i64.wrap (x60 + 1)), selfA_i (by as_aux_lemma => kernel_rfl), hO123, hS118⟩
            ·refine gx_vA (.bool false) w117 (run_boolE (decide_eq_false h161) (by as_aux_lemma => kernel_rfl)) ?_
             refine gx_kA (.bool false) w117 ?_
             refine gx_nil ?_
             refine gx_thenN ?_
             refine hK160 _ _ ?_
             refine gx_no (by as_aux_lemma => kernel_rfl) ?_
             obtain ⟨c184, hE185, hO186⟩ := bind_in hO123
             refine gx_cut (fun a w => ∃ (b183 : Bool), selfA (fun u182 => ⟨((.slice A0 p0.length c0) :: (.int .u8 p1) :: undef :: undef :: (u72 4) :: (.slice A21 l20.length c22) :: (.int .u8 x58) :: (.bool b59) :: (.int .i64 x60) :: (u37 9) :: (.int .i64 ((p0.length : Nat) : Int)) :: (.bool false) :: undef :: (u37 13) :: (.int .u8 p1) :: dd u37 15 2 ((.int .i64 ((l20.length : Nat) : Int)) :: (u37 18) :: (.int .i64 ((p0.length : Nat) : Int)) :: (.bool false) :: dd u37 21 2 ((.int .i64 x60) :: (u72 24) :: (.int .i64 ((p0.length : Nat) : Int)) :: (.bool true) :: dd u57 27 2 (dd u72 29 17 ((u119 46) :: (.int .i64 x60) :: (.pointer (Option.map (fun (p : Addr) => p.add (Int.toNat x60 * 1)) A0)) :: (.int .u8 x115) :: dd u57 50 9 ((.bool false) :: dd u119 60 2 (dd u57 62 13 ((.bool false) :: (.bool false) :: dd u57 77 5 ((.bool false) :: (.bool false) :: dd u57 84 21 ((.bool b183) :: dd u182 106 4 (undef :: []))))))))))).toArray, []⟩) a ∧ b183 = c184 ∧ St [] w0 w [rowE .u8 23 A21 c22 l20]) ?_ ?_
             ·refine gx_seq (fun K187 hK188 => ?_)
              refine gx_region ?_
              rcases if_in hE185 with ⟨h189, hE185⟩ | ⟨h189, hE185⟩
              ·refine gx_vA (.bool true) w117 (run_boolE (decide_eq_true h189) (by as_aux_lemma => kernel_rfl)) ?_
               refine gx_kA (.bool true) w117 ?_
               refine gx_nil ?_
               refine gx_thenN ?_
               refine hK188 _ _ ?_
               refine gx_yes (by as_aux_lemma => kernel_rfl) ?_
               refine gx_pass ?_
               refine gx_thenN ?_
               exact ⟨true, selfA_i (by as_aux_lemma => kernel_rfl), (Option.some.inj hE185), hS118⟩
              ·refine gx_vA (.bool false) w117 (run_boolE (decide_eq_false h189) (by as_aux_lemma => kernel_rfl)) ?_
               refine gx_kA (.bool false) w117 ?_
               refine gx_nil ?_
               refine gx_thenN ?_
               refine hK188 _ _ ?_
               refine gx_no (by as_aux_lemma => kernel_rfl) ?_
               refine gx_seq (fun K190 hK191 => ?_)
               refine gx_region ?_
               rcases if_in hE185 with ⟨h192, hE185⟩ | ⟨h192, hE185⟩
               ·refine gx_vA (.bool true) w117 (run_boolE (decide_eq_true h192) (by as_aux_lemma => kernel_rfl)) ?_
                refine gx_kA (.bool true) w117 ?_
                refine gx_nil ?_
                refine gx_thenN ?_
                refine hK191 _ _ ?_
                refine gx_yes (by as_aux_lemma => kernel_rfl) ?_
                refine gx_pass ?_
                refine gx_thenN ?_
                exact ⟨true, selfA_i (by as_aux_lemma => kernel_rfl), (Option.some.inj hE185), hS118⟩
               ·refine gx_vA (.bool false) w117 (run_boolE (decide_eq_false h192) (by as_aux_lemma => kernel_rfl)) ?_
                refine gx_kA (.bool false) w117 ?_
                refine gx_nil ?_
                refine gx_thenN ?_
                refine hK191 _ _ ?_
                refine gx_no (by as_aux_lemma => kernel_rfl) ?_
                refine gx_seq (fun K193 hK194 => ?_)
                refine gx_region ?_
                rcases if_in hE185 with ⟨h195, hE185⟩ | ⟨h195, hE185⟩
                ·refine gx_vA (.bool true) w117 (run_boolE (decide_eq_true h195) (by as_aux_lemma => kernel_rfl)) ?_
                 refine gx_kA (.bool true) w117 ?_
                 refine gx_nil ?_
                 refine gx_thenN ?_
                 refine hK194 _ _ ?_
                 refine gx_yes (by as_aux_lemma => kernel_rfl) ?_
                 refine gx_pass ?_
                 refine gx_thenN ?_
                 exact ⟨true, selfA_i (by as_aux_lemma => kernel_rfl), (Option.some.inj hE185), hS118⟩
                ·refine gx_vA (.bool false) w117 (run_boolE (decide_eq_false h195) (by as_aux_lemma => kernel_rfl)) ?_
                 refine gx_kA (.bool false) w117 ?_
                 refine gx_nil ?_
                 refine gx_thenN ?_
                 refine hK194 _ _ ?_
                 refine gx_no (by as_aux_lemma => kernel_rfl) ?_
                 refine gx_region ?_
                 rcases if_in hE185 with ⟨h196, hE185⟩ | ⟨h196, hE185⟩
                 ·refine gx_vA (.bool true) w117 (run_boolE (decide_eq_true h196) (by as_aux_lemma => kernel_rfl)) ?_
                  refine gx_kA (.bool true) w117 ?_
                  refine gx_nil ?_
                  refine gx_thenN ?_
                  exact ⟨true, selfA_i (by as_aux_lemma => kernel_rfl), (Option.some.inj hE185), hS118⟩
                 ·refine gx_vA (.bool false) w117 (run_boolE (decide_eq_false h196) (by as_aux_lemma => kernel_rfl)) ?_
                  refine gx_kA (.bool false) w117 ?_
                  refine gx_nil ?_
                  refine gx_thenN ?_
                  exact ⟨false, selfA_i (by as_aux_lemma => kernel_rfl), (Option.some.inj hE185), hS118⟩
             ·rintro _ w180 ⟨b183, hq208, rfl, hS181⟩
              obtain ⟨u182, rfl⟩ := selfA_u hq208
              try dsimp only at hO186
              cases b183 with
              | true =>
               try dsimp only at hO186
               refine gx_yes (by as_aux_lemma => kernel_rfl) ?_
               refine gx_pass ?_
               refine gx_blkN ?_
               refine gx_blkN ?_
               refine gx_thenN ?_
               refine hK69 _ _ ?_
               refine gx_region ?_
               refine gx_kA (.int .i64 x60) w180 (gx_kA (.int .i64 (IntKind.i64.wrap (x60 + 1))) w180 (gx_kA (.int .i64 (IntKind.i64.wrap (x60 + 1))) w180 ?_))
               refine gx_nil ?_
               refine gx_thenN ?_
               exact ⟨k61, Nat.lt_succ_self k61, x58, b59, (IntKind.i64.wrap (x60 + 1)), selfA_i (by as_aux_lemma => kernel_rfl), hO186, hS181⟩
              | false =>
               try dsimp only at hO186
               refine gx_no (by as_aux_lemma => kernel_rfl) ?_
               refine gx_seq (fun K197 hK198 => ?_)
               refine gd_start (fun w => St [] w0 w [rowE .u8 23 A21 c22 l20]) 9 #[false, false, false, false, false, false, false, false, false] (by as_aux_lemma => kernel_rfl) (by as_aux_lemma => kernel_rfl) ?_
               have hS200 := hS181.drew
               generalize w180.drew = w199 at hS200 ⊢
               refine gd1 0 { dst := some 50, op := _, type := _, pos := _, after := _, guard := _ } (.slice A21 l20.length c22) rfl hS200 (fun w hSw => by kernel_rfl) ?_
               refine gd1 1 { dst := some 51, op := _, type := _, pos := _, after := _, guard := _ } (.int .i64 x60) rfl hS200 (fun w hSw => by kernel_rfl) ?_
               obtain ⟨x201, hx202, hO186⟩ := bind_in hO186
               refine gd1 2 { dst := some 52, op := _, type := _, pos := _, after := _, guard := _ } (.pointer (Option.map (fun (p : Addr) => p.add (Int.toNat x60 * 1)) A21)) rfl hS200 (fun w hSw => run_ixaddr (E := 23) (s := 1) (k := .i64) (c := c22) rfl (by as_aux_lemma => kernel_rfl) (by as_aux_lemma => kernel_rfl) (by as_aux_lemma => kernel_rfl) (fun _ => by kernel_rfl) (ix_in hx202).1 (ix_in hx202).2.1 (num_nil (hS200.row 0 rfl).1)) ?_
               refine gd1 3 { dst := some 53, op := _, type := _, pos := _, after := _, guard := _ } (.int .u8 x201) rfl hS200 (fun w hSw => run_loadix rfl (by as_aux_lemma => kernel_rfl) (fun _ => by kernel_rfl) (hSw.row 0 rfl).1 hx202) ?_
               refine gd1 4 { dst := some 54, op := _, type := _, pos := _, after := _, guard := _ } (.slice A0 p0.length c0) rfl hS200 (fun w hSw => by kernel_rfl) ?_
               refine gd1 5 { dst := some 55, op := _, type := _, pos := _, after := _, guard := _ } (.int .i64 x60) rfl hS200 (fun w hSw => by kernel_rfl) ?_
               obtain ⟨x203, hx204, hO186⟩ := bind_in hO186
               refine gd1 6 { dst := some 56, op := _, type := _, pos := _, after := _, guard := _ } (.pointer (Option.map (fun (p : Addr) => p.add (Int.toNat x60 * 1)) A0)) rfl hS200 (fun w hSw => run_ixaddr (E := 23) (s := 1) (k := .i64) (c := c0) rfl (by as_aux_lemma => kernel_rfl) (by as_aux_lemma => kernel_rfl) (by as_aux_lemma => kernel_rfl) (fun _ => by kernel_rfl) (ix_in hx204).1 (ix_in hx204).2.1 (num_nil (hS200.view hv0))) ?_
               refine gd1 7 { dst := some 57, op := _, type := _, pos := _, after := _, guard := _ } (.int .u8 x203) rfl hS200 (fun w hSw => run_loadix rfl (by as_aux_lemma => kernel_rfl) (fun _ => by kernel_rfl) (hSw.view hv0) hx204) ?_
               rcases if_in hO186 with ⟨h205, hO186⟩ | ⟨h205, hO186⟩
               ·refine gd1 8 { dst := some 58, op := _, type := _, pos := _, after := _, guard := _ } (.bool true) rfl hS200 (fun w hSw => run_boolE (ne_yes h205) (by as_aux_lemma => kernel_rfl)) ?_
                refine gd_done (by as_aux_lemma => kernel_rfl) ?_
                refine gx_thenN ?_
                refine hK198 _ _ ?_
                refine gx_yes (by as_aux_lemma => kernel_rfl) ?_
                refine gx_seq (fun K206 hK207 => ?_)
                refine gx_region ?_
                refine gx_kA (.bool false) w199 ?_
                refine gx_nil ?_
                refine gx_thenN ?_
                refine hK207 _ _ ?_
                refine gx_ret ?_
                refine gx_blkR ?_
                refine gx_blkR ?_
                refine gx_thenR ?_
                refine gx_thenR ?_
                refine gx_blkR ?_
                refine gx_thenR ?_
                obtain rfl := Option.some.inj hO186
                try dsimp only at hO52
                obtain rfl := Option.some.inj hO52
                exact gx_fin (.bool false) (by as_aux_lemma => kernel_rfl) (by as_aux_lemma => kernel_rfl) ⟨_, rfl, rfl, (hS200.pick [] rfl rfl)⟩
               ·refine gd1 8 { dst := some 58, op := _, type := _, pos := _, after := _, guard := _ } (.bool false) rfl hS200 (fun w hSw => run_boolE (ne_no h205) (by as_aux_lemma => kernel_rfl)) ?_
                refine gd_done (by as_aux_lemma => kernel_rfl) ?_
                refine gx_thenN ?_
                refine hK198 _ _ ?_
                refine gx_no (by as_aux_lemma => kernel_rfl) ?_
                refine gx_pass ?_
                refine gx_blkN ?_
                refine gx_blkN ?_
                refine gx_thenN ?_
                refine hK69 _ _ ?_
                refine gx_region ?_
                refine gx_kA (.int .i64 x60) w199 (gx_kA (.int .i64 (IntKind.i64.wrap (x60 + 1))) w199 (gx_kA (.int .i64 (IntKind.i64.wrap (x60 + 1))) w199 ?_))
                refine gx_nil ?_
                refine gx_thenN ?_
                exact ⟨k61, Nat.lt_succ_self k61, x58, b59, (IntKind.i64.wrap (x60 + 1)), selfA_i (by as_aux_lemma => kernel_rfl), hO186, hS200⟩
       ·refine gx_vA (.bool false) w55 (run_boolE (decide_eq_false h67) (by as_aux_lemma => kernel_rfl)) ?_
        refine gx_nil ?_
        refine gx_thenN ?_
        refine hK66 _ _ ?_
        refine gx_no (by as_aux_lemma => kernel_rfl) ?_
        refine gx_exit ?_
        refine gx_thenE ?_
        refine gx_thenE ?_
        refine gx_blkE ?_
        refine gx_thenN ?_
        exact ⟨selfA_i (by as_aux_lemma => kernel_rfl), (Option.some.inj hL62), (hS56.pick [] rfl rfl)⟩
    ·rintro _ w47 ⟨hq220, rfl, hS48⟩
     obtain ⟨u49, rfl⟩ := selfA_u hq220
     try dsimp only at hO52
     refine gx_seq (fun K212 hK213 => ?_)
     refine gx_region ?_
     have hP214 : St _ _ w47 ([] ++ []) := hS48
     obtain ⟨b216, hc215, hO52⟩ := bind_in hO52
     try dsimp only at hO52
     refine gx_cA (kArabic_R b216 w47) (kArabic_ok N  _ hc215 w47 ) ?_
     rintro _ w217 ⟨rfl, hT219⟩
     have hS218 : St _ _ w217 [] := hS48.take _ hT219
     refine gx_kA (.bool b216) w217 ?_
     refine gx_nil ?_
     refine gx_thenN ?_
     refine hK213 _ _ ?_
     refine gx_ret ?_
     obtain rfl := Option.some.inj hO52
     exact gx_fin (.bool b216) (by as_aux_lemma => kernel_rfl) (by as_aux_lemma => kernel_rfl) ⟨_, rfl, rfl, hS218⟩

end Go.Proofs.Ytdpcaidhpccaiaa
