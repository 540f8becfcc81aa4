/-
  SegmentMusts, walked.
-/
import Derived.Test.YtdbimchiecdkoaaF0
namespace Go.Proofs.Ytdbimchiecdkoaa
open Go Go.RowKit
set_option linter.unusedVariables false
def fMusts_L1 (N : Nat) (p0 : List Int) (l20 : List Int) : Nat → Int → Option (Ctl (Unit) (Bool))
 | 0, _ => none
 | k54+1, x53 => (if x53 < ((p0.length : Nat) : Int) then ((ix p0 x53).bind fun x65 => ((ucBk N x65).bind fun x69 => (((if x53 > 0 then ((ix p0 (IntKind.i64.wrap (x53 - 1))).bind fun x87 => ((ucBk N x87).bind fun x91 => (((if x91 = 1 then some (true) else (if x91 = 4 then some (true) else some (false))) : Option (Bool)).bind fun b98 => (((match b98 with | true => some (true) | false => (if x91 = 3 then some (true) else some (false))) : Option (Bool)).bind fun b108 => (match b108 with | true => some (true) | false => (if x91 = 2 then (if x69 ≠ 3 then some (true) else some (false)) else some (false))))))) else some (false)) : Option (Bool)).bind fun b78 => ((((ix l20 x53).bind fun x124 => (if x124 = 2 then (((match b78 with | true => ((ix l20 x53).bind fun x135 => (if x135 > 2 then some (true) else some (false))) | false => some (true)) : Option (Bool)).bind fun b130 => (match b130 with | true => some (Ctl.ret false) | false => (if x53 = 0 then ((ix l20 x53).bind fun x141 => (if x141 ≠ 0 then some (Ctl.ret false) else some (Ctl.go ()))) else some (Ctl.go ())))) else (((match b78 with | true => some (true) | false => ((ix l20 x53).bind fun x154 => (if x154 > 2 then some (true) else some (false)))) : Option (Bool)).bind fun b149 => (match b149 with | true => some (Ctl.ret false) | false => (if x53 = 0 then ((ix l20 x53).bind fun x160 => (if x160 ≠ 0 then some (Ctl.ret false) else some (Ctl.go ()))) else some (Ctl.go ())))))) : Option (Ctl (Unit) (Bool))).bind fun | Ctl.go () => (((match b78 with | true => some (false) | false => ((ix l20 x53).bind fun x175 => (if x175 ≠ 0 then some (true) else some (false)))) : Option (Bool)).bind fun b170 => (match b170 with | true => (((if x69 = 5 then some (true) else (if x69 = 6 then some (true) else some (false))) : Option (Bool)).bind fun b181 => (((match b181 with | true => some (true) | false => (if x69 = 1 then some (true) else some (false))) : Option (Bool)).bind fun b191 => (((match b191 with | true => some (true) | false => (if x69 = 2 then some (true) else some (false))) : Option (Bool)).bind fun b200 => (match b200 with | true => some (Ctl.ret false) | false => (if x69 = 3 then some (Ctl.ret false) else (if x69 = 4 then some (Ctl.ret false) else fMusts_L1 N p0 l20 k54 (IntKind.i64.wrap (x53 + 1)))))))) | false => fMusts_L1 N p0 l20 k54 (IntKind.i64.wrap (x53 + 1)))) | Ctl.ret r => some (Ctl.ret r))))) else some (Ctl.go ()))
def fMusts (N : Nat) (p0 : List Int) : Option (Bool) :=
 (if ((p0.length : Nat) : Int) > 400 then ((kWorks N ).bind fun b12 => some b12) else ((pBreaks N p0).bind fun l20 => (((if ((l20.length : Nat) : Int) ≠ (IntKind.i64.wrap (((p0.length : Nat) : Int) + 1)) then some (Ctl.ret false) else ((ix l20 ((p0.length : Nat) : Int)).bind fun x37 => (if x37 ≠ 2 then some (Ctl.ret false) else some (Ctl.go ())))) : Option (Ctl (Unit) (Bool))).bind fun | Ctl.go () => ((fMusts_L1 N p0 l20 N 0 : Option (Ctl (Unit) (Bool))).bind fun | Ctl.go () => ((kWorks N ).bind fun b221 => some b221) | Ctl.ret r => some r) | Ctl.ret r => some r)))
set_option linter.unusedVariables false in
def fMusts_R (r : Bool) (w0 : World) (v : Value) (w : World) : Prop := v = .bool r ∧ St [] w0 w []
set_option maxRecDepth 100000 in
set_option maxHeartbeats 4000000 in
theorem fMusts_ok (N : Nat) (p0 : List Int) (A0 : Option Addr) (c0 : Nat) (r : Bool) (hF : fMusts N p0 = some r) (w0 : World) (hv0 : Vw [] .i32 w0 A0 c0 p0) :
  Calls Try.prog 4 #[.slice A0 p0.length c0] w0 fun e w => ∃ v, e = .returned v ∧ fMusts_R r w0 v w := by
 have hS0 := St.start w0
 unfold fMusts at hF
 refine calls_of Try.func4 rfl ⟨((.slice A0 p0.length c0) :: un 123 ([])).toArray, []⟩ (by as_aux_lemma => kernel_rfl) ?_
 refine gx_seq (fun K1 hK2 => ?_)
 refine gx_region ?_
 refine gx_kA (.bool false) w0 ?_
 refine gx_nil ?_
 refine gx_thenN ?_
 refine hK2 _ _ ?_
 refine gx_seq (fun K3 hK4 => ?_)
 refine gx_seq (fun K5 hK6 => ?_)
 refine gx_region ?_
 refine gx_kA (.slice A0 p0.length c0) w0 (gx_kA (.int .i64 ((p0.length : Nat) : Int)) w0 ?_)
 rcases if_in hF with ⟨h7, hF⟩ | ⟨h7, hF⟩
 ·refine gx_vA (.bool true) w0 (run_boolE (decide_eq_true h7) (by as_aux_lemma => kernel_rfl)) ?_
  refine gx_nil ?_
  refine gx_thenN ?_
  refine hK6 _ _ ?_
  refine gx_yes (by as_aux_lemma => kernel_rfl) ?_
  refine gx_seq (fun K8 hK9 => ?_)
  refine gx_region ?_
  have hP10 : St _ _ w0 ([] ++ []) := hS0
  obtain ⟨b12, hc11, hF⟩ := bind_in hF
  try dsimp only at hF
  refine gx_cA (kWorks_R b12 w0) (kWorks_ok N  _ hc11 w0 ) ?_
  rintro _ w13 ⟨rfl, hT15⟩
  have hS14 : St _ _ w13 [] := hS0.take _ hT15
  refine gx_kA (.bool b12) w13 ?_
  refine gx_nil ?_
  refine gx_thenN ?_
  refine hK9 _ _ ?_
  refine gx_ret ?_
  refine gx_thenR ?_
  obtain rfl := Option.some.inj hF
  exact gx_fin (.bool b12) (by as_aux_lemma => kernel_rfl) (by as_aux_lemma => kernel_rfl) ⟨_, rfl, rfl, hS14⟩
 ·refine gx_vA (.bool false) w0 (run_boolE (decide_eq_false h7) (by as_aux_lemma => kernel_rfl)) ?_
  refine gx_nil ?_
  refine gx_thenN ?_
  refine hK6 _ _ ?_
  refine gx_no (by as_aux_lemma => kernel_rfl) ?_
  refine gx_pass ?_
  refine gx_thenN ?_
  refine hK4 _ _ ?_
  refine gx_seq (fun K16 hK17 => ?_)
  refine gx_region ?_
  refine gx_kA (.slice A0 p0.length c0) w0 ?_
  have hP18 : St _ _ w0 ([] ++ []) := hS0
  obtain ⟨l20, hc19, hF⟩ := bind_in hF
  try dsimp only at hF
  refine gx_cA (pBreaks_R l20 w0) (pBreaks_ok N p0 A0 c0 _ hc19 w0 (hP18.vwA hv0)) ?_
  rintro _ w23 ⟨A21, c22, rfl, hT25⟩
  have hS24 : St _ _ w23 [rowE .u8 5 A21 c22 l20] := hS0.take _ hT25
  refine gx_kA (.slice A21 l20.length c22) w23 ?_
  refine gx_nil ?_
  refine gx_thenN ?_
  refine hK17 _ _ ?_
  obtain ⟨c29, hE30, hO31⟩ := bind_in hF
  refine gx_cut (fun a w => selfA (fun u28 => ⟨((.slice A0 p0.length c0) :: undef :: (u28 2) :: (.slice A21 l20.length c22) :: un 4 ((u28 8) :: (.int .i64 ((p0.length : Nat) : Int)) :: (.bool false) :: undef :: dd u28 12 16 (un 96 ([])))).toArray, []⟩) a ∧ Ctl.go () = c29 ∧ St [] w0 w [rowE .u8 5 A21 c22 l20]) ?_ ?_
  ·refine gx_seq (fun K32 hK33 => ?_)
   refine gx_region ?_
   refine gx_kA (.slice A21 l20.length c22) w23 (gx_kA (.int .i64 ((l20.length : Nat) : Int)) w23 (gx_kA (.slice A0 p0.length c0) w23 (gx_kA (.int .i64 ((p0.length : Nat) : Int)) w23 (gx_kA (.int .i64 (IntKind.i64.wrap (((p0.length : Nat) : Int) + 1))) w23 ?_))))
   rcases if_in hE30 with ⟨h34, hE30⟩ | ⟨h34, hE30⟩
   ·refine gx_vA (.bool true) w23 (run_boolE (ne_yes h34) (by as_aux_lemma => kernel_rfl)) ?_
    refine gx_kA (.bool true) w23 (gx_oA (gx_oA (gx_oA (gx_oA (gx_oA (gx_oA (gx_kA (.bool true) w23 ?_)))))))
    refine gx_nil ?_
    refine gx_thenN ?_
    refine hK33 _ _ ?_
    refine gx_yes (by as_aux_lemma => kernel_rfl) ?_
    refine gx_seq (fun K35 hK36 => ?_)
    refine gx_region ?_
    refine gx_kA (.bool false) w23 ?_
    refine gx_nil ?_
    refine gx_thenN ?_
    refine hK36 _ _ ?_
    refine gx_ret ?_
    refine gx_thenR ?_
    obtain rfl := Option.some.inj hE30
    try dsimp only at hO31
    obtain rfl := Option.some.inj hO31
    exact gx_fin (.bool false) (by as_aux_lemma => kernel_rfl) (by as_aux_lemma => kernel_rfl) ⟨_, rfl, rfl, (hS24.pick [] rfl rfl)⟩
   ·refine gx_vA (.bool false) w23 (run_boolE (ne_no h34) (by as_aux_lemma => kernel_rfl)) ?_
    refine gx_kA (.bool false) w23 (gx_kA (.slice A21 l20.length c22) w23 (gx_kA (.slice A0 p0.length c0) w23 (gx_kA (.int .i64 ((p0.length : Nat) : Int)) w23 ?_)))
    obtain ⟨x37, hx38, hE30⟩ := bind_in hE30
    refine gx_vA (.pointer (Option.map (fun (p : Addr) => p.add (Int.toNat ((p0.length : Nat) : Int) * 1)) A21)) w23 (run_ixaddr (E := 5) (s := 1) (k := .i64) (c := c22) rfl (by as_aux_lemma => kernel_rfl) (by as_aux_lemma => kernel_rfl) (by as_aux_lemma => kernel_rfl) (fun _ => by kernel_rfl) (ix_in hx38).1 (ix_in hx38).2.1 (num_nil (hS24.row 0 rfl).1)) ?_
    refine gx_vA (.int .u8 x37) w23 (run_loadix rfl (by as_aux_lemma => kernel_rfl) (fun _ => by kernel_rfl) (hS24.row 0 rfl).1 hx38) ?_
    rcases if_in hE30 with ⟨h39, hE30⟩ | ⟨h39, hE30⟩
    ·refine gx_vA (.bool true) w23 (run_boolE (ne_yes h39) (by as_aux_lemma => kernel_rfl)) ?_
     refine gx_kA (.bool true) w23 ?_
     refine gx_nil ?_
     refine gx_thenN ?_
     refine hK33 _ _ ?_
     refine gx_yes (by as_aux_lemma => kernel_rfl) ?_
     refine gx_seq (fun K40 hK41 => ?_)
     refine gx_region ?_
     refine gx_kA (.bool false) w23 ?_
     refine gx_nil ?_
     refine gx_thenN ?_
     refine hK41 _ _ ?_
     refine gx_ret ?_
     refine gx_thenR ?_
     obtain rfl := Option.some.inj hE30
     try dsimp only at hO31
     obtain rfl := Option.some.inj hO31
     exact gx_fin (.bool false) (by as_aux_lemma => kernel_rfl) (by as_aux_lemma => kernel_rfl) ⟨_, rfl, rfl, (hS24.pick [] rfl rfl)⟩
    ·refine gx_vA (.bool false) w23 (run_boolE (ne_no h39) (by as_aux_lemma => kernel_rfl)) ?_
     refine gx_kA (.bool false) w23 ?_
     refine gx_nil ?_
     refine gx_thenN ?_
     refine hK33 _ _ ?_
     refine gx_no (by as_aux_lemma => kernel_rfl) ?_
     refine gx_pass ?_
     refine gx_thenN ?_
     exact ⟨selfA_i (by as_aux_lemma => kernel_rfl), (Option.some.inj hE30), hS24⟩
  ·rintro _ w26 ⟨hq226, rfl, hS27⟩
   obtain ⟨u28, rfl⟩ := selfA_u hq226
   try dsimp only at hO31
   obtain ⟨c45, hE46, hO47⟩ := bind_in hO31
   refine gx_cut (fun a w => selfA (fun u44 => ⟨((u44 0) :: undef :: dd u44 2 6 ((u28 8) :: (.int .i64 ((p0.length : Nat) : Int)) :: (.bool false) :: undef :: dd u28 12 16 (dd u44 28 95 (undef :: [])))).toArray, []⟩) a ∧ Ctl.go () = c45 ∧ St [] w0 w []) ?_ ?_
   ·refine gx_seq (fun K48 hK49 => ?_)
    refine gx_region ?_
    refine gx_kA (.int .i64 0) w26 ?_
    refine gx_nil ?_
    refine gx_thenN ?_
    refine hK49 _ _ ?_
    refine gx_block ?_
    refine gx_loop (fun k a w => ∃ (x53 : Int), selfA (fun u52 => ⟨((.slice A0 p0.length c0) :: undef :: (u52 2) :: (.slice A21 l20.length c22) :: (.int .i64 x53) :: dd u52 5 3 ((u28 8) :: (.int .i64 ((p0.length : Nat) : Int)) :: (.bool false) :: undef :: dd u28 12 16 (dd u52 28 95 (undef :: [])))).toArray, []⟩) a ∧ fMusts_L1 N p0 l20 k x53 = some c45 ∧ St [] w0 w [rowE .u8 5 A21 c22 l20]) N ?_ ?_
    ·exact ⟨0, selfA_i (by as_aux_lemma => kernel_rfl), hE46, hS27⟩
    ·rintro k54 _ w50 ⟨x53, hq216, hL55, hS51⟩
     obtain ⟨u52, rfl⟩ := selfA_u hq216
     cases k54 with
     | zero => cases hL55
     | succ k54 =>
      first | rw [fMusts_L1] at hL55 | unfold fMusts_L1 at hL55
      refine gx_seq (fun K56 hK57 => ?_)
      refine gx_seq (fun K58 hK59 => ?_)
      refine gx_region ?_
      refine gx_kA (.int .i64 x53) w50 (gx_kA (.slice A0 p0.length c0) w50 (gx_kA (.int .i64 ((p0.length : Nat) : Int)) w50 ?_))
      rcases if_in hL55 with ⟨h60, hL55⟩ | ⟨h60, hL55⟩
      ·refine gx_vA (.bool true) w50 (run_boolE (decide_eq_true h60) (by as_aux_lemma => kernel_rfl)) ?_
       refine gx_nil ?_
       refine gx_thenN ?_
       refine hK59 _ _ ?_
       refine gx_yes (by as_aux_lemma => kernel_rfl) ?_
       refine gx_pass ?_
       refine gx_thenN ?_
       refine hK57 _ _ ?_
       refine gx_seq (fun K61 hK62 => ?_)
       refine gx_block ?_
       refine gx_seq (fun K63 hK64 => ?_)
       refine gx_region ?_
       refine gx_kA (.slice A0 p0.length c0) w50 (gx_kA (.int .i64 x53) w50 ?_)
       obtain ⟨x65, hx66, hL55⟩ := bind_in hL55
       refine gx_vA (.pointer (Option.map (fun (p : Addr) => p.add (Int.toNat x53 * 1)) A0)) w50 (run_ixaddr (E := 21) (s := 1) (k := .i64) (c := c0) rfl (by as_aux_lemma => kernel_rfl) (by as_aux_lemma => kernel_rfl) (by as_aux_lemma => kernel_rfl) (fun _ => by kernel_rfl) (ix_in hx66).1 (ix_in hx66).2.1 (num_nil (hS51.view hv0))) ?_
       refine gx_vA (.int .i32 x65) w50 (run_loadix rfl (by as_aux_lemma => kernel_rfl) (fun _ => by kernel_rfl) (hS51.view hv0) hx66) ?_
       have hP67 : St _ _ w50 ([] ++ [rowE .u8 5 A21 c22 l20]) := hS51
       obtain ⟨x69, hc68, hL55⟩ := bind_in hL55
       try dsimp only at hL55
       refine gx_cA (ucBk_R x69 w50) (ucBk_ok N x65 _ hc68 w50 ) ?_
       rintro _ w70 ⟨rfl, hT72⟩
       have hS71 : St _ _ w70 [rowE .u8 5 A21 c22 l20] := hS51.take _ hT72
       refine gx_kA (.int .u8 x69) w70 ?_
       refine gx_nil ?_
       refine gx_thenN ?_
       refine hK64 _ _ ?_
       refine gx_seq (fun K73 hK74 => ?_)
       refine gx_region ?_
       refine gx_kA (.bool false) w70 ?_
       refine gx_nil ?_
       refine gx_thenN ?_
       refine hK74 _ _ ?_
       obtain ⟨c79, hE80, hO81⟩ := bind_in hL55
       refine gx_cut (fun a w => ∃ (b78 : Bool), selfA (fun u77 => ⟨((.slice A0 p0.length c0) :: undef :: (u52 2) :: (.slice A21 l20.length c22) :: (.int .i64 x53) :: (.int .u8 x69) :: (.bool b78) :: (u77 7) :: (u28 8) :: (.int .i64 ((p0.length : Nat) : Int)) :: (.bool false) :: undef :: dd u28 12 16 ((.int .i64 x53) :: (u77 29) :: (.int .i64 ((p0.length : Nat) : Int)) :: (.bool true) :: dd u52 32 2 ((u77 34) :: (.int .i64 x53) :: (.pointer (Option.map (fun (p : Addr) => p.add (Int.toNat x53 * 1)) A0)) :: (.int .i32 x65) :: (.int .u8 x69) :: dd u77 39 26 (dd u52 65 58 (undef :: []))))).toArray, []⟩) a ∧ b78 = c79 ∧ St [] w0 w [rowE .u8 5 A21 c22 l20]) ?_ ?_
       ·refine gx_seq (fun K82 hK83 => ?_)
        refine gx_region ?_
        refine gx_kA (.int .i64 x53) w70 ?_
        rcases if_in hE80 with ⟨h84, hE80⟩ | ⟨h84, hE80⟩
        ·refine gx_vA (.bool true) w70 (run_boolE (decide_eq_true h84) (by as_aux_lemma => kernel_rfl)) ?_
         refine gx_nil ?_
         refine gx_thenN ?_
         refine hK83 _ _ ?_
         refine gx_yes (by as_aux_lemma => kernel_rfl) ?_
         refine gx_seq (fun K85 hK86 => ?_)
         refine gx_region ?_
         refine gx_kA (.slice A0 p0.length c0) w70 (gx_kA (.int .i64 x53) w70 (gx_kA (.int .i64 (IntKind.i64.wrap (x53 - 1))) w70 ?_))
         obtain ⟨x87, hx88, hE80⟩ := bind_in hE80
         refine gx_vA (.pointer (Option.map (fun (p : Addr) => p.add (Int.toNat (IntKind.i64.wrap (x53 - 1)) * 1)) A0)) w70 (run_ixaddr (E := 21) (s := 1) (k := .i64) (c := c0) rfl (by as_aux_lemma => kernel_rfl) (by as_aux_lemma => kernel_rfl) (by as_aux_lemma => kernel_rfl) (fun _ => by kernel_rfl) (ix_in hx88).1 (ix_in hx88).2.1 (num_nil (hS71.view hv0))) ?_
         refine gx_vA (.int .i32 x87) w70 (run_loadix rfl (by as_aux_lemma => kernel_rfl) (fun _ => by kernel_rfl) (hS71.view hv0) hx88) ?_
         have hP89 : St _ _ w70 ([] ++ [rowE .u8 5 A21 c22 l20]) := hS71
         obtain ⟨x91, hc90, hE80⟩ := bind_in hE80
         try dsimp only at hE80
         refine gx_cA (ucBk_R x91 w70) (ucBk_ok N x87 _ hc90 w70 ) ?_
         rintro _ w92 ⟨rfl, hT94⟩
         have hS93 : St _ _ w92 [rowE .u8 5 A21 c22 l20] := hS71.take _ hT94
         refine gx_kA (.int .u8 x91) w92 ?_
         refine gx_nil ?_
         refine gx_thenN ?_
         refine hK86 _ _ ?_
         refine gx_region ?_
         refine gx_kA (.int .u8 x91) w92 ?_
         obtain ⟨c99, hE100, hO101⟩ := bind_in hE80
         refine gx_part (l1 := [_, _, _, _, _]) (fun a w => ∃ (b98 : Bool), selfA (fun u97 => ⟨((.slice A0 p0.length c0) :: undef :: (u52 2) :: (.slice A21 l20.length c22) :: (.int .i64 x53) :: (.int .u8 x69) :: (.bool false) :: (.int .u8 x91) :: (u28 8) :: (.int .i64 ((p0.length : Nat) : Int)) :: (.bool false) :: undef :: dd u28 12 16 ((.int .i64 x53) :: (u97 29) :: (.int .i64 ((p0.length : Nat) : Int)) :: (.bool true) :: dd u52 32 2 ((u97 34) :: (.int .i64 x53) :: (.pointer (Option.map (fun (p : Addr) => p.add (Int.toNat x53 * 1)) A0)) :: (.int .i32 x65) :: (.int .u8 x69) :: (.int .i64 x53) :: (.bool true) :: (u97 41) :: (.int .i64 x53) :: (.int .i64 (IntKind.i64.wrap (x53 - 1))) :: (.pointer (Option.map (fun (p : Addr) => p.add (Int.toNat (IntKind.i64.wrap (x53 - 1)) * 1)) A0)) :: (.int .i32 x87) :: (.int .u8 x91) :: (.int .u8 x91) :: dd u97 48 4 ((.bool b98) :: dd u52 53 70 (undef :: []))))).toArray, []⟩) a ∧ b98 = c99 ∧ St [] w0 w [rowE .u8 5 A21 c22 l20]) rfl ?_ ?_
         ·rcases if_in hE100 with ⟨h103, hE100⟩ | ⟨h103, hE100⟩
          ·refine gx_vA (.bool true) w92 (run_boolE (decide_eq_true h103) (by as_aux_lemma => kernel_rfl)) ?_
           refine gx_kA (.bool true) w92 (gx_oA (gx_oA (gx_kA (.bool true) w92 ?_)))
           refine gx_nil ?_
           refine gx_thenN ?_
           exact ⟨true, selfA_i (by as_aux_lemma => kernel_rfl), (Option.some.inj hE100), hS93⟩
          ·refine gx_vA (.bool false) w92 (run_boolE (decide_eq_false h103) (by as_aux_lemma => kernel_rfl)) ?_
           refine gx_kA (.bool false) w92 (gx_kA (.int .u8 x91) w92 ?_)
           rcases if_in hE100 with ⟨h104, hE100⟩ | ⟨h104, hE100⟩
           ·refine gx_vA (.bool true) w92 (run_boolE (decide_eq_true h104) (by as_aux_lemma => kernel_rfl)) ?_
            refine gx_kA (.bool true) w92 ?_
            refine gx_nil ?_
            refine gx_thenN ?_
            exact ⟨true, selfA_i (by as_aux_lemma => kernel_rfl), (Option.some.inj hE100), hS93⟩
           ·refine gx_vA (.bool false) w92 (run_boolE (decide_eq_false h104) (by as_aux_lemma => kernel_rfl)) ?_
            refine gx_kA (.bool false) w92 ?_
            refine gx_nil ?_
            refine gx_thenN ?_
            exact ⟨false, selfA_i (by as_aux_lemma => kernel_rfl), (Option.some.inj hE100), hS93⟩
         ·rintro _ w95 ⟨b98, hq102, rfl, hS96⟩
          obtain ⟨u97, rfl⟩ := selfA_u hq102
          try dsimp only at hO101
          obtain ⟨c109, hE110, hO111⟩ := bind_in hO101
          refine gx_part (l1 := [_, _, _, _]) (fun a w => ∃ (b108 : Bool), selfA (fun u107 => ⟨((.slice A0 p0.length c0) :: undef :: (u52 2) :: (.slice A21 l20.length c22) :: (.int .i64 x53) :: (.int .u8 x69) :: (.bool false) :: (.int .u8 x91) :: (u28 8) :: (.int .i64 ((p0.length : Nat) : Int)) :: (.bool false) :: undef :: dd u28 12 16 ((.int .i64 x53) :: (u97 29) :: (.int .i64 ((p0.length : Nat) : Int)) :: (.bool true) :: dd u52 32 2 ((u97 34) :: (.int .i64 x53) :: (.pointer (Option.map (fun (p : Addr) => p.add (Int.toNat x53 * 1)) A0)) :: (.int .i32 x65) :: (.int .u8 x69) :: (.int .i64 x53) :: (.bool true) :: (u97 41) :: (.int .i64 x53) :: (.int .i64 (IntKind.i64.wrap (x53 - 1))) :: (.pointer (Option.map (fun (p : Addr) => p.add (Int.toNat (IntKind.i64.wrap (x53 - 1)) * 1)) A0)) :: (.int .i32 x87) :: (.int .u8 x91) :: (.int .u8 x91) :: dd u97 48 4 ((.bool b98) :: dd u107 53 3 ((.bool b108) :: dd u52 57 66 (undef :: [])))))).toArray, []⟩) a ∧ b108 = c109 ∧ St [] w0 w [rowE .u8 5 A21 c22 l20]) rfl ?_ ?_
          ·refine gx_kA (.bool b98) w95 ?_
           cases b98 with
           | true =>
            try dsimp only at hE110
            refine gx_oA (gx_oA (gx_kA (.bool true) w95 ?_))
            refine gx_nil ?_
            refine gx_thenN ?_
            exact ⟨true, selfA_i (by as_aux_lemma => kernel_rfl), (Option.some.inj hE110), hS96⟩
           | false =>
            try dsimp only at hE110
            refine gx_kA (.int .u8 x91) w95 ?_
            rcases if_in hE110 with ⟨h113, hE110⟩ | ⟨h113, hE110⟩
            ·refine gx_vA (.bool true) w95 (run_boolE (decide_eq_true h113) (by as_aux_lemma => kernel_rfl)) ?_
             refine gx_kA (.bool true) w95 ?_
             refine gx_nil ?_
             refine gx_thenN ?_
             exact ⟨true, selfA_i (by as_aux_lemma => kernel_rfl), (Option.some.inj hE110), hS96⟩
            ·refine gx_vA (.bool false) w95 (run_boolE (decide_eq_false h113) (by as_aux_lemma => kernel_rfl)) ?_
             refine gx_kA (.bool false) w95 ?_
             refine gx_nil ?_
             refine gx_thenN ?_
             exact ⟨false, selfA_i (by as_aux_lemma => kernel_rfl), (Option.some.inj hE110), hS96⟩
          ·rintro _ w105 ⟨b108, hq112, rfl, hS106⟩
           obtain ⟨u107, rfl⟩ := selfA_u hq112
           try dsimp only at hO111
           refine gx_kA (.bool b108) w105 ?_
           cases b108 with
           | true =>
            try dsimp only at hO111
            refine gx_oA (gx_oA (gx_oA (gx_oA (gx_oA (gx_oA (gx_kA (.bool true) w105 (gx_kA (.bool true) w105 ?_)))))))
            refine gx_nil ?_
            refine gx_thenN ?_
            exact ⟨true, selfA_i (by as_aux_lemma => kernel_rfl), (Option.some.inj hO111), hS106⟩
           | false =>
            try dsimp only at hO111
            refine gx_kA (.int .u8 x91) w105 ?_
            rcases if_in hO111 with ⟨h114, hO111⟩ | ⟨h114, hO111⟩
            ·refine gx_vA (.bool true) w105 (run_boolE (decide_eq_true h114) (by as_aux_lemma => kernel_rfl)) ?_
             refine gx_kA (.bool true) w105 (gx_kA (.int .u8 x69) w105 ?_)
             rcases if_in hO111 with ⟨h115, hO111⟩ | ⟨h115, hO111⟩
             ·refine gx_vA (.bool true) w105 (run_boolE (ne_yes h115) (by as_aux_lemma => kernel_rfl)) ?_
              refine gx_kA (.bool true) w105 (gx_kA (.bool true) w105 (gx_kA (.bool true) w105 ?_))
              refine gx_nil ?_
              refine gx_thenN ?_
              exact ⟨true, selfA_i (by as_aux_lemma => kernel_rfl), (Option.some.inj hO111), hS106⟩
             ·refine gx_vA (.bool false) w105 (run_boolE (ne_no h115) (by as_aux_lemma => kernel_rfl)) ?_
              refine gx_kA (.bool false) w105 (gx_kA (.bool false) w105 (gx_kA (.bool false) w105 ?_))
              refine gx_nil ?_
              refine gx_thenN ?_
              exact ⟨false, selfA_i (by as_aux_lemma => kernel_rfl), (Option.some.inj hO111), hS106⟩
            ·refine gx_vA (.bool false) w105 (run_boolE (decide_eq_false h114) (by as_aux_lemma => kernel_rfl)) ?_
             refine gx_kA (.bool false) w105 (gx_oA (gx_oA (gx_kA (.bool false) w105 (gx_kA (.bool false) w105 (gx_kA (.bool false) w105 ?_)))))
             refine gx_nil ?_
             refine gx_thenN ?_
             exact ⟨false, selfA_i (by as_aux_lemma => kernel_rfl), (Option.some.inj hO111), hS106⟩
        ·refine gx_vA (.bool false) w70 (run_boolE (decide_eq_false h84) (by as_aux_lemma => kernel_rfl)) ?_
         refine gx_nil ?_
         refine gx_thenN ?_
         refine hK83 _ _ ?_
         refine gx_no (by as_aux_lemma => kernel_rfl) ?_
         refine gx_pass ?_
         refine gx_thenN ?_
         exact ⟨false, selfA_i (by as_aux_lemma => kernel_rfl), (Option.some.inj hE80), hS71⟩
       ·rintro _ w75 ⟨b78, hq215, rfl, hS76⟩
        obtain ⟨u77, rfl⟩ := selfA_u hq215
        try dsimp only at hO81
        obtain ⟨c119, hE120, hO121⟩ := bind_in hO81
        refine gx_cut (fun a w => selfA (fun u118 => ⟨((.slice A0 p0.length c0) :: undef :: (u118 2) :: (.slice A21 l20.length c22) :: (.int .i64 x53) :: (.int .u8 x69) :: (.bool b78) :: (u77 7) :: (u28 8) :: (.int .i64 ((p0.length : Nat) : Int)) :: (.bool false) :: undef :: dd u28 12 16 ((.int .i64 x53) :: (u77 29) :: (.int .i64 ((p0.length : Nat) : Int)) :: (.bool true) :: dd u52 32 2 ((u77 34) :: (.int .i64 x53) :: (.pointer (Option.map (fun (p : Addr) => p.add (Int.toNat x53 * 1)) A0)) :: (.int .i32 x65) :: (.int .u8 x69) :: dd u77 39 26 (dd u118 65 25 (dd u52 90 33 (undef :: [])))))).toArray, []⟩) a ∧ Ctl.go () = c119 ∧ St [] w0 w [rowE .u8 5 A21 c22 l20]) ?_ ?_
        ·refine gx_seq (fun K122 hK123 => ?_)
         refine gx_region ?_
         refine gx_kA (.slice A21 l20.length c22) w75 (gx_kA (.int .i64 x53) w75 ?_)
         obtain ⟨x124, hx125, hE120⟩ := bind_in hE120
         refine gx_vA (.pointer (Option.map (fun (p : Addr) => p.add (Int.toNat x53 * 1)) A21)) w75 (run_ixaddr (E := 5) (s := 1) (k := .i64) (c := c22) rfl (by as_aux_lemma => kernel_rfl) (by as_aux_lemma => kernel_rfl) (by as_aux_lemma => kernel_rfl) (fun _ => by kernel_rfl) (ix_in hx125).1 (ix_in hx125).2.1 (num_nil (hS76.row 0 rfl).1)) ?_
         refine gx_vA (.int .u8 x124) w75 (run_loadix rfl (by as_aux_lemma => kernel_rfl) (fun _ => by kernel_rfl) (hS76.row 0 rfl).1 hx125) ?_
         rcases if_in hE120 with ⟨h126, hE120⟩ | ⟨h126, hE120⟩
         ·refine gx_vA (.bool true) w75 (run_boolE (decide_eq_true h126) (by as_aux_lemma => kernel_rfl)) ?_
          refine gx_kA (.bool b78) w75 ?_
          obtain ⟨c131, hE132, hO133⟩ := bind_in hE120
          refine gx_part (l1 := [_, _, _, _, _, _, _, _]) (fun a w => ∃ (b130 : Bool), selfA (fun u129 => ⟨((.slice A0 p0.length c0) :: undef :: (u52 2) :: (.slice A21 l20.length c22) :: (.int .i64 x53) :: (.int .u8 x69) :: (.bool b78) :: (u77 7) :: (u28 8) :: (.int .i64 ((p0.length : Nat) : Int)) :: (.bool false) :: undef :: dd u28 12 16 ((.int .i64 x53) :: (u77 29) :: (.int .i64 ((p0.length : Nat) : Int)) :: (.bool true) :: dd u52 32 2 ((u77 34) :: (.int .i64 x53) :: (.pointer (Option.map (fun (p : Addr) => p.add (Int.toNat x53 * 1)) A0)) :: (.int .i32 x65) :: (.int .u8 x69) :: dd u77 39 26 ((u129 65) :: (.int .i64 x53) :: (.pointer (Option.map (fun (p : Addr) => p.add (Int.toNat x53 * 1)) A21)) :: (.int .u8 x124) :: (.bool true) :: (.bool b78) :: dd u129 71 7 ((.bool b130) :: dd u52 79 44 (undef :: [])))))).toArray, []⟩) a ∧ b130 = c131 ∧ St [] w0 w [rowE .u8 5 A21 c22 l20]) rfl ?_ ?_
          ·cases b78 with
           | true =>
            try dsimp only at hE132
            refine gx_kA (.bool false) w75 (gx_kA (.bool false) w75 (gx_kA (.slice A21 l20.length c22) w75 (gx_kA (.int .i64 x53) w75 ?_)))
            obtain ⟨x135, hx136, hE132⟩ := bind_in hE132
            refine gx_vA (.pointer (Option.map (fun (p : Addr) => p.add (Int.toNat x53 * 1)) A21)) w75 (run_ixaddr (E := 5) (s := 1) (k := .i64) (c := c22) rfl (by as_aux_lemma => kernel_rfl) (by as_aux_lemma => kernel_rfl) (by as_aux_lemma => kernel_rfl) (fun _ => by kernel_rfl) (ix_in hx136).1 (ix_in hx136).2.1 (num_nil (hS76.row 0 rfl).1)) ?_
            refine gx_vA (.int .u8 x135) w75 (run_loadix rfl (by as_aux_lemma => kernel_rfl) (fun _ => by kernel_rfl) (hS76.row 0 rfl).1 hx136) ?_
            rcases if_in hE132 with ⟨h137, hE132⟩ | ⟨h137, hE132⟩
            ·refine gx_vA (.bool true) w75 (run_boolE (decide_eq_true h137) (by as_aux_lemma => kernel_rfl)) ?_
             refine gx_kA (.bool true) w75 ?_
             refine gx_nil ?_
             refine gx_thenN ?_
             exact ⟨true, selfA_i (by as_aux_lemma => kernel_rfl), (Option.some.inj hE132), hS76⟩
            ·refine gx_vA (.bool false) w75 (run_boolE (decide_eq_false h137) (by as_aux_lemma => kernel_rfl)) ?_
             refine gx_kA (.bool false) w75 ?_
             refine gx_nil ?_
             refine gx_thenN ?_
             exact ⟨false, selfA_i (by as_aux_lemma => kernel_rfl), (Option.some.inj hE132), hS76⟩
           | false =>
            try dsimp only at hE132
            refine gx_kA (.bool true) w75 (gx_kA (.bool true) w75 (gx_oA (gx_oA (gx_oA (gx_oA (gx_oA (gx_kA (.bool true) w75 ?_)))))))
            refine gx_nil ?_
            refine gx_thenN ?_
            exact ⟨true, selfA_i (by as_aux_lemma => kernel_rfl), (Option.some.inj hE132), hS76⟩
          ·rintro _ w127 ⟨b130, hq134, rfl, hS128⟩
           obtain ⟨u129, rfl⟩ := selfA_u hq134
           try dsimp only at hO133
           refine gx_kA (.bool b130) w127 ?_
           cases b130 with
           | true =>
            try dsimp only at hO133
            refine gx_oA (gx_oA (gx_oA (gx_oA (gx_oA (gx_oA (gx_oA (gx_oA ?_)))))))
            refine gx_oA (gx_kA (.bool true) w127 ?_)
            refine gx_nil ?_
            refine gx_thenN ?_
            refine hK123 _ _ ?_
            refine gx_yes (by as_aux_lemma => kernel_rfl) ?_
            refine gx_seq (fun K138 hK139 => ?_)
            refine gx_region ?_
            refine gx_kA (.bool false) w127 ?_
            refine gx_nil ?_
            refine gx_thenN ?_
            refine hK139 _ _ ?_
            refine gx_ret ?_
            refine gx_thenR ?_
            obtain rfl := Option.some.inj hO133
            try dsimp only at hO121
            refine gx_blkR ?_
            refine gx_thenR ?_
            refine gx_thenR ?_
            refine gx_blkR ?_
            refine gx_thenR ?_
            obtain rfl := Option.some.inj hO121
            try dsimp only at hO47
            obtain rfl := Option.some.inj hO47
            exact gx_fin (.bool false) (by as_aux_lemma => kernel_rfl) (by as_aux_lemma => kernel_rfl) ⟨_, rfl, rfl, (hS128.pick [] rfl rfl)⟩
           | false =>
            try dsimp only at hO133
            refine gx_kA (.int .i64 x53) w127 ?_
            rcases if_in hO133 with ⟨h140, hO133⟩ | ⟨h140, hO133⟩
            ·refine gx_vA (.bool true) w127 (run_boolE (decide_eq_true h140) (by as_aux_lemma => kernel_rfl)) ?_
             refine gx_kA (.bool true) w127 (gx_kA (.slice A21 l20.length c22) w127 (gx_kA (.int .i64 x53) w127 ?_))
             obtain ⟨x141, hx142, hO133⟩ := bind_in hO133
             refine gx_vA (.pointer (Option.map (fun (p : Addr) => p.add (Int.toNat x53 * 1)) A21)) w127 (run_ixaddr (E := 5) (s := 1) (k := .i64) (c := c22) rfl (by as_aux_lemma => kernel_rfl) (by as_aux_lemma => kernel_rfl) (by as_aux_lemma => kernel_rfl) (fun _ => by kernel_rfl) (ix_in hx142).1 (ix_in hx142).2.1 (num_nil (hS128.row 0 rfl).1)) ?_
             refine gx_vA (.int .u8 x141) w127 (run_loadix rfl (by as_aux_lemma => kernel_rfl) (fun _ => by kernel_rfl) (hS128.row 0 rfl).1 hx142) ?_
             rcases if_in hO133 with ⟨h143, hO133⟩ | ⟨h143, hO133⟩
             ·refine gx_vA (.bool true) w127 (run_boolE (ne_yes h143) (by as_aux_lemma => kernel_rfl)) ?_
              refine gx_kA (.bool true) w127 (gx_kA (.bool true) w127 ?_)
              refine gx_nil ?_
              refine gx_thenN ?_
              refine hK123 _ _ ?_
              refine gx_yes (by as_aux_lemma => kernel_rfl) ?_
              refine gx_seq (fun K144 hK145 => ?_)
              refine gx_region ?_
              refine gx_kA (.bool false) w127 ?_
              refine gx_nil ?_
              refine gx_thenN ?_
              refine hK145 _ _ ?_
              refine gx_ret ?_
              refine gx_thenR ?_
              obtain rfl := Option.some.inj hO133
              try dsimp only at hO121
              refine gx_blkR ?_
              refine gx_thenR ?_
              refine gx_thenR ?_
              refine gx_blkR ?_
              refine gx_thenR ?_
              obtain rfl := Option.some.inj hO121
              try dsimp only at hO47
              obtain rfl := Option.some.inj hO47
              exact gx_fin (.bool false) (by as_aux_lemma => kernel_rfl) (by as_aux_lemma => kernel_rfl) ⟨_, rfl, rfl, (hS128.pick [] rfl rfl)⟩
             ·refine gx_vA (.bool false) w127 (run_boolE (ne_no h143) (by as_aux_lemma => kernel_rfl)) ?_
              refine gx_kA (.bool false) w127 (gx_kA (.bool false) w127 ?_)
              refine gx_nil ?_
              refine gx_thenN ?_
              refine hK123 _ _ ?_
              refine gx_no (by as_aux_lemma => kernel_rfl) ?_
              refine gx_pass ?_
              refine gx_thenN ?_
              exact ⟨selfA_i (by as_aux_lemma => kernel_rfl), (Option.some.inj hO133), hS128⟩
            ·refine gx_vA (.bool false) w127 (run_boolE (decide_eq_false h140) (by as_aux_lemma => kernel_rfl)) ?_
             refine gx_kA (.bool false) w127 (gx_oA (gx_oA (gx_oA (gx_oA (gx_oA (gx_kA (.bool false) w127 (gx_kA (.bool false) w127 ?_)))))))
             refine gx_nil ?_
             refine gx_thenN ?_
             refine hK123 _ _ ?_
             refine gx_no (by as_aux_lemma => kernel_rfl) ?_
             refine gx_pass ?_
             refine gx_thenN ?_
             exact ⟨selfA_i (by as_aux_lemma => kernel_rfl), (Option.some.inj hO133), hS128⟩
         ·refine gx_vA (.bool false) w75 (run_boolE (decide_eq_false h126) (by as_aux_lemma => kernel_rfl)) ?_
          refine gx_kA (.bool b78) w75 ?_
          obtain ⟨c150, hE151, hO152⟩ := bind_in hE120
          refine gx_part (l1 := [_, _, _, _, _, _, _, _]) (fun a w => ∃ (b149 : Bool), selfA (fun u148 => ⟨((.slice A0 p0.length c0) :: undef :: (u52 2) :: (.slice A21 l20.length c22) :: (.int .i64 x53) :: (.int .u8 x69) :: (.bool b78) :: (u77 7) :: (u28 8) :: (.int .i64 ((p0.length : Nat) : Int)) :: (.bool false) :: undef :: dd u28 12 16 ((.int .i64 x53) :: (u77 29) :: (.int .i64 ((p0.length : Nat) : Int)) :: (.bool true) :: dd u52 32 2 ((u77 34) :: (.int .i64 x53) :: (.pointer (Option.map (fun (p : Addr) => p.add (Int.toNat x53 * 1)) A0)) :: (.int .i32 x65) :: (.int .u8 x69) :: dd u77 39 26 ((u148 65) :: (.int .i64 x53) :: (.pointer (Option.map (fun (p : Addr) => p.add (Int.toNat x53 * 1)) A21)) :: (.int .u8 x124) :: (.bool false) :: (.bool b78) :: dd u148 71 7 ((.bool b149) :: dd u52 79 44 (undef :: [])))))).toArray, []⟩) a ∧ b149 = c150 ∧ St [] w0 w [rowE .u8 5 A21 c22 l20]) rfl ?_ ?_
          ·cases b78 with
           | true =>
            try dsimp only at hE151
            refine gx_kA (.bool true) w75 (gx_kA (.bool true) w75 (gx_oA (gx_oA (gx_oA (gx_oA (gx_oA (gx_kA (.bool true) w75 ?_)))))))
            refine gx_nil ?_
            refine gx_thenN ?_
            exact ⟨true, selfA_i (by as_aux_lemma => kernel_rfl), (Option.some.inj hE151), hS76⟩
           | false =>
            try dsimp only at hE151
            refine gx_kA (.bool false) w75 (gx_kA (.bool false) w75 (gx_kA (.slice A21 l20.length c22) w75 (gx_kA (.int .i64 x53) w75 ?_)))
            obtain ⟨x154, hx155, hE151⟩ := bind_in hE151
            refine gx_vA (.pointer (Option.map (fun (p : Addr) => p.add (Int.toNat x53 * 1)) A21)) w75 (run_ixaddr (E := 5) (s := 1) (k := .i64) (c := c22) rfl (by as_aux_lemma => kernel_rfl) (by as_aux_lemma => kernel_rfl) (by as_aux_lemma => kernel_rfl) (fun _ => by kernel_rfl) (ix_in hx155).1 (ix_in hx155).2.1 (num_nil (hS76.row 0 rfl).1)) ?_
            refine gx_vA (.int .u8 x154) w75 (run_loadix rfl (by as_aux_lemma => kernel_rfl) (fun _ => by kernel_rfl) (hS76.row 0 rfl).1 hx155) ?_
            rcases if_in hE151 with ⟨h156, hE151⟩ | ⟨h156, hE151⟩
            ·refine gx_vA (.bool true) w75 (run_boolE (decide_eq_true h156) (by as_aux_lemma => kernel_rfl)) ?_
             refine gx_kA (.bool true) w75 ?_
             refine gx_nil ?_
             refine gx_thenN ?_
             exact ⟨true, selfA_i (by as_aux_lemma => kernel_rfl), (Option.some.inj hE151), hS76⟩
            ·refine gx_vA (.bool false) w75 (run_boolE (decide_eq_false h156) (by as_aux_lemma => kernel_rfl)) ?_
             refine gx_kA (.bool false) w75 ?_
             refine gx_nil ?_
             refine gx_thenN ?_
             exact ⟨false, selfA_i (by as_aux_lemma => kernel_rfl), (Option.some.inj hE151), hS76⟩
          ·rintro _ w146 ⟨b149, hq153, rfl, hS147⟩
           obtain ⟨u148, rfl⟩ := selfA_u hq153
           try dsimp only at hO152
           refine gx_kA (.bool b149) w146 ?_
           cases b149 with
           | true =>
            try dsimp only at hO152
            refine gx_oA (gx_oA (gx_oA (gx_oA (gx_oA (gx_oA (gx_oA (gx_oA ?_)))))))
            refine gx_oA (gx_kA (.bool true) w146 ?_)
            refine gx_nil ?_
            refine gx_thenN ?_
            refine hK123 _ _ ?_
            refine gx_yes (by as_aux_lemma => kernel_rfl) ?_
            refine gx_seq (fun K157 hK158 => ?_)
            refine gx_region ?_
            refine gx_kA (.bool false) w146 ?_
            refine gx_nil ?_
            refine gx_thenN ?_
            refine hK158 _ _ ?_
            refine gx_ret ?_
            refine gx_thenR ?_
            obtain rfl := Option.some.inj hO152
            try dsimp only at hO121
            refine gx_blkR ?_
            refine gx_thenR ?_
            refine gx_thenR ?_
            refine gx_blkR ?_
            refine gx_thenR ?_
            obtain rfl := Option.some.inj hO121
            try dsimp only at hO47
            obtain rfl := Option.some.inj hO47
            exact gx_fin (.bool false) (by as_aux_lemma => kernel_rfl) (by as_aux_lemma => kernel_rfl) ⟨_, rfl, rfl, (hS147.pick [] rfl rfl)⟩
           | false =>
            try dsimp only at hO152
            refine gx_kA (.int .i64 x53) w146 ?_
            rcases if_in hO152 with ⟨h159, hO152⟩ | ⟨h159, hO152⟩
            ·refine gx_vA (.bool true) w146 (run_boolE (decide_eq_true h159) (by as_aux_lemma => kernel_rfl)) ?_
             refine gx_kA (.bool true) w146 (gx_kA (.slice A21 l20.length c22) w146 (gx_kA (.int .i64 x53) w146 ?_))
             obtain ⟨x160, hx161, hO152⟩ := bind_in hO152
             refine gx_vA (.pointer (Option.map (fun (p : Addr) => p.add (Int.toNat x53 * 1)) A21)) w146 (run_ixaddr (E := 5) (s := 1) (k := .i64) (c := c22) rfl (by as_aux_lemma => kernel_rfl) (by as_aux_lemma => kernel_rfl) (by as_aux_lemma => kernel_rfl) (fun _ => by kernel_rfl) (ix_in hx161).1 (ix_in hx161).2.1 (num_nil (hS147.row 0 rfl).1)) ?_
             refine gx_vA (.int .u8 x160) w146 (run_loadix rfl (by as_aux_lemma => kernel_rfl) (fun _ => by kernel_rfl) (hS147.row 0 rfl).1 hx161) ?_
             rcases if_in hO152 with ⟨h162, hO152⟩ | ⟨h162, hO152⟩
             ·refine gx_vA (.bool true) w146 (run_boolE (ne_yes h162) (by as_aux_lemma => kernel_rfl)) ?_
              refine gx_kA (.bool true) w146 (gx_kA (.bool true) w146 ?_)
              refine gx_nil ?_
              refine gx_thenN ?_
              refine hK123 _ _ ?_
              refine gx_yes (by as_aux_lemma => kernel_rfl) ?_
              refine gx_seq (fun K163 hK164 => ?_)
              refine gx_region ?_
              refine gx_kA (.bool false) w146 ?_
              refine gx_nil ?_
              refine gx_thenN ?_
              refine hK164 _ _ ?_
              refine gx_ret ?_
              refine gx_thenR ?_
              obtain rfl := Option.some.inj hO152
              try dsimp only at hO121
              refine gx_blkR ?_
              refine gx_thenR ?_
              refine gx_thenR ?_
              refine gx_blkR ?_
              refine gx_thenR ?_
              obtain rfl := Option.some.inj hO121
              try dsimp only at hO47
              obtain rfl := Option.some.inj hO47
              exact gx_fin (.bool false) (by as_aux_lemma => kernel_rfl) (by as_aux_lemma => kernel_rfl) ⟨_, rfl, rfl, (hS147.pick [] rfl rfl)⟩
             ·refine gx_vA (.bool false) w146 (run_boolE (ne_no h162) (by as_aux_lemma => kernel_rfl)) ?_
              refine gx_kA (.bool false) w146 (gx_kA (.bool false) w146 ?_)
              refine gx_nil ?_
              refine gx_thenN ?_
              refine hK123 _ _ ?_
              refine gx_no (by as_aux_lemma => kernel_rfl) ?_
              refine gx_pass ?_
              refine gx_thenN ?_
              exact ⟨selfA_i (by as_aux_lemma => kernel_rfl), (Option.some.inj hO152), hS147⟩
            ·refine gx_vA (.bool false) w146 (run_boolE (decide_eq_false h159) (by as_aux_lemma => kernel_rfl)) ?_
             refine gx_kA (.bool false) w146 (gx_oA (gx_oA (gx_oA (gx_oA (gx_oA (gx_kA (.bool false) w146 (gx_kA (.bool false) w146 ?_)))))))
             refine gx_nil ?_
             refine gx_thenN ?_
             refine hK123 _ _ ?_
             refine gx_no (by as_aux_lemma => kernel_rfl) ?_
             refine gx_pass ?_
             refine gx_thenN ?_
             exact ⟨selfA_i (by as_aux_lemma => kernel_rfl), (Option.some.inj hO152), hS147⟩
        ·rintro _ w116 ⟨hq214, rfl, hS117⟩
         obtain ⟨u118, rfl⟩ := selfA_u hq214
         try dsimp only at hO121
         refine gx_seq (fun K165 hK166 => ?_)
         refine gx_region ?_
         refine gx_kA (.bool b78) w116 ?_
         obtain ⟨c171, hE172, hO173⟩ := bind_in hO121
         refine gx_part (l1 := [_, _, _, _, _, _, _, _]) (fun a w => ∃ (b170 : Bool), selfA (fun u169 => ⟨((.slice A0 p0.length c0) :: undef :: (u118 2) :: (.slice A21 l20.length c22) :: (.int .i64 x53) :: (.int .u8 x69) :: (.bool b78) :: (u77 7) :: (u28 8) :: (.int .i64 ((p0.length : Nat) : Int)) :: (.bool false) :: undef :: dd u28 12 16 ((.int .i64 x53) :: (u77 29) :: (.int .i64 ((p0.length : Nat) : Int)) :: (.bool true) :: dd u52 32 2 ((u77 34) :: (.int .i64 x53) :: (.pointer (Option.map (fun (p : Addr) => p.add (Int.toNat x53 * 1)) A0)) :: (.int .i32 x65) :: (.int .u8 x69) :: dd u77 39 26 (dd u118 65 25 ((.bool b78) :: dd u169 91 7 ((.bool b170) :: dd u52 99 24 (undef :: []))))))).toArray, []⟩) a ∧ b170 = c171 ∧ St [] w0 w [rowE .u8 5 A21 c22 l20]) rfl ?_ ?_
         ·cases b78 with
          | true =>
           try dsimp only at hE172
           refine gx_kA (.bool false) w116 (gx_kA (.bool false) w116 (gx_oA (gx_oA (gx_oA (gx_oA (gx_oA (gx_kA (.bool false) w116 ?_)))))))
           refine gx_nil ?_
           refine gx_thenN ?_
           exact ⟨false, selfA_i (by as_aux_lemma => kernel_rfl), (Option.some.inj hE172), hS117⟩
          | false =>
           try dsimp only at hE172
           refine gx_kA (.bool true) w116 (gx_kA (.bool true) w116 (gx_kA (.slice A21 l20.length c22) w116 (gx_kA (.int .i64 x53) w116 ?_)))
           obtain ⟨x175, hx176, hE172⟩ := bind_in hE172
           refine gx_vA (.pointer (Option.map (fun (p : Addr) => p.add (Int.toNat x53 * 1)) A21)) w116 (run_ixaddr (E := 5) (s := 1) (k := .i64) (c := c22) rfl (by as_aux_lemma => kernel_rfl) (by as_aux_lemma => kernel_rfl) (by as_aux_lemma => kernel_rfl) (fun _ => by kernel_rfl) (ix_in hx176).1 (ix_in hx176).2.1 (num_nil (hS117.row 0 rfl).1)) ?_
           refine gx_vA (.int .u8 x175) w116 (run_loadix rfl (by as_aux_lemma => kernel_rfl) (fun _ => by kernel_rfl) (hS117.row 0 rfl).1 hx176) ?_
           rcases if_in hE172 with ⟨h177, hE172⟩ | ⟨h177, hE172⟩
           ·refine gx_vA (.bool true) w116 (run_boolE (ne_yes h177) (by as_aux_lemma => kernel_rfl)) ?_
            refine gx_kA (.bool true) w116 ?_
            refine gx_nil ?_
            refine gx_thenN ?_
            exact ⟨true, selfA_i (by as_aux_lemma => kernel_rfl), (Option.some.inj hE172), hS117⟩
           ·refine gx_vA (.bool false) w116 (run_boolE (ne_no h177) (by as_aux_lemma => kernel_rfl)) ?_
            refine gx_kA (.bool false) w116 ?_
            refine gx_nil ?_
            refine gx_thenN ?_
            exact ⟨false, selfA_i (by as_aux_lemma => kernel_rfl), (Option.some.inj hE172), hS117⟩
         ·rintro _ w167 ⟨b170, hq174, rfl, hS168⟩
          obtain ⟨u169, rfl⟩ := selfA_u hq174
          try dsimp only at hO173
          refine gx_kA (.bool b170) w167 ?_
          cases b170 with
          | true =>
           try dsimp only at hO173
           refine gx_kA (.int .u8 x69) w167 ?_
           obtain ⟨c182, hE183, hO184⟩ := bind_in hO173
           refine gx_part (l1 := [_, _, _, _, _]) (fun a w => ∃ (b181 : Bool), selfA (fun u180 => ⟨((.slice A0 p0.length c0) :: undef :: (u118 2) :: (.slice A21 l20.length c22) :: (.int .i64 x53) :: (.int .u8 x69) :: (.bool b78) :: (u77 7) :: (u28 8) :: (.int .i64 ((p0.length : Nat) : Int)) :: (.bool false) :: undef :: dd u28 12 16 ((.int .i64 x53) :: (u77 29) :: (.int .i64 ((p0.length : Nat) : Int)) :: (.bool true) :: dd u52 32 2 ((u77 34) :: (.int .i64 x53) :: (.pointer (Option.map (fun (p : Addr) => p.add (Int.toNat x53 * 1)) A0)) :: (.int .i32 x65) :: (.int .u8 x69) :: dd u77 39 26 (dd u118 65 25 ((.bool b78) :: dd u169 91 7 ((.bool true) :: (.bool true) :: (.int .u8 x69) :: dd u180 101 4 ((.bool b181) :: dd u52 106 17 (undef :: [])))))))).toArray, []⟩) a ∧ b181 = c182 ∧ St [] w0 w [rowE .u8 5 A21 c22 l20]) rfl ?_ ?_
           ·rcases if_in hE183 with ⟨h186, hE183⟩ | ⟨h186, hE183⟩
            ·refine gx_vA (.bool true) w167 (run_boolE (decide_eq_true h186) (by as_aux_lemma => kernel_rfl)) ?_
             refine gx_kA (.bool true) w167 (gx_oA (gx_oA (gx_kA (.bool true) w167 ?_)))
             refine gx_nil ?_
             refine gx_thenN ?_
             exact ⟨true, selfA_i (by as_aux_lemma => kernel_rfl), (Option.some.inj hE183), hS168⟩
            ·refine gx_vA (.bool false) w167 (run_boolE (decide_eq_false h186) (by as_aux_lemma => kernel_rfl)) ?_
             refine gx_kA (.bool false) w167 (gx_kA (.int .u8 x69) w167 ?_)
             rcases if_in hE183 with ⟨h187, hE183⟩ | ⟨h187, hE183⟩
             ·refine gx_vA (.bool true) w167 (run_boolE (decide_eq_true h187) (by as_aux_lemma => kernel_rfl)) ?_
              refine gx_kA (.bool true) w167 ?_
              refine gx_nil ?_
              refine gx_thenN ?_
              exact ⟨true, selfA_i (by as_aux_lemma => kernel_rfl), (Option.some.inj hE183), hS168⟩
             ·refine gx_vA (.bool false) w167 (run_boolE (decide_eq_false h187) (by as_aux_lemma => kernel_rfl)) ?_
              refine gx_kA (.bool false) w167 ?_
              refine gx_nil ?_
              refine gx_thenN ?_
              exact ⟨false, selfA_i (by as_aux_lemma => kernel_rfl), (Option.some.inj hE183), hS168⟩
           ·rintro _ w178 ⟨b181, hq185, rfl, hS179⟩
            obtain ⟨u180, rfl⟩ := selfA_u hq185
            try dsimp only at hO184
            obtain ⟨c192, hE193, hO194⟩ := bind_in hO184
            refine gx_part (l1 := [_, _, _, _]) (fun a w => ∃ (b191 : Bool), selfA (fun u190 => ⟨((.slice A0 p0.length c0) :: undef :: (u118 2) :: (.slice A21 l20.length c22) :: (.int .i64 x53) :: (.int .u8 x69) :: (.bool b78) :: (u77 7) :: (u28 8) :: (.int .i64 ((p0.length : Nat) : Int)) :: (.bool false) :: undef :: dd u28 12 16 ((.int .i64 x53) :: (u77 29) :: (.int .i64 ((p0.length : Nat) : Int)) :: (.bool true) :: dd u52 32 2 ((u77 34) :: (.int .i64 x53) :: (.pointer (Option.map (fun (p : Addr) => p.add (Int.toNat x53 * 1)) A0)) :: (.int .i32 x65) :: (.int .u8 x69) :: dd u77 39 26 (dd u118 65 25 ((.bool b78) :: dd u169 91 7 ((.bool true) :: (.bool true) :: (.int .u8 x69) :: dd u180 101 4 ((.bool b181) :: dd u190 106 3 ((.bool b191) :: dd u52 110 13 (undef :: []))))))))).toArray, []⟩) a ∧ b191 = c192 ∧ St [] w0 w [rowE .u8 5 A21 c22 l20]) rfl ?_ ?_
            ·refine gx_kA (.bool b181) w178 ?_
             cases b181 with
             | true =>
              try dsimp only at hE193
              refine gx_oA (gx_oA (gx_kA (.bool true) w178 ?_))
              refine gx_nil ?_
              refine gx_thenN ?_
              exact ⟨true, selfA_i (by as_aux_lemma => kernel_rfl), (Option.some.inj hE193), hS179⟩
             | false =>
              try dsimp only at hE193
              refine gx_kA (.int .u8 x69) w178 ?_
              rcases if_in hE193 with ⟨h196, hE193⟩ | ⟨h196, hE193⟩
              ·refine gx_vA (.bool true) w178 (run_boolE (decide_eq_true h196) (by as_aux_lemma => kernel_rfl)) ?_
               refine gx_kA (.bool true) w178 ?_
               refine gx_nil ?_
               refine gx_thenN ?_
               exact ⟨true, selfA_i (by as_aux_lemma => kernel_rfl), (Option.some.inj hE193), hS179⟩
              ·refine gx_vA (.bool false) w178 (run_boolE (decide_eq_false h196) (by as_aux_lemma => kernel_rfl)) ?_
               refine gx_kA (.bool false) w178 ?_
               refine gx_nil ?_
               refine gx_thenN ?_
               exact ⟨false, selfA_i (by as_aux_lemma => kernel_rfl), (Option.some.inj hE193), hS179⟩
            ·rintro _ w188 ⟨b191, hq195, rfl, hS189⟩
             obtain ⟨u190, rfl⟩ := selfA_u hq195
             try dsimp only at hO194
             obtain ⟨c201, hE202, hO203⟩ := bind_in hO194
             refine gx_part (l1 := [_, _, _, _]) (fun a w => ∃ (b200 : Bool), selfA (fun u199 => ⟨((.slice A0 p0.length c0) :: undef :: (u118 2) :: (.slice A21 l20.length c22) :: (.int .i64 x53) :: (.int .u8 x69) :: (.bool b78) :: (u77 7) :: (u28 8) :: (.int .i64 ((p0.length : Nat) : Int)) :: (.bool false) :: undef :: dd u28 12 16 ((.int .i64 x53) :: (u77 29) :: (.int .i64 ((p0.length : Nat) : Int)) :: (.bool true) :: dd u52 32 2 ((u77 34) :: (.int .i64 x53) :: (.pointer (Option.map (fun (p : Addr) => p.add (Int.toNat x53 * 1)) A0)) :: (.int .i32 x65) :: (.int .u8 x69) :: dd u77 39 26 (dd u118 65 25 ((.bool b78) :: dd u169 91 7 ((.bool true) :: (.bool true) :: (.int .u8 x69) :: dd u180 101 4 ((.bool b181) :: dd u190 106 3 ((.bool b191) :: dd u199 110 3 ((.bool b200) :: dd u52 114 9 (undef :: [])))))))))).toArray, []⟩) a ∧ b200 = c201 ∧ St [] w0 w [rowE .u8 5 A21 c22 l20]) rfl ?_ ?_
             ·refine gx_kA (.bool b191) w188 ?_
              cases b191 with
              | true =>
               try dsimp only at hE202
               refine gx_oA (gx_oA (gx_kA (.bool true) w188 ?_))
               refine gx_nil ?_
               refine gx_thenN ?_
               exact ⟨true, selfA_i (by as_aux_lemma => kernel_rfl), (Option.some.inj hE202), hS189⟩
              | false =>
               try dsimp only at hE202
               refine gx_kA (.int .u8 x69) w188 ?_
               rcases if_in hE202 with ⟨h205, hE202⟩ | ⟨h205, hE202⟩
               ·refine gx_vA (.bool true) w188 (run_boolE (decide_eq_true h205) (by as_aux_lemma => kernel_rfl)) ?_
                refine gx_kA (.bool true) w188 ?_
                refine gx_nil ?_
                refine gx_thenN ?_
                exact ⟨true, selfA_i (by as_aux_lemma => kernel_rfl), (Option.some.inj hE202), hS189⟩
               ·refine gx_vA (.bool false) w188 (run_boolE (decide_eq_false h205) (by as_aux_lemma => kernel_rfl)) ?_
                refine gx_kA (.bool false) w188 ?_
                refine gx_nil ?_
                refine gx_thenN ?_
                exact ⟨false, selfA_i (by as_aux_lemma => kernel_rfl), (Option.some.inj hE202), hS189⟩
             ·rintro _ w197 ⟨b200, hq204, rfl, hS198⟩
              obtain ⟨u199, rfl⟩ := selfA_u hq204
              try dsimp only at hO203
              refine gx_kA (.bool b200) w197 ?_
              cases b200 with
              | true =>
               try dsimp only at hO203
               refine gx_oA (gx_oA (gx_kA (.bool true) w197 (gx_kA (.bool true) w197 (gx_oA (gx_oA (gx_kA (.bool true) w197 (gx_kA (.bool true) w197 ?_)))))))
               refine gx_nil ?_
               refine gx_thenN ?_
               refine hK166 _ _ ?_
               refine gx_yes (by as_aux_lemma => kernel_rfl) ?_
               refine gx_seq (fun K206 hK207 => ?_)
               refine gx_region ?_
               refine gx_kA (.bool false) w197 ?_
               refine gx_nil ?_
               refine gx_thenN ?_
               refine hK207 _ _ ?_
               refine gx_ret ?_
               refine gx_blkR ?_
               refine gx_thenR ?_
               refine gx_thenR ?_
               refine gx_blkR ?_
               refine gx_thenR ?_
               obtain rfl := Option.some.inj hO203
               try dsimp only at hO47
               obtain rfl := Option.some.inj hO47
               exact gx_fin (.bool false) (by as_aux_lemma => kernel_rfl) (by as_aux_lemma => kernel_rfl) ⟨_, rfl, rfl, (hS198.pick [] rfl rfl)⟩
              | false =>
               try dsimp only at hO203
               refine gx_kA (.int .u8 x69) w197 ?_
               rcases if_in hO203 with ⟨h208, hO203⟩ | ⟨h208, hO203⟩
               ·refine gx_vA (.bool true) w197 (run_boolE (decide_eq_true h208) (by as_aux_lemma => kernel_rfl)) ?_
                refine gx_kA (.bool true) w197 (gx_kA (.bool true) w197 (gx_oA (gx_oA (gx_kA (.bool true) w197 (gx_kA (.bool true) w197 ?_)))))
                refine gx_nil ?_
                refine gx_thenN ?_
                refine hK166 _ _ ?_
                refine gx_yes (by as_aux_lemma => kernel_rfl) ?_
                refine gx_seq (fun K209 hK210 => ?_)
                refine gx_region ?_
                refine gx_kA (.bool false) w197 ?_
                refine gx_nil ?_
                refine gx_thenN ?_
                refine hK210 _ _ ?_
                refine gx_ret ?_
                refine gx_blkR ?_
                refine gx_thenR ?_
                refine gx_thenR ?_
                refine gx_blkR ?_
                refine gx_thenR ?_
                obtain rfl := Option.some.inj hO203
                try dsimp only at hO47
                obtain rfl := Option.some.inj hO47
                exact gx_fin (.bool false) (by as_aux_lemma => kernel_rfl) (by as_aux_lemma => kernel_rfl) ⟨_, rfl, rfl, (hS198.pick [] rfl rfl)⟩
               ·refine gx_vA (.bool false) w197 (run_boolE (decide_eq_false h208) (by as_aux_lemma => kernel_rfl)) ?_
                refine gx_kA (.bool false) w197 (gx_kA (.bool false) w197 (gx_kA (.int .u8 x69) w197 ?_))
                rcases if_in hO203 with ⟨h211, hO203⟩ | ⟨h211, hO203⟩
                ·refine gx_vA (.bool true) w197 (run_boolE (decide_eq_true h211) (by as_aux_lemma => kernel_rfl)) ?_
                 refine gx_kA (.bool true) w197 (gx_kA (.bool true) w197 ?_)
                 refine gx_nil ?_
                 refine gx_thenN ?_
                 refine hK166 _ _ ?_
                 refine gx_yes (by as_aux_lemma => kernel_rfl) ?_
                 refine gx_seq (fun K212 hK213 => ?_)
                 refine gx_region ?_
                 refine gx_kA (.bool false) w197 ?_
                 refine gx_nil ?_
                 refine gx_thenN ?_
                 refine hK213 _ _ ?_
                 refine gx_ret ?_
                 refine gx_blkR ?_
                 refine gx_thenR ?_
                 refine gx_thenR ?_
                 refine gx_blkR ?_
                 refine gx_thenR ?_
                 obtain rfl := Option.some.inj hO203
                 try dsimp only at hO47
                 obtain rfl := Option.some.inj hO47
                 exact gx_fin (.bool false) (by as_aux_lemma => kernel_rfl) (by as_aux_lemma => kernel_rfl) ⟨_, rfl, rfl, (hS198.pick [] rfl rfl)⟩
                ·refine gx_vA (.bool false) w197 (run_boolE (decide_eq_false h211) (by as_aux_lemma => kernel_rfl)) ?_
                 refine gx_kA (.bool false) w197 (gx_kA (.bool false) w197 ?_)
                 refine gx_nil ?_
                 refine gx_thenN ?_
                 refine hK166 _ _ ?_
                 refine gx_no (by as_aux_lemma => kernel_rfl) ?_
                 refine gx_pass ?_
                 refine gx_blkN ?_
                 refine gx_thenN ?_
                 refine hK62 _ _ ?_
                 refine gx_region ?_
                 refine gx_kA (.int .i64 x53) w197 (gx_kA (.int .i64 (IntKind.i64.wrap (x53 + 1))) w197 (gx_kA (.int .i64 (IntKind.i64.wrap (x53 + 1))) w197 ?_))
                 refine gx_nil ?_
                 refine gx_thenN ?_
                 exact ⟨k54, Nat.lt_succ_self k54, (IntKind.i64.wrap (x53 + 1)), selfA_i (by as_aux_lemma => kernel_rfl), hO203, hS198⟩
          | false =>
           try dsimp only at hO173
           refine gx_oA (gx_oA (gx_oA (gx_oA (gx_oA (gx_oA (gx_oA (gx_oA ?_)))))))
           refine gx_oA (gx_oA (gx_oA (gx_oA (gx_oA (gx_oA (gx_oA (gx_oA ?_)))))))
           refine gx_oA (gx_oA (gx_oA (gx_oA (gx_oA (gx_oA (gx_kA (.bool false) w167 ?_))))))
           refine gx_nil ?_
           refine gx_thenN ?_
           refine hK166 _ _ ?_
           refine gx_no (by as_aux_lemma => kernel_rfl) ?_
           refine gx_pass ?_
           refine gx_blkN ?_
           refine gx_thenN ?_
           refine hK62 _ _ ?_
           refine gx_region ?_
           refine gx_kA (.int .i64 x53) w167 (gx_kA (.int .i64 (IntKind.i64.wrap (x53 + 1))) w167 (gx_kA (.int .i64 (IntKind.i64.wrap (x53 + 1))) w167 ?_))
           refine gx_nil ?_
           refine gx_thenN ?_
           exact ⟨k54, Nat.lt_succ_self k54, (IntKind.i64.wrap (x53 + 1)), selfA_i (by as_aux_lemma => kernel_rfl), hO173, hS168⟩
      ·refine gx_vA (.bool false) w50 (run_boolE (decide_eq_false h60) (by as_aux_lemma => kernel_rfl)) ?_
       refine gx_nil ?_
       refine gx_thenN ?_
       refine hK59 _ _ ?_
       refine gx_no (by as_aux_lemma => kernel_rfl) ?_
       refine gx_exit ?_
       refine gx_thenE ?_
       refine gx_thenE ?_
       refine gx_blkE ?_
       refine gx_thenN ?_
       exact ⟨selfA_i (by as_aux_lemma => kernel_rfl), (Option.some.inj hL55), (hS51.pick [] rfl rfl)⟩
   ·rintro _ w42 ⟨hq225, rfl, hS43⟩
    obtain ⟨u44, rfl⟩ := selfA_u hq225
    try dsimp only at hO47
    refine gx_seq (fun K217 hK218 => ?_)
    refine gx_region ?_
    have hP219 : St _ _ w42 ([] ++ []) := hS43
    obtain ⟨b221, hc220, hO47⟩ := bind_in hO47
    try dsimp only at hO47
    refine gx_cA (kWorks_R b221 w42) (kWorks_ok N  _ hc220 w42 ) ?_
    rintro _ w222 ⟨rfl, hT224⟩
    have hS223 : St _ _ w222 [] := hS43.take _ hT224
    refine gx_kA (.bool b221) w222 ?_
    refine gx_nil ?_
    refine gx_thenN ?_
    refine hK218 _ _ ?_
    refine gx_ret ?_
    obtain rfl := Option.some.inj hO47
    exact gx_fin (.bool b221) (by as_aux_lemma => kernel_rfl) (by as_aux_lemma => kernel_rfl) ⟨_, rfl, rfl, hS223⟩
end Go.Proofs.Ytdbimchiecdkoaa
