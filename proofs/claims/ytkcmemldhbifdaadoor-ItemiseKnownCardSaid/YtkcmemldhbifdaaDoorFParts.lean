/-
  ItemiseParts, walked.
-/
import Derived.Test.YtkcmemldhbifdaaDoorF0
import Derived.Test.YtkcmemldhbifdaaDoorR0
namespace Go.Proofs.YtkcmemldhbifdaaDoor
open Go Go.RowKit
set_option linter.unusedVariables false
def fParts_L1 (N : Nat) (p2 : Int) (l159 : List Int) : Nat → (List Int) → Int → Option (List Int)
 | 0, _, _ => none
 | k181+1, l179, x180 => (if x180 < ((l159.length : Nat) : Int) then ((ix l179 x180).bind fun _x190 => ((setx l179 x180 p2).bind fun l194 => fParts_L1 N p2 l159 k181 l194 (IntKind.i64.wrap (x180 + 1)))) else some (l179))
def fParts_L2 (N : Nat) (l45 : List Int) (l201 : List (Int × Int × Int × Int)) (l237 : List (Int × Int × Int × Int)) (l265 : List (Int × Int × Int × Int)) : Nat → Int → Option (Ctl (Unit) (Bool))
 | 0, _ => none
 | k327+1, x326 => (if x326 < ((l201.length : Nat) : Int) then (((if x326 < ((l237.length : Nat) : Int) then ((ixg l201 x326).bind fun x347 => ((ixg l237 x326).bind fun x368 => ((some (decide (([x347.1, x347.2.1, x347.2.2.1, x347.2.2.2] : List Int) = [x368.1, x368.2.1, x368.2.2.1, x368.2.2.2]) ^^ true)).bind fun b389 => (match b389 with | true => some (Ctl.ret false) | false => some (Ctl.go ()))))) else some (Ctl.go ())) : Option (Ctl (Unit) (Bool))).bind fun | Ctl.go () => (if x326 ≥ ((l237.length : Nat) : Int) then ((ixg l265 (IntKind.i64.wrap (x326 - ((l237.length : Nat) : Int)))).bind fun x398 => ((ixg l201 x326).bind fun x435 => ((some (decide (([x435.1, x435.2.1, x435.2.2.1, x435.2.2.2] : List Int) = [(IntKind.i64.wrap (x398.1 + ((l45.length : Nat) : Int))), (IntKind.i64.wrap (x398.2.1 + ((l45.length : Nat) : Int))), x398.2.2.1, x398.2.2.2]) ^^ true)).bind fun b456 => (match b456 with | true => some (Ctl.ret false) | false => fParts_L2 N l45 l201 l237 l265 k327 (IntKind.i64.wrap (x326 + 1)))))) else fParts_L2 N l45 l201 l237 l265 k327 (IntKind.i64.wrap (x326 + 1))) | Ctl.ret r => some (Ctl.ret r)) else some (Ctl.go ()))
def fParts (N : Nat) (p0 : List Int) (p1 : List Int) (p2 : Int) : Option (Bool) :=
 (((if ((p0.length : Nat) : Int) > 150 then ((kWorks N ).bind fun b16 => some (Ctl.ret b16)) else (if ((p1.length : Nat) : Int) > 150 then ((kWorks N ).bind fun b25 => some (Ctl.ret b25)) else some (Ctl.go ()))) : Option (Ctl (Unit) (Bool))).bind fun | Ctl.go () => ((apx ([]) p0).bind fun l34 => ((apx l34 ([8233])).bind fun l45 => ((apx l45 p1).bind fun l56 => ((cutx l56 (0 : Int) ((l45.length : Nat) : Int)).bind fun l67 => ((pScripts N l56).bind fun l75 => ((pScripts N l67).bind fun l83 => ((pScripts N p1).bind fun l91 => (((((if ((l75.length : Nat) : Int) ≠ ((l56.length : Nat) : Int) then some (true) else (if ((l83.length : Nat) : Int) ≠ ((l45.length : Nat) : Int) then some (true) else some (false))) : Option (Bool)).bind fun b110 => (((match b110 with | true => some (true) | false => (if ((l91.length : Nat) : Int) ≠ ((p1.length : Nat) : Int) then some (true) else some (false))) : Option (Bool)).bind fun b121 => (((match b121 with | true => some (true) | false => ((cutx l75 (0 : Int) ((l45.length : Nat) : Int)).bind fun l137 => ((some (!((strOfNums l137).toList == (strOfNums l83).toList))).bind fun b143 => some (b143)))) : Option (Bool)).bind fun b131 => (match b131 with | true => some (Ctl.ret false) | false => ((cutx l75 ((l45.length : Nat) : Int) ((l75.length : Nat) : Int)).bind fun l147 => ((some (!((strOfNums l147).toList == (strOfNums l91).toList))).bind fun b153 => (match b153 with | true => some (Ctl.ret false) | false => some (Ctl.go ())))))))) : Option (Ctl (Unit) (Bool))).bind fun | Ctl.go () => ((mkx ((l56.length : Nat) : Int)).bind fun l159 => ((fParts_L1 N p2 l159 N l159 0 : Option (List Int)).bind fun l169 => ((pRuns N l56 l169).bind fun (l201, x206) => ((cutx l56 (0 : Int) ((l45.length : Nat) : Int)).bind fun l223 => ((cutx l169 (0 : Int) ((l45.length : Nat) : Int)).bind fun l229 => ((pRuns N l223 l229).bind fun (l237, x242) => ((cutx l169 ((l45.length : Nat) : Int) ((l159.length : Nat) : Int)).bind fun l257 => ((pRuns N p1 l257).bind fun (l265, x270) => (((((if x206 ≠ 0 then some (true) else (if x242 ≠ 0 then some (true) else some (false))) : Option (Bool)).bind fun b294 => (((match b294 with | true => some (true) | false => (if x270 ≠ 0 then some (true) else some (false))) : Option (Bool)).bind fun b304 => (match b304 with | true => some (Ctl.ret false) | false => (if ((l201.length : Nat) : Int) ≠ (IntKind.i64.wrap (((l237.length : Nat) : Int) + ((l265.length : Nat) : Int))) then some (Ctl.ret false) else some (Ctl.go ()))))) : Option (Ctl (Unit) (Bool))).bind fun | Ctl.go () => ((fParts_L2 N l45 l201 l237 l265 N 0 : Option (Ctl (Unit) (Bool))).bind fun | Ctl.go () => ((kWorks N ).bind fun b466 => some b466) | Ctl.ret r => some r) | Ctl.ret r => some r))))))))) | Ctl.ret r => some r)))))))) | Ctl.ret r => some r)
set_option linter.unusedVariables false in
def fParts_R (r : Bool) (w0 : World) (v : Value) (w : World) : Prop := v = .bool r ∧ St [] w0 w []
set_option maxRecDepth 100000 in
set_option maxHeartbeats 4000000 in
theorem fParts_ok (N : Nat) (p0 : List Int) (p1 : List Int) (p2 : Int) (A0 : Option Addr) (c0 : Nat) (A1 : Option Addr) (c1 : Nat) (r : Bool) (hF : fParts N p0 p1 p2 = some r) (w0 : World) (hv0 : Vw [] .i32 w0 A0 c0 p0) (hv1 : Vw [] .i32 w0 A1 c1 p1) (hcd : MirB [] w0) :
  Calls Tryd.prog 6 #[.slice A0 p0.length c0, .slice A1 p1.length c1, .int .u8 p2] w0 fun e w => ∃ v, e = .returned v ∧ fParts_R r w0 v w := by
 have hS0 := (St.start w0).pool0
 unfold fParts at hF
 refine calls_of Tryd.func6 rfl ⟨((.slice A0 p0.length c0) :: (.slice A1 p1.length c1) :: (.int .u8 p2) :: un 189 ([])).toArray, []⟩ (by as_aux_lemma => kernel_rfl) ?_
 refine gx_seq (fun K1 hK2 => ?_)
 refine gx_region ?_
 refine gx_kA (.bool false) w0 ?_
 refine gx_nil ?_
 refine gx_thenN ?_
 refine hK2 _ _ ?_
 obtain ⟨c6, hE7, hO8⟩ := bind_in hF
 refine gx_cut (fun a w => selfA (fun u5 => ⟨((.slice A0 p0.length c0) :: (.slice A1 p1.length c1) :: (.int .u8 p2) :: un 3 ((u5 6) :: un 15 (dd u5 22 9 (un 161 ([]))))).toArray, []⟩) a ∧ Ctl.go () = c6 ∧ St [] w0 w [poolE ([]) w0]) ?_ ?_
 ·refine gx_seq (fun K9 hK10 => ?_)
  refine gx_region ?_
  refine gx_kA (.slice A0 p0.length c0) w0 (gx_kA (.int .i64 ((p0.length : Nat) : Int)) w0 ?_)
  rcases if_in hE7 with ⟨h11, hE7⟩ | ⟨h11, hE7⟩
  ·refine gx_vA (.bool true) w0 (run_boolE (decide_eq_true h11) (by as_aux_lemma => kernel_rfl)) ?_
   refine gx_kA (.bool true) w0 (gx_oA (gx_oA (gx_oA (gx_kA (.bool true) w0 ?_))))
   refine gx_nil ?_
   refine gx_thenN ?_
   refine hK10 _ _ ?_
   refine gx_yes (by as_aux_lemma => kernel_rfl) ?_
   refine gx_seq (fun K12 hK13 => ?_)
   refine gx_region ?_
   have hP14 : St _ _ w0 ([] ++ [poolE ([]) w0]) := hS0
   obtain ⟨b16, hc15, hE7⟩ := bind_in hE7
   try dsimp only at hE7
   refine gx_cA (kWorks_R b16 w0) (kWorks_ok N  _ hc15 w0 (MirB.atL hcd hP14)) ?_
   rintro _ w17 ⟨rfl, hT19⟩
   have hS18 : St _ _ w17 [poolE ([]) w0] := hS0.take _ hT19
   refine gx_kA (.bool b16) w17 ?_
   refine gx_nil ?_
   refine gx_thenN ?_
   refine hK13 _ _ ?_
   refine gx_ret ?_
   refine gx_thenR ?_
   obtain rfl := Option.some.inj hE7
   try dsimp only at hO8
   obtain rfl := Option.some.inj hO8
   exact gx_fin (.bool b16) (by as_aux_lemma => kernel_rfl) (by as_aux_lemma => kernel_rfl) ⟨_, rfl, rfl, (hS18.pick [] rfl rfl)⟩
  ·refine gx_vA (.bool false) w0 (run_boolE (decide_eq_false h11) (by as_aux_lemma => kernel_rfl)) ?_
   refine gx_kA (.bool false) w0 (gx_kA (.slice A1 p1.length c1) w0 (gx_kA (.int .i64 ((p1.length : Nat) : Int)) w0 ?_))
   rcases if_in hE7 with ⟨h20, hE7⟩ | ⟨h20, hE7⟩
   ·refine gx_vA (.bool true) w0 (run_boolE (decide_eq_true h20) (by as_aux_lemma => kernel_rfl)) ?_
    refine gx_kA (.bool true) w0 ?_
    refine gx_nil ?_
    refine gx_thenN ?_
    refine hK10 _ _ ?_
    refine gx_yes (by as_aux_lemma => kernel_rfl) ?_
    refine gx_seq (fun K21 hK22 => ?_)
    refine gx_region ?_
    have hP23 : St _ _ w0 ([] ++ [poolE ([]) w0]) := hS0
    obtain ⟨b25, hc24, hE7⟩ := bind_in hE7
    try dsimp only at hE7
    refine gx_cA (kWorks_R b25 w0) (kWorks_ok N  _ hc24 w0 (MirB.atL hcd hP23)) ?_
    rintro _ w26 ⟨rfl, hT28⟩
    have hS27 : St _ _ w26 [poolE ([]) w0] := hS0.take _ hT28
    refine gx_kA (.bool b25) w26 ?_
    refine gx_nil ?_
    refine gx_thenN ?_
    refine hK22 _ _ ?_
    refine gx_ret ?_
    refine gx_thenR ?_
    obtain rfl := Option.some.inj hE7
    try dsimp only at hO8
    obtain rfl := Option.some.inj hO8
    exact gx_fin (.bool b25) (by as_aux_lemma => kernel_rfl) (by as_aux_lemma => kernel_rfl) ⟨_, rfl, rfl, (hS27.pick [] rfl rfl)⟩
   ·refine gx_vA (.bool false) w0 (run_boolE (decide_eq_false h20) (by as_aux_lemma => kernel_rfl)) ?_
    refine gx_kA (.bool false) w0 ?_
    refine gx_nil ?_
    refine gx_thenN ?_
    refine hK10 _ _ ?_
    refine gx_no (by as_aux_lemma => kernel_rfl) ?_
    refine gx_pass ?_
    refine gx_thenN ?_
    exact ⟨selfA_i (by as_aux_lemma => kernel_rfl), (Option.some.inj hE7), hS0⟩
 ·rintro _ w3 ⟨hq474, rfl, hS4⟩
  obtain ⟨u5, rfl⟩ := selfA_u hq474
  try dsimp only at hO8
  refine gx_seq (fun K29 hK30 => ?_)
  refine gx_region ?_
  refine gx_kA (.slice none 0 0) w3 ?_
  refine gx_nil ?_
  refine gx_thenN ?_
  refine hK30 _ _ ?_
  refine gx_seq (fun K31 hK32 => ?_)
  refine gx_region ?_
  refine gx_kA (.slice none 0 0) w3 (gx_kA (.slice A0 p0.length c0) w3 ?_)
  have hS33 : St _ _ w3 [poolE ([]) w0, rowE .i32 21 none 0 ([])] := hS4.nilrow .i32 21
  obtain ⟨l34, ha35, hO8⟩ := bind_in hO8
  obtain ⟨ha35, hq36⟩ := apx_in ha35
  refine gx_rA (st_append rfl (by as_aux_lemma => kernel_rfl) (by as_aux_lemma => kernel_rfl) hS33 1 rfl (hS33.view hv0) hv0.nn ha35 (by as_aux_lemma => kernel_rfl) (by as_aux_lemma => kernel_rfl)) ?_
  rintro _ w39 ⟨A37, c38, rfl, hS40⟩
  rw [← hq36] at hS40 ⊢
  have hS40 : St _ _ w39 [poolE ([]) w0, rowE .i32 21 A37 c38 l34] := hS40
  refine gx_kA (.slice A37 l34.length c38) w39 ?_
  refine gx_nil ?_
  refine gx_thenN ?_
  refine hK32 _ _ ?_
  refine gx_seq (fun K41 hK42 => ?_)
  refine gx_region ?_
  refine gx_kA (.slice A37 l34.length c38) w39 ?_
  refine gx_rA (st_made .i32 21 [8233] hS40 (by show 1 ≤ 1000000000; decide) (by as_aux_lemma => kernel_rfl)) ?_
  rintro _ w43 ⟨rfl, hS44⟩
  have hS44 : St _ _ w43 [poolE ([]) w0, rowE .i32 21 A37 c38 l34, rowE .i32 21 (some ⟨w39.heap.size, 0, none⟩) 1 ([8233])] := hS44
  obtain ⟨l45, ha46, hO8⟩ := bind_in hO8
  obtain ⟨ha46, hq47⟩ := apx_in ha46
  refine gx_rA (st_append rfl (by as_aux_lemma => kernel_rfl) (by as_aux_lemma => kernel_rfl) hS44 1 rfl (hS44.row 2 rfl).1 (hS44.row 2 rfl).2 ha46 (by as_aux_lemma => kernel_rfl) (by as_aux_lemma => kernel_rfl)) ?_
  rintro _ w50 ⟨A48, c49, rfl, hS51⟩
  rw [← hq47] at hS51 ⊢
  have hS51 : St _ _ w50 [poolE ([]) w0, rowE .i32 21 A48 c49 l45, rowE .i32 21 (some ⟨w39.heap.size, 0, none⟩) 1 ([8233])] := hS51
  refine gx_kA (.slice A48 l45.length c49) w50 ?_
  refine gx_nil ?_
  refine gx_thenN ?_
  refine hK42 _ _ ?_
  refine gx_seq (fun K52 hK53 => ?_)
  refine gx_region ?_
  refine gx_kA (.slice A48 l45.length c49) w50 (gx_kA (.int .i64 ((l45.length : Nat) : Int)) w50 (gx_kA (.int .i64 ((l45.length : Nat) : Int)) w50 ?_))
  refine gx_nil ?_
  refine gx_thenN ?_
  refine hK53 _ _ ?_
  refine gx_seq (fun K54 hK55 => ?_)
  refine gx_region ?_
  refine gx_kA (.slice A48 l45.length c49) w50 (gx_kA (.slice A1 p1.length c1) w50 ?_)
  obtain ⟨l56, ha57, hO8⟩ := bind_in hO8
  obtain ⟨ha57, hq58⟩ := apx_in ha57
  refine gx_rA (st_append rfl (by as_aux_lemma => kernel_rfl) (by as_aux_lemma => kernel_rfl) hS51 1 rfl (hS51.view hv1) hv1.nn ha57 (by as_aux_lemma => kernel_rfl) (by as_aux_lemma => kernel_rfl)) ?_
  rintro _ w61 ⟨A59, c60, rfl, hS62⟩
  rw [← hq58] at hS62 ⊢
  have hS62 : St _ _ w61 [poolE ([]) w0, rowE .i32 21 A59 c60 l56, rowE .i32 21 (some ⟨w39.heap.size, 0, none⟩) 1 ([8233])] := hS62
  refine gx_kA (.slice A59 l56.length c60) w61 ?_
  refine gx_nil ?_
  refine gx_thenN ?_
  refine hK55 _ _ ?_
  refine gx_seq (fun K63 hK64 => ?_)
  refine gd_start (fun w => St [] w0 w [poolE ([]) w0, rowE .i32 21 A59 c60 l56, rowE .i32 21 (some ⟨w39.heap.size, 0, none⟩) 1 ([8233])]) 11 #[false, false, false, false, false, false, false, false, false, false, false] (by as_aux_lemma => kernel_rfl) (by as_aux_lemma => kernel_rfl) ?_
  have hS66 := hS62.drew
  generalize w61.drew = w65 at hS66 ⊢
  refine gv1 0 42 (.slice A59 l56.length c60) rfl hS66 ?_
  refine gv1 2 44 (.slice A59 l56.length c60) rfl hS66 ?_
  refine gv1 3 45 (.int .i64 ((l45.length : Nat) : Int)) rfl hS66 ?_
  obtain ⟨l67, hx68, hO8⟩ := bind_in hO8
  obtain ⟨A69, c70, hA71⟩ := cut_is A59 (Int.toNat (0 : Int)) (Int.toNat ((l45.length : Nat) : Int)) c60
  rw [← cutx_len hx68] at hA71
  refine gu1 4 46 (.slice A69 l67.length c70) rfl hS66 (fun w hSw => run_cut (TE := 21) (n := l56.length) (l := Int.toNat (0 : Int)) (h := Int.toNat ((l45.length : Nat) : Int)) none (some (.int .i64 ((l45.length : Nat) : Int))) rfl (by as_aux_lemma => kernel_rfl) (by as_aux_lemma => kernel_rfl) (by as_aux_lemma => kernel_rfl) (by as_aux_lemma => kernel_rfl) (fun _ => by kernel_rfl) (bnd_h (cutx_in hx68).2.1 (Int.le_trans (cutx_in hx68).2.2.1 (by exact_mod_cast num_room (hS66.row 1 rfl).1))) hA71) ?_
  refine gv1 6 48 (.slice A1 p1.length c1) rfl hS66 ?_
  have hP73 : St _ _ w65 ([] ++ [poolE ([]) w0, rowE .i32 21 A59 c60 l56, rowE .i32 21 (some ⟨w39.heap.size, 0, none⟩) 1 ([8233])]) := hS66
  obtain ⟨l75, hc74, hO8⟩ := bind_in hO8
  try dsimp only at hO8
  refine gdC 1 { dst := some 43, op := _, type := _, pos := _, after := _, guard := _ } (pScripts_R l75 w65) rfl (by as_aux_lemma => kernel_rfl) (pScripts_ok N l56 A59 c60 _ hc74 w65 (hP73.vwB 1 rfl) (MirB.atL hcd hP73)) ?_
  rintro _ w78 ⟨A76, c77, rfl, hT80⟩
  have hS79 : St _ _ w78 [poolE ([]) w0, rowE .i32 21 A59 c60 l56, rowE .i32 21 (some ⟨w39.heap.size, 0, none⟩) 1 ([8233]), rowE .u8 5 A76 c77 l75] := hS66.take _ hT80
  refine ⟨(hS79.pick [0, 1, 2] rfl rfl), ?_⟩
  have hP81 : St _ _ w78 ([] ++ [poolE ([]) w0, rowE .i32 21 A59 c60 l56, rowE .i32 21 (some ⟨w39.heap.size, 0, none⟩) 1 ([8233]), rowE .u8 5 A76 c77 l75]) := hS79
  obtain ⟨l83, hc82, hO8⟩ := bind_in hO8
  try dsimp only at hO8
  refine gdC 5 { dst := some 47, op := _, type := _, pos := _, after := _, guard := _ } (pScripts_R l83 w78) rfl (by as_aux_lemma => kernel_rfl) (pScripts_ok N l67 A69 c70 _ hc82 w78 (Vw.of (num_cut (hS79.row 1 rfl).1 hx68 hA71) (cut_nn (hS79.row 1 rfl).2 hA71)) (MirB.atL hcd hP81)) ?_
  rintro _ w86 ⟨A84, c85, rfl, hT88⟩
  have hS87 : St _ _ w86 [poolE ([]) w0, rowE .i32 21 A59 c60 l56, rowE .i32 21 (some ⟨w39.heap.size, 0, none⟩) 1 ([8233]), rowE .u8 5 A76 c77 l75, rowE .u8 5 A84 c85 l83] := hS79.take _ hT88
  refine ⟨(hS87.pick [0, 1, 2] rfl rfl), ?_⟩
  have hP89 : St _ _ w86 ([] ++ [poolE ([]) w0, rowE .i32 21 A59 c60 l56, rowE .i32 21 (some ⟨w39.heap.size, 0, none⟩) 1 ([8233]), rowE .u8 5 A76 c77 l75, rowE .u8 5 A84 c85 l83]) := hS87
  obtain ⟨l91, hc90, hO8⟩ := bind_in hO8
  try dsimp only at hO8
  refine gdC 7 { dst := some 49, op := _, type := _, pos := _, after := _, guard := _ } (pScripts_R l91 w86) rfl (by as_aux_lemma => kernel_rfl) (pScripts_ok N p1 A1 c1 _ hc90 w86 (hP89.vwA hv1) (MirB.atL hcd hP89)) ?_
  rintro _ w94 ⟨A92, c93, rfl, hT96⟩
  have hS95 : St _ _ w94 [poolE ([]) w0, rowE .i32 21 A59 c60 l56, rowE .i32 21 (some ⟨w39.heap.size, 0, none⟩) 1 ([8233]), rowE .u8 5 A76 c77 l75, rowE .u8 5 A84 c85 l83, rowE .u8 5 A92 c93 l91] := hS87.take _ hT96
  refine ⟨(hS95.pick [0, 1, 2] rfl rfl), ?_⟩
  refine gv1 8 9 (.slice A76 l75.length c77) rfl (hS95.pick [0, 1, 2] rfl rfl) ?_
  refine gv1 9 10 (.slice A84 l83.length c85) rfl (hS95.pick [0, 1, 2] rfl rfl) ?_
  refine gv1 10 11 (.slice A92 l91.length c93) rfl (hS95.pick [0, 1, 2] rfl rfl) ?_
  refine gd_done (by as_aux_lemma => kernel_rfl) ?_
  refine gx_thenN ?_
  refine hK64 _ _ ?_
  obtain ⟨c100, hE101, hO102⟩ := bind_in hO8
  refine gx_cut (fun a w => selfA (fun u99 => ⟨((u99 0) :: (.slice A1 p1.length c1) :: (.int .u8 p2) :: un 3 ((u99 6) :: (.slice A59 l56.length c60) :: (.int .i64 ((l45.length : Nat) : Int)) :: dd u99 9 3 (un 10 (dd u5 22 9 ((.slice none 0 0) :: dd u99 32 6 ((.int .i64 ((l45.length : Nat) : Int)) :: dd u99 39 6 ((.int .i64 ((l45.length : Nat) : Int)) :: dd u99 46 40 (un 106 ([]))))))))).toArray, []⟩) a ∧ Ctl.go () = c100 ∧ St [] w0 w [poolE ([]) w0, rowE .i32 21 A59 c60 l56]) ?_ ?_
  ·refine gx_seq (fun K103 hK104 => ?_)
   refine gd_start (fun w => St [] w0 w [poolE ([]) w0, rowE .i32 21 A59 c60 l56, rowE .i32 21 (some ⟨w39.heap.size, 0, none⟩) 1 ([8233]), rowE .u8 5 A76 c77 l75, rowE .u8 5 A84 c85 l83, rowE .u8 5 A92 c93 l91]) 36 #[false, false, false, false, false, false, false, false, false, false, false, false, false, false, false, false, false, false, false, false, false, false, false, false, false, false, false, false, false, false, false, false, false, false, false, false] (by as_aux_lemma => kernel_rfl) (by as_aux_lemma => kernel_rfl) ?_
   have hS106 := hS95.drew
   generalize w94.drew = w105 at hS106 ⊢
   refine gv1 0 50 (.slice A76 l75.length c77) rfl hS106 ?_
   refine gv1 1 51 (.int .i64 ((l75.length : Nat) : Int)) rfl hS106 ?_
   refine gv1 2 52 (.slice A59 l56.length c60) rfl hS106 ?_
   refine gv1 3 53 (.int .i64 ((l56.length : Nat) : Int)) rfl hS106 ?_
   obtain ⟨c111, hE112, hO113⟩ := bind_in hE101
   refine gd_mid (fun a w => ∃ (b110 : Bool), selfA (fun u109 => ⟨((u109 0) :: (.slice A1 p1.length c1) :: (.int .u8 p2) :: un 3 ((u5 6) :: (.slice A59 l56.length c60) :: (.int .i64 ((l45.length : Nat) : Int)) :: (.slice A76 l75.length c77) :: (.slice A84 l83.length c85) :: (.slice A92 l91.length c93) :: un 10 (dd u5 22 9 ((.slice none 0 0) :: dd u109 32 6 ((.int .i64 ((l45.length : Nat) : Int)) :: dd u109 39 6 ((.int .i64 ((l45.length : Nat) : Int)) :: dd u109 46 5 ((.int .i64 ((l75.length : Nat) : Int)) :: (u109 52) :: (.int .i64 ((l56.length : Nat) : Int)) :: dd u109 54 6 ((.bool b110) :: un 131 ([]))))))))).toArray, []⟩) a ∧ b110 = c111 ∧ St [] w0 w [poolE ([]) w0, rowE .i32 21 A59 c60 l56, rowE .u8 5 A76 c77 l75, rowE .u8 5 A84 c85 l83, rowE .u8 5 A92 c93 l91, rowE .i32 21 (some ⟨w39.heap.size, 0, none⟩) 1 ([8233])]) 25 #[true, true, true, true, true, true, true, true, true, true, true, false, false, false, false, false, false, false, false, false, false, false, false, false, false, false, false, false, false, false, false, false, false, false, false, false] ?_ ?_
   ·rintro _ w107 ⟨b110, hq114, rfl, hS108⟩
    obtain ⟨u109, rfl⟩ := selfA_u hq114
    try dsimp only at hO113
    obtain ⟨c122, hE123, hO124⟩ := bind_in hO113
    refine gd_mid (fun a w => ∃ (b121 : Bool), selfA (fun u120 => ⟨((u109 0) :: (.slice A1 p1.length c1) :: (.int .u8 p2) :: un 3 ((u5 6) :: (.slice A59 l56.length c60) :: (.int .i64 ((l45.length : Nat) : Int)) :: (.slice A76 l75.length c77) :: (.slice A84 l83.length c85) :: (.slice A92 l91.length c93) :: un 10 (dd u5 22 9 ((.slice none 0 0) :: dd u109 32 6 ((.int .i64 ((l45.length : Nat) : Int)) :: dd u109 39 6 ((.int .i64 ((l45.length : Nat) : Int)) :: dd u109 46 5 ((.int .i64 ((l75.length : Nat) : Int)) :: (u109 52) :: (.int .i64 ((l56.length : Nat) : Int)) :: dd u109 54 6 ((.bool b110) :: dd u120 61 6 ((.bool b121) :: un 124 ([])))))))))).toArray, []⟩) a ∧ b121 = c122 ∧ St [] w0 w [poolE ([]) w0, rowE .i32 21 A59 c60 l56, rowE .u8 5 A76 c77 l75, rowE .u8 5 A84 c85 l83, rowE .u8 5 A92 c93 l91, rowE .i32 21 (some ⟨w39.heap.size, 0, none⟩) 1 ([8233])]) 18 #[true, true, true, true, true, true, true, true, true, true, true, true, true, true, true, true, true, true, false, false, false, false, false, false, false, false, false, false, false, false, false, false, false, false, false, false] ?_ ?_
    ·rintro _ w118 ⟨b121, hq125, rfl, hS119⟩
     obtain ⟨u120, rfl⟩ := selfA_u hq125
     try dsimp only at hO124
     obtain ⟨c132, hE133, hO134⟩ := bind_in hO124
     refine gd_mid (fun a w => ∃ (b131 : Bool), selfA (fun u130 => ⟨((u109 0) :: (.slice A1 p1.length c1) :: (.int .u8 p2) :: un 3 ((u5 6) :: (.slice A59 l56.length c60) :: (.int .i64 ((l45.length : Nat) : Int)) :: (.slice A76 l75.length c77) :: (u130 10) :: (.slice A92 l91.length c93) :: un 10 (dd u5 22 9 ((.slice none 0 0) :: dd u109 32 6 ((.int .i64 ((l45.length : Nat) : Int)) :: dd u109 39 6 ((.int .i64 ((l45.length : Nat) : Int)) :: dd u109 46 5 ((.int .i64 ((l75.length : Nat) : Int)) :: (u109 52) :: (.int .i64 ((l56.length : Nat) : Int)) :: dd u109 54 6 ((.bool b110) :: dd u120 61 6 ((.bool b121) :: dd u130 68 8 ((.bool b131) :: un 115 ([]))))))))))).toArray, []⟩) a ∧ b131 = c132 ∧ St [] w0 w [poolE ([]) w0, rowE .i32 21 A59 c60 l56, rowE .u8 5 A76 c77 l75, rowE .u8 5 A92 c93 l91, rowE .i32 21 (some ⟨w39.heap.size, 0, none⟩) 1 ([8233]), rowE .u8 5 A84 c85 l83]) 9 #[true, true, true, true, true, true, true, true, true, true, true, true, true, true, true, true, true, true, true, true, true, true, true, true, true, true, true, false, false, false, false, false, false, false, false, false] ?_ ?_
     ·rintro _ w128 ⟨b131, hq135, rfl, hS129⟩
      obtain ⟨u130, rfl⟩ := selfA_u hq135
      try dsimp only at hO134
      refine gv1 27 77 (.bool b131) rfl (hS129.pick [0, 1, 4, 2, 5, 3] rfl rfl) ?_
      cases b131 with
      | true =>
       try dsimp only at hO134
       refine gz1 28 78 rfl (hS129.pick [0, 1, 4, 2, 5, 3] rfl rfl) ?_
       refine gz1 29 79 rfl (hS129.pick [0, 1, 4, 2, 5, 3] rfl rfl) ?_
       refine gz1 30 80 rfl (hS129.pick [0, 1, 4, 2, 5, 3] rfl rfl) ?_
       refine gz1 31 81 rfl (hS129.pick [0, 1, 4, 2, 5, 3] rfl rfl) ?_
       refine gz1 32 82 rfl (hS129.pick [0, 1, 4, 2, 5, 3] rfl rfl) ?_
       refine gz1 33 83 rfl (hS129.pick [0, 1, 4, 2, 5, 3] rfl rfl) ?_
       refine gz1 34 84 rfl (hS129.pick [0, 1, 4, 2, 5, 3] rfl rfl) ?_
       refine gv1 35 85 (.bool true) rfl (hS129.pick [0, 1, 4, 2, 5, 3] rfl rfl) ?_
       refine gd_done (by as_aux_lemma => kernel_rfl) ?_
       refine gx_thenN ?_
       refine hK104 _ _ ?_
       refine gx_yes (by as_aux_lemma => kernel_rfl) ?_
       refine gx_seq (fun K145 hK146 => ?_)
       refine gx_region ?_
       refine gx_kA (.bool false) w128 ?_
       refine gx_nil ?_
       refine gx_thenN ?_
       refine hK146 _ _ ?_
       refine gx_ret ?_
       refine gx_thenR ?_
       obtain rfl := Option.some.inj hO134
       try dsimp only at hO102
       obtain rfl := Option.some.inj hO102
       exact gx_fin (.bool false) (by as_aux_lemma => kernel_rfl) (by as_aux_lemma => kernel_rfl) ⟨_, rfl, rfl, (hS129.pick [] rfl rfl)⟩
      | false =>
       try dsimp only at hO134
       refine gv1 28 78 (.slice A76 l75.length c77) rfl (hS129.pick [0, 1, 4, 2, 5, 3] rfl rfl) ?_
       refine gv1 29 79 (.int .i64 ((l45.length : Nat) : Int)) rfl (hS129.pick [0, 1, 4, 2, 5, 3] rfl rfl) ?_
       obtain ⟨l147, hx148, hO134⟩ := bind_in hO134
       obtain ⟨A149, c150, hA151⟩ := cut_is A76 (Int.toNat ((l45.length : Nat) : Int)) (Int.toNat ((l75.length : Nat) : Int)) c77
       rw [← cutx_len hx148] at hA151
       refine gu1 30 80 (.slice A149 l147.length c150) rfl (hS129.pick [0, 1, 4, 2, 5, 3] rfl rfl) (fun w hSw => run_cut (TE := 5) (n := l75.length) (l := Int.toNat ((l45.length : Nat) : Int)) (h := Int.toNat ((l75.length : Nat) : Int)) (some (.int .i64 ((l45.length : Nat) : Int))) none rfl (by as_aux_lemma => kernel_rfl) (by as_aux_lemma => kernel_rfl) (by as_aux_lemma => kernel_rfl) (by as_aux_lemma => kernel_rfl) (fun _ => by kernel_rfl) (bnd_l (cutx_in hx148).1 (cutx_in hx148).2.1) hA151) ?_
       refine gu1 31 81 (.string (strOfNums l147)) rfl (hS129.pick [0, 1, 4, 2, 5, 3] rfl rfl) (fun w hSw => run_conv rfl (by as_aux_lemma => kernel_rfl) (conv_b _ _ _ (num_cut (hSw.row 3 rfl).1 hx148 hA151))) ?_
       refine gv1 32 82 (.slice A92 l91.length c93) rfl (hS129.pick [0, 1, 4, 2, 5, 3] rfl rfl) ?_
       refine gu1 33 83 (.string (strOfNums l91)) rfl (hS129.pick [0, 1, 4, 2, 5, 3] rfl rfl) (fun w hSw => run_conv rfl (by as_aux_lemma => kernel_rfl) (conv_b _ _ _ (hSw.row 5 rfl).1)) ?_
       obtain ⟨b153, h154, hO134⟩ := bind_in hO134
       refine gu1 34 84 (.bool b153) rfl (hS129.pick [0, 1, 4, 2, 5, 3] rfl rfl) (fun w hSw => run_boolE (Option.some.inj h154) (by as_aux_lemma => kernel_rfl)) ?_
       refine gv1 35 85 (.bool b153) rfl (hS129.pick [0, 1, 4, 2, 5, 3] rfl rfl) ?_
       refine gd_done (by as_aux_lemma => kernel_rfl) ?_
       refine gx_thenN ?_
       refine hK104 _ _ ?_
       cases b153 with
       | true =>
        try dsimp only at hO134
        refine gx_yes (by as_aux_lemma => kernel_rfl) ?_
        refine gx_seq (fun K155 hK156 => ?_)
        refine gx_region ?_
        refine gx_kA (.bool false) w128 ?_
        refine gx_nil ?_
        refine gx_thenN ?_
        refine hK156 _ _ ?_
        refine gx_ret ?_
        refine gx_thenR ?_
        obtain rfl := Option.some.inj hO134
        try dsimp only at hO102
        obtain rfl := Option.some.inj hO102
        exact gx_fin (.bool false) (by as_aux_lemma => kernel_rfl) (by as_aux_lemma => kernel_rfl) ⟨_, rfl, rfl, (hS129.pick [] rfl rfl)⟩
       | false =>
        try dsimp only at hO134
        refine gx_no (by as_aux_lemma => kernel_rfl) ?_
        refine gx_pass ?_
        refine gx_thenN ?_
        exact ⟨selfA_i (by as_aux_lemma => kernel_rfl), (Option.some.inj hO134), (hS129.pick [0, 1] rfl rfl)⟩
     ·intro hK136
      refine gv1 18 68 (.bool b121) rfl (hS119.pick [0, 1, 5, 2, 3, 4] rfl rfl) ?_
      cases b121 with
      | true =>
       try dsimp only at hE133
       refine gz1 19 69 rfl (hS119.pick [0, 1, 5, 2, 3, 4] rfl rfl) ?_
       refine gz1 20 70 rfl (hS119.pick [0, 1, 5, 2, 3, 4] rfl rfl) ?_
       refine gz1 21 71 rfl (hS119.pick [0, 1, 5, 2, 3, 4] rfl rfl) ?_
       refine gz1 22 72 rfl (hS119.pick [0, 1, 5, 2, 3, 4] rfl rfl) ?_
       refine gz1 23 73 rfl (hS119.pick [0, 1, 5, 2, 3, 4] rfl rfl) ?_
       refine gz1 24 74 rfl (hS119.pick [0, 1, 5, 2, 3, 4] rfl rfl) ?_
       refine gz1 25 75 rfl (hS119.pick [0, 1, 5, 2, 3, 4] rfl rfl) ?_
       refine gv1 26 76 (.bool true) rfl (hS119.pick [0, 1, 5, 2, 3, 4] rfl rfl) ?_
       exact gd_to hK136 (by as_aux_lemma => kernel_rfl) ⟨true, selfA_i (by as_aux_lemma => kernel_rfl), (Option.some.inj hE133), (hS119.pick [0, 1, 2, 4, 5, 3] rfl rfl)⟩
      | false =>
       try dsimp only at hE133
       refine gv1 19 69 (.slice A76 l75.length c77) rfl (hS119.pick [0, 1, 5, 2, 3, 4] rfl rfl) ?_
       refine gv1 20 70 (.int .i64 ((l45.length : Nat) : Int)) rfl (hS119.pick [0, 1, 5, 2, 3, 4] rfl rfl) ?_
       obtain ⟨l137, hx138, hE133⟩ := bind_in hE133
       obtain ⟨A139, c140, hA141⟩ := cut_is A76 (Int.toNat (0 : Int)) (Int.toNat ((l45.length : Nat) : Int)) c77
       rw [← cutx_len hx138] at hA141
       refine gu1 21 71 (.slice A139 l137.length c140) rfl (hS119.pick [0, 1, 5, 2, 3, 4] rfl rfl) (fun w hSw => run_cut (TE := 5) (n := l75.length) (l := Int.toNat (0 : Int)) (h := Int.toNat ((l45.length : Nat) : Int)) none (some (.int .i64 ((l45.length : Nat) : Int))) rfl (by as_aux_lemma => kernel_rfl) (by as_aux_lemma => kernel_rfl) (by as_aux_lemma => kernel_rfl) (by as_aux_lemma => kernel_rfl) (fun _ => by kernel_rfl) (bnd_h (cutx_in hx138).2.1 (Int.le_trans (cutx_in hx138).2.2.1 (by exact_mod_cast num_room (hS119.row 2 rfl).1))) hA141) ?_
       refine gu1 22 72 (.string (strOfNums l137)) rfl (hS119.pick [0, 1, 5, 2, 3, 4] rfl rfl) (fun w hSw => run_conv rfl (by as_aux_lemma => kernel_rfl) (conv_b _ _ _ (num_cut (hSw.row 3 rfl).1 hx138 hA141))) ?_
       refine gv1 23 73 (.slice A84 l83.length c85) rfl (hS119.pick [0, 1, 5, 2, 3, 4] rfl rfl) ?_
       refine gu1 24 74 (.string (strOfNums l83)) rfl (hS119.pick [0, 1, 5, 2, 3, 4] rfl rfl) (fun w hSw => run_conv rfl (by as_aux_lemma => kernel_rfl) (conv_b _ _ _ (hSw.row 4 rfl).1)) ?_
       obtain ⟨b143, h144, hE133⟩ := bind_in hE133
       refine gu1 25 75 (.bool b143) rfl (hS119.pick [0, 1, 5, 2, 3, 4] rfl rfl) (fun w hSw => run_boolE (Option.some.inj h144) (by as_aux_lemma => kernel_rfl)) ?_
       refine gv1 26 76 (.bool b143) rfl (hS119.pick [0, 1, 5, 2, 3, 4] rfl rfl) ?_
       exact gd_to hK136 (by as_aux_lemma => kernel_rfl) ⟨b143, selfA_i (by as_aux_lemma => kernel_rfl), (Option.some.inj hE133), (hS119.pick [0, 1, 2, 4, 5, 3] rfl rfl)⟩
    ·intro hK126
     refine gv1 11 61 (.bool b110) rfl (hS108.pick [0, 1, 5, 2, 3, 4] rfl rfl) ?_
     cases b110 with
     | true =>
      try dsimp only at hE123
      refine gz1 12 62 rfl (hS108.pick [0, 1, 5, 2, 3, 4] rfl rfl) ?_
      refine gz1 13 63 rfl (hS108.pick [0, 1, 5, 2, 3, 4] rfl rfl) ?_
      refine gz1 14 64 rfl (hS108.pick [0, 1, 5, 2, 3, 4] rfl rfl) ?_
      refine gz1 15 65 rfl (hS108.pick [0, 1, 5, 2, 3, 4] rfl rfl) ?_
      refine gz1 16 66 rfl (hS108.pick [0, 1, 5, 2, 3, 4] rfl rfl) ?_
      refine gv1 17 67 (.bool true) rfl (hS108.pick [0, 1, 5, 2, 3, 4] rfl rfl) ?_
      exact gd_to hK126 (by as_aux_lemma => kernel_rfl) ⟨true, selfA_i (by as_aux_lemma => kernel_rfl), (Option.some.inj hE123), hS108⟩
     | false =>
      try dsimp only at hE123
      refine gv1 12 62 (.slice A92 l91.length c93) rfl (hS108.pick [0, 1, 5, 2, 3, 4] rfl rfl) ?_
      refine gv1 13 63 (.int .i64 ((l91.length : Nat) : Int)) rfl (hS108.pick [0, 1, 5, 2, 3, 4] rfl rfl) ?_
      refine gv1 14 64 (.slice A1 p1.length c1) rfl (hS108.pick [0, 1, 5, 2, 3, 4] rfl rfl) ?_
      refine gv1 15 65 (.int .i64 ((p1.length : Nat) : Int)) rfl (hS108.pick [0, 1, 5, 2, 3, 4] rfl rfl) ?_
      rcases if_in hE123 with ⟨h127, hE123⟩ | ⟨h127, hE123⟩
      ·refine gu1 16 66 (.bool true) rfl (hS108.pick [0, 1, 5, 2, 3, 4] rfl rfl) (fun w hSw => run_boolE (ne_yes h127) (by as_aux_lemma => kernel_rfl)) ?_
       refine gv1 17 67 (.bool true) rfl (hS108.pick [0, 1, 5, 2, 3, 4] rfl rfl) ?_
       exact gd_to hK126 (by as_aux_lemma => kernel_rfl) ⟨true, selfA_i (by as_aux_lemma => kernel_rfl), (Option.some.inj hE123), hS108⟩
      ·refine gu1 16 66 (.bool false) rfl (hS108.pick [0, 1, 5, 2, 3, 4] rfl rfl) (fun w hSw => run_boolE (ne_no h127) (by as_aux_lemma => kernel_rfl)) ?_
       refine gv1 17 67 (.bool false) rfl (hS108.pick [0, 1, 5, 2, 3, 4] rfl rfl) ?_
       exact gd_to hK126 (by as_aux_lemma => kernel_rfl) ⟨false, selfA_i (by as_aux_lemma => kernel_rfl), (Option.some.inj hE123), hS108⟩
   ·intro hK115
    rcases if_in hE112 with ⟨h116, hE112⟩ | ⟨h116, hE112⟩
    ·refine gu1 4 54 (.bool true) rfl hS106 (fun w hSw => run_boolE (ne_yes h116) (by as_aux_lemma => kernel_rfl)) ?_
     refine gv1 5 55 (.bool true) rfl hS106 ?_
     refine gz1 6 56 rfl hS106 ?_
     refine gz1 7 57 rfl hS106 ?_
     refine gz1 8 58 rfl hS106 ?_
     refine gz1 9 59 rfl hS106 ?_
     refine gv1 10 60 (.bool true) rfl hS106 ?_
     exact gd_to hK115 (by as_aux_lemma => kernel_rfl) ⟨true, selfA_i (by as_aux_lemma => kernel_rfl), (Option.some.inj hE112), (hS106.pick [0, 1, 3, 4, 5, 2] rfl rfl)⟩
    ·refine gu1 4 54 (.bool false) rfl hS106 (fun w hSw => run_boolE (ne_no h116) (by as_aux_lemma => kernel_rfl)) ?_
     refine gv1 5 55 (.bool false) rfl hS106 ?_
     refine gv1 6 56 (.slice A84 l83.length c85) rfl hS106 ?_
     refine gv1 7 57 (.int .i64 ((l83.length : Nat) : Int)) rfl hS106 ?_
     refine gv1 8 58 (.int .i64 ((l45.length : Nat) : Int)) rfl hS106 ?_
     rcases if_in hE112 with ⟨h117, hE112⟩ | ⟨h117, hE112⟩
     ·refine gu1 9 59 (.bool true) rfl hS106 (fun w hSw => run_boolE (ne_yes h117) (by as_aux_lemma => kernel_rfl)) ?_
      refine gv1 10 60 (.bool true) rfl hS106 ?_
      exact gd_to hK115 (by as_aux_lemma => kernel_rfl) ⟨true, selfA_i (by as_aux_lemma => kernel_rfl), (Option.some.inj hE112), (hS106.pick [0, 1, 3, 4, 5, 2] rfl rfl)⟩
     ·refine gu1 9 59 (.bool false) rfl hS106 (fun w hSw => run_boolE (ne_no h117) (by as_aux_lemma => kernel_rfl)) ?_
      refine gv1 10 60 (.bool false) rfl hS106 ?_
      exact gd_to hK115 (by as_aux_lemma => kernel_rfl) ⟨false, selfA_i (by as_aux_lemma => kernel_rfl), (Option.some.inj hE112), (hS106.pick [0, 1, 3, 4, 5, 2] rfl rfl)⟩
  ·rintro _ w97 ⟨hq473, rfl, hS98⟩
   obtain ⟨u99, rfl⟩ := selfA_u hq473
   try dsimp only at hO102
   refine gx_seq (fun K157 hK158 => ?_)
   refine gx_region ?_
   refine gx_kA (.slice A59 l56.length c60) w97 (gx_kA (.int .i64 ((l56.length : Nat) : Int)) w97 ?_)
   obtain ⟨l159, hm160, hO102⟩ := bind_in hO102
   refine gx_rA (st_make (T := 5) (k := .u8) (by_ := 1) rfl (by as_aux_lemma => kernel_rfl) (by as_aux_lemma => kernel_rfl) (by as_aux_lemma => kernel_rfl) (by as_aux_lemma => kernel_rfl) (by as_aux_lemma => kernel_rfl) hS98 hm160) ?_
   rintro _ w161 ⟨A163, c164, rfl, hS162⟩
   have hS162 : St _ _ w161 [poolE ([]) w0, rowE .i32 21 A59 c60 l56, rowE .u8 5 A163 c164 l159] := hS162
   refine gx_kA (.slice A163 l159.length c164) w161 ?_
   refine gx_nil ?_
   refine gx_thenN ?_
   refine hK158 _ _ ?_
   obtain ⟨c170, hE171, hO172⟩ := bind_in hO102
   refine gx_cut (fun a w => ∃ (l169 : List Int), selfA (fun u167 => ⟨((u99 0) :: (.slice A1 p1.length c1) :: (.int .u8 p2) :: un 3 ((u99 6) :: (.slice A59 l56.length c60) :: (.int .i64 ((l45.length : Nat) : Int)) :: dd u99 9 3 ((.slice A163 l159.length c164) :: (u167 13) :: un 8 (dd u5 22 9 ((.slice none 0 0) :: dd u99 32 6 ((.int .i64 ((l45.length : Nat) : Int)) :: dd u99 39 6 ((.int .i64 ((l45.length : Nat) : Int)) :: dd u99 46 40 ((u167 86) :: (.int .i64 ((l56.length : Nat) : Int)) :: dd u167 88 11 (un 93 ([])))))))))).toArray, []⟩) a ∧ l169 = c170 ∧ St [] w0 w [poolE ([]) w0, rowE .i32 21 A59 c60 l56, rowE .u8 5 A163 c164 l169] ∧ l159.length = l169.length) ?_ ?_
   ·refine gx_seq (fun K173 hK174 => ?_)
    refine gx_region ?_
    refine gx_kA (.int .i64 0) w161 ?_
    refine gx_nil ?_
    refine gx_thenN ?_
    refine hK174 _ _ ?_
    refine gx_block ?_
    refine gx_loop (fun k a w => ∃ (l179 : List Int) (x180 : Int), selfA (fun u177 => ⟨((u99 0) :: (.slice A1 p1.length c1) :: (.int .u8 p2) :: un 3 ((u99 6) :: (.slice A59 l56.length c60) :: (.int .i64 ((l45.length : Nat) : Int)) :: dd u99 9 3 ((.slice A163 l159.length c164) :: (.int .i64 x180) :: un 8 (dd u5 22 9 ((.slice none 0 0) :: dd u99 32 6 ((.int .i64 ((l45.length : Nat) : Int)) :: dd u99 39 6 ((.int .i64 ((l45.length : Nat) : Int)) :: dd u99 46 40 ((u177 86) :: (.int .i64 ((l56.length : Nat) : Int)) :: dd u177 88 11 (un 93 ([])))))))))).toArray, []⟩) a ∧ fParts_L1 N p2 l159 k l179 x180 = some c170 ∧ St [] w0 w [poolE ([]) w0, rowE .i32 21 A59 c60 l56, rowE .u8 5 A163 c164 l179] ∧ l159.length = l179.length) N ?_ ?_
    ·exact ⟨l159, 0, selfA_i (by as_aux_lemma => kernel_rfl), hE171, hS162, rfl⟩
    ·rintro k181 _ w175 ⟨l179, x180, hq196, hL182, hS176, hn178⟩
     obtain ⟨u177, rfl⟩ := selfA_u hq196
     cases k181 with
     | zero => cases hL182
     | succ k181 =>
      first | rw [fParts_L1] at hL182 | unfold fParts_L1 at hL182
      refine gx_seq (fun K183 hK184 => ?_)
      refine gx_seq (fun K185 hK186 => ?_)
      refine gx_region ?_
      refine gx_kA (.int .i64 x180) w175 (gx_kA (.slice A163 l159.length c164) w175 (gx_kA (.int .i64 ((l159.length : Nat) : Int)) w175 ?_))
      rcases if_in hL182 with ⟨h187, hL182⟩ | ⟨h187, hL182⟩
      ·refine gx_vA (.bool true) w175 (run_boolE (decide_eq_true h187) (by as_aux_lemma => kernel_rfl)) ?_
       refine gx_nil ?_
       refine gx_thenN ?_
       refine hK186 _ _ ?_
       refine gx_yes (by as_aux_lemma => kernel_rfl) ?_
       refine gx_pass ?_
       refine gx_thenN ?_
       refine hK184 _ _ ?_
       refine gx_seq (fun K188 hK189 => ?_)
       refine gx_block ?_
       refine gx_region ?_
       refine gx_kA (.slice A163 l159.length c164) w175 (gx_kA (.int .i64 x180) w175 (gx_kA (.int .u8 p2) w175 ?_))
       obtain ⟨x190, hx191, hL182⟩ := bind_in hL182
       refine gx_vA (.pointer (Option.map (fun (p : Addr) => p.add (Int.toNat x180 * 1)) A163)) w175 (run_ixaddr (E := 5) (s := 1) (k := .i64) (c := c164) rfl (by as_aux_lemma => kernel_rfl) (by as_aux_lemma => kernel_rfl) (by as_aux_lemma => kernel_rfl) (fun _ => by kernel_rfl) (ix_in hx191).1 (lt_len hn178 (ix_in hx191).2.1) (nil_len hn178 (num_nil (hS176.row 2 rfl).1))) ?_
       obtain ⟨l194, hx195, hL182⟩ := bind_in hL182
       refine gx_sA (st_storeix rfl (by as_aux_lemma => kernel_rfl) (by as_aux_lemma => kernel_rfl) (fun _ => by kernel_rfl) hS176 2 rfl hx195) ?_
       rintro w192 hS193
       have hS193 : St _ _ w192 [poolE ([]) w0, rowE .i32 21 A59 c60 l56, rowE .u8 5 A163 c164 l194] := hS193
       refine gx_nil ?_
       refine gx_blkN ?_
       refine gx_thenN ?_
       refine hK189 _ _ ?_
       refine gx_region ?_
       refine gx_kA (.int .i64 x180) w192 (gx_kA (.int .i64 (IntKind.i64.wrap (x180 + 1))) w192 (gx_kA (.int .i64 (IntKind.i64.wrap (x180 + 1))) w192 ?_))
       refine gx_nil ?_
       refine gx_thenN ?_
       exact ⟨k181, Nat.lt_succ_self k181, l194, (IntKind.i64.wrap (x180 + 1)), selfA_i (by as_aux_lemma => kernel_rfl), hL182, hS193, (hn178.trans (setx_len hx195).symm)⟩
      ·refine gx_vA (.bool false) w175 (run_boolE (decide_eq_false h187) (by as_aux_lemma => kernel_rfl)) ?_
       refine gx_nil ?_
       refine gx_thenN ?_
       refine hK186 _ _ ?_
       refine gx_no (by as_aux_lemma => kernel_rfl) ?_
       refine gx_exit ?_
       refine gx_thenE ?_
       refine gx_thenE ?_
       refine gx_blkE ?_
       refine gx_thenN ?_
       exact ⟨l179, selfA_i (by as_aux_lemma => kernel_rfl), (Option.some.inj hL182), hS176, hn178⟩
   ·rintro _ w165 ⟨l169, hq472, rfl, hS166, hn168⟩
    obtain ⟨u167, rfl⟩ := selfA_u hq472
    try dsimp only at hO172
    refine gx_seq (fun K197 hK198 => ?_)
    refine gx_region ?_
    refine gx_kA (.slice A59 l56.length c60) w165 (gx_kA (.slice A163 l159.length c164) w165 ?_)
    have hP199 : St _ _ w165 ([] ++ [poolE ([]) w0, rowE .i32 21 A59 c60 l56, rowE .u8 5 A163 c164 l169]) := hS166
    obtain ⟨⟨l201, x206⟩, hc200, hO172⟩ := bind_in hO172
    try dsimp only at hO172
    refine gx_call (pRuns_R (l201, x206) w165) (by as_aux_lemma => kernel_rfl) (by rw [← hn168] <;> kernel_rfl) (pRuns_ok N l56 l169 A59 c60 A163 c164 _ hc200 w165 (hP199.vwB 1 rfl) (hP199.vwB 2 rfl) (MirB.atL hcd hP199)) ?_
    rintro _ w208 ⟨A202, c203, vs204, ft207, rfl, hT210, hf205⟩
    have hS209 : St _ _ w208 [poolE ([]) w0, rowE .i32 21 A59 c60 l56, rowE .u8 5 A163 c164 l169, rowG 35 4 (.slice A202 l201.length c203) l201.length vs204, poolE ft207 w208] := hS166.take _ hT210
    obtain ⟨ft211, W212, hS213, hT214, hU215⟩ := hS209.merge 4 0 rfl rfl (by decide)
    have hS213 : St _ _ w208 [poolE ft211 W212, rowE .i32 21 A59 c60 l56, rowE .u8 5 A163 c164 l169, rowG 35 4 (.slice A202 l201.length c203) l201.length vs204] := hS213
    have hT214 : Turn [] w0 w0 ([]) W212 ft211 := hT214
    have hf218 : (fEach encitemiseRun vs204 l201).rd W212 ft211 := hU215 _ hf205
    refine gx_kA (.tuple #[.slice A202 l201.length c203, .int .i64 x206]) w208 (gx_kA (.slice A202 l201.length c203) w208 (gx_kA (.int .i64 x206) w208 (gx_kA (.slice A202 l201.length c203) w208 (gx_kA (.int .i64 x206) w208 ?_))))
    refine gx_nil ?_
    refine gx_thenN ?_
    refine hK198 _ _ ?_
    refine gx_seq (fun K219 hK220 => ?_)
    refine gd_start (fun w => St [] w0 w [rowE .i32 21 A59 c60 l56, rowE .u8 5 A163 c164 l169, rowG 35 4 (.slice A202 l201.length c203) l201.length vs204]) 12 #[false, false, false, false, false, false, false, false, false, false, false, false] (by as_aux_lemma => kernel_rfl) (by as_aux_lemma => kernel_rfl) ?_
    have hS222 := hS213.drew
    generalize w208.drew = w221 at hS222 ⊢
    refine gv1 0 106 (.slice A59 l56.length c60) rfl (hS222.pick [1, 2, 3] rfl rfl) ?_
    refine gv1 1 107 (.int .i64 ((l45.length : Nat) : Int)) rfl (hS222.pick [1, 2, 3] rfl rfl) ?_
    obtain ⟨l223, hx224, hO172⟩ := bind_in hO172
    obtain ⟨A225, c226, hA227⟩ := cut_is A59 (Int.toNat (0 : Int)) (Int.toNat ((l45.length : Nat) : Int)) c60
    rw [← cutx_len hx224] at hA227
    refine gu1 2 108 (.slice A225 l223.length c226) rfl (hS222.pick [1, 2, 3] rfl rfl) (fun w hSw => run_cut (TE := 21) (n := l56.length) (l := Int.toNat (0 : Int)) (h := Int.toNat ((l45.length : Nat) : Int)) none (some (.int .i64 ((l45.length : Nat) : Int))) rfl (by as_aux_lemma => kernel_rfl) (by as_aux_lemma => kernel_rfl) (by as_aux_lemma => kernel_rfl) (by as_aux_lemma => kernel_rfl) (fun _ => by kernel_rfl) (bnd_h (cutx_in hx224).2.1 (Int.le_trans (cutx_in hx224).2.2.1 (by exact_mod_cast num_room (hS222.row 1 rfl).1))) hA227) ?_
    refine gv1 3 109 (.slice A163 l159.length c164) rfl (hS222.pick [1, 2, 3] rfl rfl) ?_
    refine gv1 4 110 (.int .i64 ((l45.length : Nat) : Int)) rfl (hS222.pick [1, 2, 3] rfl rfl) ?_
    obtain ⟨l229, hx230, hO172⟩ := bind_in hO172
    obtain ⟨A231, c232, hA233⟩ := cut_is A163 (Int.toNat (0 : Int)) (Int.toNat ((l45.length : Nat) : Int)) c164
    rw [← cutx_len hx230] at hA233
    refine gu1 5 111 (.slice A231 l229.length c232) rfl (hS222.pick [1, 2, 3] rfl rfl) (fun w hSw => run_cut (TE := 5) (n := l159.length) (l := Int.toNat (0 : Int)) (h := Int.toNat ((l45.length : Nat) : Int)) none (some (.int .i64 ((l45.length : Nat) : Int))) rfl (by as_aux_lemma => kernel_rfl) (by as_aux_lemma => kernel_rfl) (by as_aux_lemma => kernel_rfl) (by as_aux_lemma => kernel_rfl) (fun _ => by kernel_rfl) (bnd_h (cutx_in hx230).2.1 (Int.le_trans (cutx_in hx230).2.2.1 (by exact_mod_cast num_room (hS222.row 2 rfl).1))) hA233) ?_
    have hP235 : St _ _ w221 ([] ++ [poolE ft211 W212, rowE .i32 21 A59 c60 l56, rowE .u8 5 A163 c164 l169, rowG 35 4 (.slice A202 l201.length c203) l201.length vs204]) := hS222
    obtain ⟨⟨l237, x242⟩, hc236, hO172⟩ := bind_in hO172
    try dsimp only at hO172
    refine gdC 6 { dst := some 112, op := _, type := _, pos := _, after := _, guard := _ } (pRuns_R (l237, x242) w221) rfl (by as_aux_lemma => kernel_rfl) (pRuns_ok N l223 l229 A225 c226 A231 c232 _ hc236 w221 (Vw.of (num_cut (hS222.row 1 rfl).1 hx224 hA227) (cut_nn (hS222.row 1 rfl).2 hA227)) (Vw.of (num_cut (hS222.row 2 rfl).1 hx230 hA233) (cut_nn (hS222.row 2 rfl).2 hA233)) (MirB.atL hcd hP235)) ?_
    rintro _ w244 ⟨A238, c239, vs240, ft243, rfl, hT246, hf241⟩
    have hS245 : St _ _ w244 [poolE ft211 W212, rowE .i32 21 A59 c60 l56, rowE .u8 5 A163 c164 l169, rowG 35 4 (.slice A202 l201.length c203) l201.length vs204, rowG 35 4 (.slice A238 l237.length c239) l237.length vs240, poolE ft243 w244] := hS222.take _ hT246
    obtain ⟨ft247, W248, hS249, hT250, hU251⟩ := hS245.merge 5 0 rfl rfl (by decide)
    have hS249 : St _ _ w244 [poolE ft247 W248, rowE .i32 21 A59 c60 l56, rowE .u8 5 A163 c164 l169, rowG 35 4 (.slice A202 l201.length c203) l201.length vs204, rowG 35 4 (.slice A238 l237.length c239) l237.length vs240] := hS249
    have hT250 : Turn [] w0 W212 ft211 W248 ft247 := hT250
    have hf254 : (fEach encitemiseRun vs240 l237).rd W248 ft247 := hU251 _ hf241
    refine ⟨(hS249.pick [1, 2, 3] rfl rfl), ?_⟩
    refine gv1 7 105 (.tuple #[.slice A238 l237.length c239, .int .i64 x242]) rfl (hS249.pick [1, 2, 3] rfl rfl) ?_
    refine gv1 8 113 (.slice A238 l237.length c239) rfl (hS249.pick [1, 2, 3] rfl rfl) ?_
    refine gv1 9 114 (.int .i64 x242) rfl (hS249.pick [1, 2, 3] rfl rfl) ?_
    refine gv1 10 16 (.slice A238 l237.length c239) rfl (hS249.pick [1, 2, 3] rfl rfl) ?_
    refine gv1 11 17 (.int .i64 x242) rfl (hS249.pick [1, 2, 3] rfl rfl) ?_
    refine gd_done (by as_aux_lemma => kernel_rfl) ?_
    refine gx_thenN ?_
    refine hK220 _ _ ?_
    refine gx_seq (fun K255 hK256 => ?_)
    refine gx_region ?_
    refine gx_kA (.slice A1 p1.length c1) w244 (gx_kA (.slice A163 l159.length c164) w244 (gx_kA (.int .i64 ((l45.length : Nat) : Int)) w244 ?_))
    obtain ⟨l257, hx258, hO172⟩ := bind_in hO172
    obtain ⟨A259, c260, hA261⟩ := cut_is A163 (Int.toNat ((l45.length : Nat) : Int)) (Int.toNat ((l159.length : Nat) : Int)) c164
    rw [← cutx_len hx258] at hA261
    refine gx_vA (.slice A259 l257.length c260) w244 (run_cut (TE := 5) (n := l159.length) (l := Int.toNat ((l45.length : Nat) : Int)) (h := Int.toNat ((l159.length : Nat) : Int)) (some (.int .i64 ((l45.length : Nat) : Int))) none rfl (by as_aux_lemma => kernel_rfl) (by as_aux_lemma => kernel_rfl) (by as_aux_lemma => kernel_rfl) (by as_aux_lemma => kernel_rfl) (fun _ => by kernel_rfl) (bnd_l (cutx_in hx258).1 (cutx_in hx258).2.1) hA261) ?_
    have hP263 : St _ _ w244 ([] ++ [poolE ft247 W248, rowE .i32 21 A59 c60 l56, rowE .u8 5 A163 c164 l169, rowG 35 4 (.slice A202 l201.length c203) l201.length vs204, rowG 35 4 (.slice A238 l237.length c239) l237.length vs240]) := hS249
    obtain ⟨⟨l265, x270⟩, hc264, hO172⟩ := bind_in hO172
    try dsimp only at hO172
    refine gx_cA (pRuns_R (l265, x270) w244) (pRuns_ok N p1 l257 A1 c1 A259 c260 _ hc264 w244 (hP263.vwA hv1) (Vw.of (num_cut (hS249.row 2 rfl).1 hx258 hA261) (cut_nn (hS249.row 2 rfl).2 hA261)) (MirB.atL hcd hP263)) ?_
    rintro _ w272 ⟨A266, c267, vs268, ft271, rfl, hT274, hf269⟩
    have hS273 : St _ _ w272 [poolE ft247 W248, rowE .i32 21 A59 c60 l56, rowE .u8 5 A163 c164 l169, rowG 35 4 (.slice A202 l201.length c203) l201.length vs204, rowG 35 4 (.slice A238 l237.length c239) l237.length vs240, rowG 35 4 (.slice A266 l265.length c267) l265.length vs268, poolE ft271 w272] := hS249.take _ hT274
    obtain ⟨ft275, W276, hS277, hT278, hU279⟩ := hS273.merge 6 0 rfl rfl (by decide)
    have hS277 : St _ _ w272 [poolE ft275 W276, rowE .i32 21 A59 c60 l56, rowE .u8 5 A163 c164 l169, rowG 35 4 (.slice A202 l201.length c203) l201.length vs204, rowG 35 4 (.slice A238 l237.length c239) l237.length vs240, rowG 35 4 (.slice A266 l265.length c267) l265.length vs268] := hS277
    have hT278 : Turn [] w0 W248 ft247 W276 ft275 := hT278
    have hf282 : (fEach encitemiseRun vs268 l265).rd W276 ft275 := hU279 _ hf269
    refine gx_kA (.tuple #[.slice A266 l265.length c267, .int .i64 x270]) w272 (gx_kA (.slice A266 l265.length c267) w272 (gx_kA (.int .i64 x270) w272 (gx_kA (.slice A266 l265.length c267) w272 (gx_kA (.int .i64 x270) w272 ?_))))
    refine gx_nil ?_
    refine gx_thenN ?_
    refine hK256 _ _ ?_
    obtain ⟨c286, hE287, hO288⟩ := bind_in hO172
    refine gx_cut (fun a w => selfA (fun u285 => ⟨((u99 0) :: (u285 1) :: (.int .u8 p2) :: un 3 (dd u285 6 2 ((.int .i64 ((l45.length : Nat) : Int)) :: dd u99 9 3 ((u285 12) :: (u167 13) :: (.slice A202 l201.length c203) :: (.int .i64 x206) :: (.slice A238 l237.length c239) :: (.int .i64 x242) :: (.slice A266 l265.length c267) :: (.int .i64 x270) :: undef :: undef :: dd u5 22 9 ((.slice none 0 0) :: dd u99 32 6 ((.int .i64 ((l45.length : Nat) : Int)) :: dd u99 39 6 ((.int .i64 ((l45.length : Nat) : Int)) :: dd u99 46 40 ((u167 86) :: (.int .i64 ((l56.length : Nat) : Int)) :: dd u167 88 11 (dd u285 99 5 ((.int .i64 x206) :: dd u285 105 2 ((.int .i64 ((l45.length : Nat) : Int)) :: dd u285 108 2 ((.int .i64 ((l45.length : Nat) : Int)) :: dd u285 111 3 ((.int .i64 x242) :: dd u285 115 3 ((.int .i64 ((l45.length : Nat) : Int)) :: dd u285 119 3 ((.int .i64 x270) :: dd u285 123 20 (un 49 ([]))))))))))))))))).toArray, []⟩) a ∧ Ctl.go () = c286 ∧ St [] w0 w [poolE ft275 W276, rowG 35 4 (.slice A202 l201.length c203) l201.length vs204, rowG 35 4 (.slice A238 l237.length c239) l237.length vs240, rowG 35 4 (.slice A266 l265.length c267) l265.length vs268]) ?_ ?_
    ·refine gx_seq (fun K289 hK290 => ?_)
     refine gx_region ?_
     refine gx_kA (.int .i64 x206) w272 ?_
     obtain ⟨c295, hE296, hO297⟩ := bind_in hE287
     refine gx_part (l1 := [_, _, _, _, _]) (fun a w => ∃ (b294 : Bool), selfA (fun u293 => ⟨((u99 0) :: (u293 1) :: (.int .u8 p2) :: un 3 ((u99 6) :: (u293 7) :: (.int .i64 ((l45.length : Nat) : Int)) :: dd u99 9 3 ((u293 12) :: (u167 13) :: (.slice A202 l201.length c203) :: (.int .i64 x206) :: (.slice A238 l237.length c239) :: (.int .i64 x242) :: (.slice A266 l265.length c267) :: (.int .i64 x270) :: undef :: undef :: dd u5 22 9 ((.slice none 0 0) :: dd u99 32 6 ((.int .i64 ((l45.length : Nat) : Int)) :: dd u99 39 6 ((.int .i64 ((l45.length : Nat) : Int)) :: dd u99 46 40 ((u167 86) :: (.int .i64 ((l56.length : Nat) : Int)) :: dd u167 88 11 (dd u293 99 5 ((.int .i64 x206) :: dd u293 105 2 ((.int .i64 ((l45.length : Nat) : Int)) :: dd u293 108 2 ((.int .i64 ((l45.length : Nat) : Int)) :: dd u293 111 3 ((.int .i64 x242) :: dd u293 115 3 ((.int .i64 ((l45.length : Nat) : Int)) :: dd u293 119 3 ((.int .i64 x270) :: (.int .i64 x206) :: dd u293 124 4 ((.bool b294) :: un 63 ([])))))))))))))))).toArray, []⟩) a ∧ b294 = c295 ∧ St [] w0 w [poolE ft275 W276, rowG 35 4 (.slice A202 l201.length c203) l201.length vs204, rowG 35 4 (.slice A238 l237.length c239) l237.length vs240, rowG 35 4 (.slice A266 l265.length c267) l265.length vs268]) rfl ?_ ?_
     ·rcases if_in hE296 with ⟨h299, hE296⟩ | ⟨h299, hE296⟩
      ·refine gx_vA (.bool true) w272 (run_boolE (ne_yes h299) (by as_aux_lemma => kernel_rfl)) ?_
       refine gx_kA (.bool true) w272 (gx_oA (gx_oA (gx_kA (.bool true) w272 ?_)))
       refine gx_nil ?_
       refine gx_thenN ?_
       exact ⟨true, selfA_i (by as_aux_lemma => kernel_rfl), (Option.some.inj hE296), (hS277.pick [0, 3, 4, 5] rfl rfl)⟩
      ·refine gx_vA (.bool false) w272 (run_boolE (ne_no h299) (by as_aux_lemma => kernel_rfl)) ?_
       refine gx_kA (.bool false) w272 (gx_kA (.int .i64 x242) w272 ?_)
       rcases if_in hE296 with ⟨h300, hE296⟩ | ⟨h300, hE296⟩
       ·refine gx_vA (.bool true) w272 (run_boolE (ne_yes h300) (by as_aux_lemma => kernel_rfl)) ?_
        refine gx_kA (.bool true) w272 ?_
        refine gx_nil ?_
        refine gx_thenN ?_
        exact ⟨true, selfA_i (by as_aux_lemma => kernel_rfl), (Option.some.inj hE296), (hS277.pick [0, 3, 4, 5] rfl rfl)⟩
       ·refine gx_vA (.bool false) w272 (run_boolE (ne_no h300) (by as_aux_lemma => kernel_rfl)) ?_
        refine gx_kA (.bool false) w272 ?_
        refine gx_nil ?_
        refine gx_thenN ?_
        exact ⟨false, selfA_i (by as_aux_lemma => kernel_rfl), (Option.some.inj hE296), (hS277.pick [0, 3, 4, 5] rfl rfl)⟩
     ·rintro _ w291 ⟨b294, hq298, rfl, hS292⟩
      obtain ⟨u293, rfl⟩ := selfA_u hq298
      try dsimp only at hO297
      obtain ⟨c305, hE306, hO307⟩ := bind_in hO297
      refine gx_part (l1 := [_, _, _, _]) (fun a w => ∃ (b304 : Bool), selfA (fun u303 => ⟨((u99 0) :: (u293 1) :: (.int .u8 p2) :: un 3 ((u99 6) :: (u293 7) :: (.int .i64 ((l45.length : Nat) : Int)) :: dd u99 9 3 ((u293 12) :: (u167 13) :: (.slice A202 l201.length c203) :: (.int .i64 x206) :: (.slice A238 l237.length c239) :: (.int .i64 x242) :: (.slice A266 l265.length c267) :: (.int .i64 x270) :: undef :: undef :: dd u5 22 9 ((.slice none 0 0) :: dd u99 32 6 ((.int .i64 ((l45.length : Nat) : Int)) :: dd u99 39 6 ((.int .i64 ((l45.length : Nat) : Int)) :: dd u99 46 40 ((u167 86) :: (.int .i64 ((l56.length : Nat) : Int)) :: dd u167 88 11 (dd u293 99 5 ((.int .i64 x206) :: dd u293 105 2 ((.int .i64 ((l45.length : Nat) : Int)) :: dd u293 108 2 ((.int .i64 ((l45.length : Nat) : Int)) :: dd u293 111 3 ((.int .i64 x242) :: dd u293 115 3 ((.int .i64 ((l45.length : Nat) : Int)) :: dd u293 119 3 ((.int .i64 x270) :: (.int .i64 x206) :: dd u293 124 4 ((.bool b294) :: dd u303 129 3 ((.bool b304) :: un 59 ([]))))))))))))))))).toArray, []⟩) a ∧ b304 = c305 ∧ St [] w0 w [poolE ft275 W276, rowG 35 4 (.slice A202 l201.length c203) l201.length vs204, rowG 35 4 (.slice A238 l237.length c239) l237.length vs240, rowG 35 4 (.slice A266 l265.length c267) l265.length vs268]) rfl ?_ ?_
      ·refine gx_kA (.bool b294) w291 ?_
       cases b294 with
       | true =>
        try dsimp only at hE306
        refine gx_oA (gx_oA (gx_kA (.bool true) w291 ?_))
        refine gx_nil ?_
        refine gx_thenN ?_
        exact ⟨true, selfA_i (by as_aux_lemma => kernel_rfl), (Option.some.inj hE306), hS292⟩
       | false =>
        try dsimp only at hE306
        refine gx_kA (.int .i64 x270) w291 ?_
        rcases if_in hE306 with ⟨h309, hE306⟩ | ⟨h309, hE306⟩
        ·refine gx_vA (.bool true) w291 (run_boolE (ne_yes h309) (by as_aux_lemma => kernel_rfl)) ?_
         refine gx_kA (.bool true) w291 ?_
         refine gx_nil ?_
         refine gx_thenN ?_
         exact ⟨true, selfA_i (by as_aux_lemma => kernel_rfl), (Option.some.inj hE306), hS292⟩
        ·refine gx_vA (.bool false) w291 (run_boolE (ne_no h309) (by as_aux_lemma => kernel_rfl)) ?_
         refine gx_kA (.bool false) w291 ?_
         refine gx_nil ?_
         refine gx_thenN ?_
         exact ⟨false, selfA_i (by as_aux_lemma => kernel_rfl), (Option.some.inj hE306), hS292⟩
      ·rintro _ w301 ⟨b304, hq308, rfl, hS302⟩
       obtain ⟨u303, rfl⟩ := selfA_u hq308
       try dsimp only at hO307
       refine gx_kA (.bool b304) w301 ?_
       cases b304 with
       | true =>
        try dsimp only at hO307
        refine gx_oA (gx_oA (gx_oA (gx_oA (gx_oA (gx_oA (gx_oA (gx_oA ?_)))))))
        refine gx_kA (.bool true) w301 ?_
        refine gx_nil ?_
        refine gx_thenN ?_
        refine hK290 _ _ ?_
        refine gx_yes (by as_aux_lemma => kernel_rfl) ?_
        refine gx_seq (fun K310 hK311 => ?_)
        refine gx_region ?_
        refine gx_kA (.bool false) w301 ?_
        refine gx_nil ?_
        refine gx_thenN ?_
        refine hK311 _ _ ?_
        refine gx_ret ?_
        refine gx_thenR ?_
        obtain rfl := Option.some.inj hO307
        try dsimp only at hO288
        obtain rfl := Option.some.inj hO288
        exact gx_fin (.bool false) (by as_aux_lemma => kernel_rfl) (by as_aux_lemma => kernel_rfl) ⟨_, rfl, rfl, (hS302.pick [] rfl rfl)⟩
       | false =>
        try dsimp only at hO307
        refine gx_kA (.slice A202 l201.length c203) w301 (gx_kA (.int .i64 ((l201.length : Nat) : Int)) w301 (gx_kA (.slice A238 l237.length c239) w301 (gx_kA (.int .i64 ((l237.length : Nat) : Int)) w301 (gx_kA (.slice A266 l265.length c267) w301 (gx_kA (.int .i64 ((l265.length : Nat) : Int)) w301 (gx_kA (.int .i64 (IntKind.i64.wrap (((l237.length : Nat) : Int) + ((l265.length : Nat) : Int)))) w301 ?_))))))
        rcases if_in hO307 with ⟨h312, hO307⟩ | ⟨h312, hO307⟩
        ·refine gx_vA (.bool true) w301 (run_boolE (ne_yes h312) (by as_aux_lemma => kernel_rfl)) ?_
         refine gx_kA (.bool true) w301 ?_
         refine gx_nil ?_
         refine gx_thenN ?_
         refine hK290 _ _ ?_
         refine gx_yes (by as_aux_lemma => kernel_rfl) ?_
         refine gx_seq (fun K313 hK314 => ?_)
         refine gx_region ?_
         refine gx_kA (.bool false) w301 ?_
         refine gx_nil ?_
         refine gx_thenN ?_
         refine hK314 _ _ ?_
         refine gx_ret ?_
         refine gx_thenR ?_
         obtain rfl := Option.some.inj hO307
         try dsimp only at hO288
         obtain rfl := Option.some.inj hO288
         exact gx_fin (.bool false) (by as_aux_lemma => kernel_rfl) (by as_aux_lemma => kernel_rfl) ⟨_, rfl, rfl, (hS302.pick [] rfl rfl)⟩
        ·refine gx_vA (.bool false) w301 (run_boolE (ne_no h312) (by as_aux_lemma => kernel_rfl)) ?_
         refine gx_kA (.bool false) w301 ?_
         refine gx_nil ?_
         refine gx_thenN ?_
         refine hK290 _ _ ?_
         refine gx_no (by as_aux_lemma => kernel_rfl) ?_
         refine gx_pass ?_
         refine gx_thenN ?_
         exact ⟨selfA_i (by as_aux_lemma => kernel_rfl), (Option.some.inj hO307), hS302⟩
    ·rintro _ w283 ⟨hq471, rfl, hS284⟩
     obtain ⟨u285, rfl⟩ := selfA_u hq471
     try dsimp only at hO288
     obtain ⟨c318, hE319, hO320⟩ := bind_in hO288
     refine gx_cut (fun a w => selfA (fun u317 => ⟨((u99 0) :: (u285 1) :: (.int .u8 p2) :: un 3 ((u317 6) :: (u285 7) :: (.int .i64 ((l45.length : Nat) : Int)) :: dd u99 9 3 ((u285 12) :: (u167 13) :: (u317 14) :: (.int .i64 x206) :: (u317 16) :: (.int .i64 x242) :: (u317 18) :: (.int .i64 x270) :: dd u317 20 2 (dd u5 22 9 ((.slice none 0 0) :: dd u99 32 6 ((.int .i64 ((l45.length : Nat) : Int)) :: dd u99 39 6 ((.int .i64 ((l45.length : Nat) : Int)) :: dd u99 46 40 ((u167 86) :: (.int .i64 ((l56.length : Nat) : Int)) :: dd u167 88 11 (dd u285 99 5 ((.int .i64 x206) :: dd u285 105 2 ((.int .i64 ((l45.length : Nat) : Int)) :: dd u285 108 2 ((.int .i64 ((l45.length : Nat) : Int)) :: dd u285 111 3 ((.int .i64 x242) :: dd u285 115 3 ((.int .i64 ((l45.length : Nat) : Int)) :: dd u285 119 3 ((.int .i64 x270) :: dd u285 123 20 (dd u317 143 48 (undef :: []))))))))))))))))).toArray, []⟩) a ∧ Ctl.go () = c318 ∧ St [] w0 w [poolE ft275 W276]) ?_ ?_
     ·refine gx_seq (fun K321 hK322 => ?_)
      refine gx_region ?_
      refine gx_kA (.int .i64 0) w283 ?_
      refine gx_nil ?_
      refine gx_thenN ?_
      refine hK322 _ _ ?_
      refine gx_block ?_
      refine gx_loop (fun k a w => ∃ (x326 : Int), selfA (fun u325 => ⟨((u99 0) :: (u285 1) :: (.int .u8 p2) :: un 3 ((u325 6) :: (u285 7) :: (.int .i64 ((l45.length : Nat) : Int)) :: dd u99 9 3 ((u285 12) :: (u167 13) :: (.slice A202 l201.length c203) :: (.int .i64 x206) :: (.slice A238 l237.length c239) :: (.int .i64 x242) :: (.slice A266 l265.length c267) :: (.int .i64 x270) :: (.int .i64 x326) :: (u325 21) :: dd u5 22 9 ((.slice none 0 0) :: dd u99 32 6 ((.int .i64 ((l45.length : Nat) : Int)) :: dd u99 39 6 ((.int .i64 ((l45.length : Nat) : Int)) :: dd u99 46 40 ((u167 86) :: (.int .i64 ((l56.length : Nat) : Int)) :: dd u167 88 11 (dd u285 99 5 ((.int .i64 x206) :: dd u285 105 2 ((.int .i64 ((l45.length : Nat) : Int)) :: dd u285 108 2 ((.int .i64 ((l45.length : Nat) : Int)) :: dd u285 111 3 ((.int .i64 x242) :: dd u285 115 3 ((.int .i64 ((l45.length : Nat) : Int)) :: dd u285 119 3 ((.int .i64 x270) :: dd u285 123 20 (dd u325 143 48 (undef :: [])))))))))))))))).toArray, []⟩) a ∧ fParts_L2 N l45 l201 l237 l265 k x326 = some c318 ∧ St [] w0 w [poolE ft275 W276, rowG 35 4 (.slice A202 l201.length c203) l201.length vs204, rowG 35 4 (.slice A238 l237.length c239) l237.length vs240, rowG 35 4 (.slice A266 l265.length c267) l265.length vs268]) N ?_ ?_
      ·exact ⟨0, selfA_i (by as_aux_lemma => kernel_rfl), hE319, hS284⟩
      ·rintro k327 _ w323 ⟨x326, hq461, hL328, hS324⟩
       obtain ⟨u325, rfl⟩ := selfA_u hq461
       cases k327 with
       | zero => cases hL328
       | succ k327 =>
        first | rw [fParts_L2] at hL328 | unfold fParts_L2 at hL328
        refine gx_seq (fun K329 hK330 => ?_)
        refine gx_seq (fun K331 hK332 => ?_)
        refine gx_region ?_
        refine gx_kA (.int .i64 x326) w323 (gx_kA (.slice A202 l201.length c203) w323 (gx_kA (.int .i64 ((l201.length : Nat) : Int)) w323 ?_))
        rcases if_in hL328 with ⟨h333, hL328⟩ | ⟨h333, hL328⟩
        ·refine gx_vA (.bool true) w323 (run_boolE (decide_eq_true h333) (by as_aux_lemma => kernel_rfl)) ?_
         refine gx_nil ?_
         refine gx_thenN ?_
         refine hK332 _ _ ?_
         refine gx_yes (by as_aux_lemma => kernel_rfl) ?_
         refine gx_pass ?_
         refine gx_thenN ?_
         refine hK330 _ _ ?_
         refine gx_seq (fun K334 hK335 => ?_)
         refine gx_block ?_
         obtain ⟨c339, hE340, hO341⟩ := bind_in hL328
         refine gx_cut (fun a w => selfA (fun u338 => ⟨((u99 0) :: (u285 1) :: (.int .u8 p2) :: un 3 ((u338 6) :: (u285 7) :: (.int .i64 ((l45.length : Nat) : Int)) :: dd u99 9 3 ((u285 12) :: (u167 13) :: (.slice A202 l201.length c203) :: (.int .i64 x206) :: (.slice A238 l237.length c239) :: (.int .i64 x242) :: (.slice A266 l265.length c267) :: (.int .i64 x270) :: (.int .i64 x326) :: (u325 21) :: dd u5 22 9 ((.slice none 0 0) :: dd u99 32 6 ((.int .i64 ((l45.length : Nat) : Int)) :: dd u99 39 6 ((.int .i64 ((l45.length : Nat) : Int)) :: dd u99 46 40 ((u167 86) :: (.int .i64 ((l56.length : Nat) : Int)) :: dd u167 88 11 (dd u285 99 5 ((.int .i64 x206) :: dd u285 105 2 ((.int .i64 ((l45.length : Nat) : Int)) :: dd u285 108 2 ((.int .i64 ((l45.length : Nat) : Int)) :: dd u285 111 3 ((.int .i64 x242) :: dd u285 115 3 ((.int .i64 ((l45.length : Nat) : Int)) :: dd u285 119 3 ((.int .i64 x270) :: dd u285 123 20 ((.int .i64 x326) :: (u338 144) :: (.int .i64 ((l201.length : Nat) : Int)) :: (.bool true) :: dd u325 147 2 (dd u338 149 15 (dd u325 164 27 (undef :: [])))))))))))))))))).toArray, []⟩) a ∧ Ctl.go () = c339 ∧ St [] w0 w [poolE ft275 W276, rowG 35 4 (.slice A202 l201.length c203) l201.length vs204, rowG 35 4 (.slice A238 l237.length c239) l237.length vs240, rowG 35 4 (.slice A266 l265.length c267) l265.length vs268]) ?_ ?_
         ·refine gx_seq (fun K342 hK343 => ?_)
          refine gd_start (fun w => St [] w0 w [poolE ft275 W276, rowG 35 4 (.slice A202 l201.length c203) l201.length vs204, rowG 35 4 (.slice A238 l237.length c239) l237.length vs240, rowG 35 4 (.slice A266 l265.length c267) l265.length vs268]) 15 #[false, false, false, false, false, false, false, false, false, false, false, false, false, false, false] (by as_aux_lemma => kernel_rfl) (by as_aux_lemma => kernel_rfl) ?_
          have hS345 := hS324.drew
          generalize w323.drew = w344 at hS345 ⊢
          refine gv1 0 149 (.int .i64 x326) rfl hS345 ?_
          refine gv1 1 150 (.slice A238 l237.length c239) rfl hS345 ?_
          refine gv1 2 151 (.int .i64 ((l237.length : Nat) : Int)) rfl hS345 ?_
          rcases if_in hE340 with ⟨h346, hE340⟩ | ⟨h346, hE340⟩
          ·refine gu1 3 152 (.bool true) rfl hS345 (fun w hSw => run_boolE (decide_eq_true h346) (by as_aux_lemma => kernel_rfl)) ?_
           refine gv1 4 153 (.bool true) rfl hS345 ?_
           refine gv1 5 154 (.slice A202 l201.length c203) rfl hS345 ?_
           refine gv1 6 155 (.int .i64 x326) rfl hS345 ?_
           obtain ⟨x347, hx348, hE340⟩ := bind_in hE340
           obtain ⟨g349, o350, e351, hA352, he353, h354, ha355⟩ := elem_at (e := encitemiseRun) (rowG_lies (e := encitemiseRun) rfl (hS345.get 1 rfl)) (hT278.pool (hT250.pool hf218)) hx348 (by decide)
           obtain ⟨e356, e357, rfl, h358, h359⟩ := h354
           obtain rfl := h358
           obtain ⟨e360, e361, rfl, h362, h363⟩ := h359
           obtain rfl := h362
           obtain ⟨e364, e365, rfl, h366, h367⟩ := h363
           obtain rfl := h366
           obtain rfl := h367
           have ha355 : ∀ w', Lies w' A202 vs204 → w'.rangeAt g349 o350 [.int .i64 x347.1, .int .i64 x347.2.1, .int .u8 x347.2.2.1, .int .u8 x347.2.2.2] := ha355
           refine gu1 7 156 (.pointer (some ⟨g349, o350, none⟩)) rfl hS345 (fun w hSw => run_ixaddrN (E := 35) (s := 4) (k := .i64) (c := c203) rfl (by as_aux_lemma => kernel_rfl) (by as_aux_lemma => kernel_rfl) (by as_aux_lemma => kernel_rfl) (fun _ => by kernel_rfl) (ixg_in hx348).1 (ixg_in hx348).2.1 hA352) ?_
           refine gu1 8 157 (.agg #[.int .i64 x347.1, .int .i64 x347.2.1, .int .u8 x347.2.2.1, .int .u8 x347.2.2.2]) rfl hS345 (fun w hSw => run_loadNG (d := _) (ec := [.int .i64 x347.1, .int .i64 x347.2.1, .int .u8 x347.2.2.1, .int .u8 x347.2.2.2]) rfl (by as_aux_lemma => kernel_rfl) (ha355 _ (rowG_lies (e := encitemiseRun) rfl (hSw.get 1 rfl))) rfl rfl (by as_aux_lemma => kernel_rfl)) ?_
           refine gv1 9 158 (.slice A238 l237.length c239) rfl hS345 ?_
           refine gv1 10 159 (.int .i64 x326) rfl hS345 ?_
           obtain ⟨x368, hx369, hE340⟩ := bind_in hE340
           obtain ⟨g370, o371, e372, hA373, he374, h375, ha376⟩ := elem_at (e := encitemiseRun) (rowG_lies (e := encitemiseRun) rfl (hS345.get 2 rfl)) (hT278.pool hf254) hx369 (by decide)
           obtain ⟨e377, e378, rfl, h379, h380⟩ := h375
           obtain rfl := h379
           obtain ⟨e381, e382, rfl, h383, h384⟩ := h380
           obtain rfl := h383
           obtain ⟨e385, e386, rfl, h387, h388⟩ := h384
           obtain rfl := h387
           obtain rfl := h388
           have ha376 : ∀ w', Lies w' A238 vs240 → w'.rangeAt g370 o371 [.int .i64 x368.1, .int .i64 x368.2.1, .int .u8 x368.2.2.1, .int .u8 x368.2.2.2] := ha376
           refine gu1 11 160 (.pointer (some ⟨g370, o371, none⟩)) rfl hS345 (fun w hSw => run_ixaddrN (E := 35) (s := 4) (k := .i64) (c := c239) rfl (by as_aux_lemma => kernel_rfl) (by as_aux_lemma => kernel_rfl) (by as_aux_lemma => kernel_rfl) (fun _ => by kernel_rfl) (ixg_in hx369).1 (ixg_in hx369).2.1 hA373) ?_
           refine gu1 12 161 (.agg #[.int .i64 x368.1, .int .i64 x368.2.1, .int .u8 x368.2.2.1, .int .u8 x368.2.2.2]) rfl hS345 (fun w hSw => run_loadNG (d := _) (ec := [.int .i64 x368.1, .int .i64 x368.2.1, .int .u8 x368.2.2.1, .int .u8 x368.2.2.2]) rfl (by as_aux_lemma => kernel_rfl) (ha376 _ (rowG_lies (e := encitemiseRun) rfl (hSw.get 2 rfl))) rfl rfl (by as_aux_lemma => kernel_rfl)) ?_
           obtain ⟨b389, h390, hE340⟩ := bind_in hE340
           refine gu1 13 162 (.bool b389) rfl hS345 (fun w hSw => run_eqS (l := [(.i64, x347.1), (.i64, x347.2.1), (.u8, x347.2.2.1), (.u8, x347.2.2.2)]) (m := [(.i64, x368.1), (.i64, x368.2.1), (.u8, x368.2.2.1), (.u8, x368.2.2.2)]) true rfl (by as_aux_lemma => kernel_rfl) (by as_aux_lemma => kernel_rfl) (by as_aux_lemma => kernel_rfl) (by as_aux_lemma => kernel_rfl) (by as_aux_lemma => kernel_rfl) (by as_aux_lemma => kernel_rfl) rfl (by as_aux_lemma => kernel_rfl) h390) ?_
           refine gv1 14 163 (.bool b389) rfl hS345 ?_
           refine gd_done (by as_aux_lemma => kernel_rfl) ?_
           refine gx_thenN ?_
           refine hK343 _ _ ?_
           cases b389 with
           | true =>
            try dsimp only at hE340
            refine gx_yes (by as_aux_lemma => kernel_rfl) ?_
            refine gx_seq (fun K391 hK392 => ?_)
            refine gx_region ?_
            refine gx_kA (.bool false) w344 ?_
            refine gx_nil ?_
            refine gx_thenN ?_
            refine hK392 _ _ ?_
            refine gx_ret ?_
            refine gx_thenR ?_
            obtain rfl := Option.some.inj hE340
            try dsimp only at hO341
            refine gx_blkR ?_
            refine gx_thenR ?_
            refine gx_thenR ?_
            refine gx_blkR ?_
            refine gx_thenR ?_
            obtain rfl := Option.some.inj hO341
            try dsimp only at hO320
            obtain rfl := Option.some.inj hO320
            exact gx_fin (.bool false) (by as_aux_lemma => kernel_rfl) (by as_aux_lemma => kernel_rfl) ⟨_, rfl, rfl, (hS345.pick [] rfl rfl)⟩
           | false =>
            try dsimp only at hE340
            refine gx_no (by as_aux_lemma => kernel_rfl) ?_
            refine gx_pass ?_
            refine gx_thenN ?_
            exact ⟨selfA_i (by as_aux_lemma => kernel_rfl), (Option.some.inj hE340), hS345⟩
          ·refine gu1 3 152 (.bool false) rfl hS345 (fun w hSw => run_boolE (decide_eq_false h346) (by as_aux_lemma => kernel_rfl)) ?_
           refine gv1 4 153 (.bool false) rfl hS345 ?_
           refine gz1 5 154 rfl hS345 ?_
           refine gz1 6 155 rfl hS345 ?_
           refine gz1 7 156 rfl hS345 ?_
           refine gz1 8 157 rfl hS345 ?_
           refine gz1 9 158 rfl hS345 ?_
           refine gz1 10 159 rfl hS345 ?_
           refine gz1 11 160 rfl hS345 ?_
           refine gz1 12 161 rfl hS345 ?_
           refine gz1 13 162 rfl hS345 ?_
           refine gv1 14 163 (.bool false) rfl hS345 ?_
           refine gd_done (by as_aux_lemma => kernel_rfl) ?_
           refine gx_thenN ?_
           refine hK343 _ _ ?_
           refine gx_no (by as_aux_lemma => kernel_rfl) ?_
           refine gx_pass ?_
           refine gx_thenN ?_
           exact ⟨selfA_i (by as_aux_lemma => kernel_rfl), (Option.some.inj hE340), hS345⟩
         ·rintro _ w336 ⟨hq460, rfl, hS337⟩
          obtain ⟨u338, rfl⟩ := selfA_u hq460
          try dsimp only at hO341
          refine gx_seq (fun K393 hK394 => ?_)
          refine gx_region ?_
          refine gx_kA (.int .i64 x326) w336 (gx_kA (.slice A238 l237.length c239) w336 (gx_kA (.int .i64 ((l237.length : Nat) : Int)) w336 ?_))
          rcases if_in hO341 with ⟨h395, hO341⟩ | ⟨h395, hO341⟩
          ·refine gx_vA (.bool true) w336 (run_boolE (decide_eq_true h395) (by as_aux_lemma => kernel_rfl)) ?_
           refine gx_nil ?_
           refine gx_thenN ?_
           refine hK394 _ _ ?_
           refine gx_yes (by as_aux_lemma => kernel_rfl) ?_
           refine gx_seq (fun K396 hK397 => ?_)
           refine gx_region ?_
           refine gx_kA (.slice A266 l265.length c267) w336 (gx_kA (.int .i64 x326) w336 (gx_kA (.slice A238 l237.length c239) w336 (gx_kA (.int .i64 ((l237.length : Nat) : Int)) w336 (gx_kA (.int .i64 (IntKind.i64.wrap (x326 - ((l237.length : Nat) : Int)))) w336 ?_))))
           obtain ⟨x398, hx399, hO341⟩ := bind_in hO341
           obtain ⟨g400, o401, e402, hA403, he404, h405, ha406⟩ := elem_at (e := encitemiseRun) (rowG_lies (e := encitemiseRun) rfl (hS337.get 3 rfl)) hf282 hx399 (by decide)
           obtain ⟨e407, e408, rfl, h409, h410⟩ := h405
           obtain rfl := h409
           obtain ⟨e411, e412, rfl, h413, h414⟩ := h410
           obtain rfl := h413
           obtain ⟨e415, e416, rfl, h417, h418⟩ := h414
           obtain rfl := h417
           obtain rfl := h418
           have ha406 : ∀ w', Lies w' A266 vs268 → w'.rangeAt g400 o401 [.int .i64 x398.1, .int .i64 x398.2.1, .int .u8 x398.2.2.1, .int .u8 x398.2.2.2] := ha406
           refine gx_vA (.pointer (some ⟨g400, o401, none⟩)) w336 (run_ixaddrN (E := 35) (s := 4) (k := .i64) (c := c267) rfl (by as_aux_lemma => kernel_rfl) (by as_aux_lemma => kernel_rfl) (by as_aux_lemma => kernel_rfl) (fun _ => by kernel_rfl) (ixg_in hx399).1 (ixg_in hx399).2.1 hA403) ?_
           refine gx_vA (.agg #[.int .i64 x398.1, .int .i64 x398.2.1, .int .u8 x398.2.2.1, .int .u8 x398.2.2.2]) w336 (run_loadNG (d := _) (ec := [.int .i64 x398.1, .int .i64 x398.2.1, .int .u8 x398.2.2.1, .int .u8 x398.2.2.2]) rfl (by as_aux_lemma => kernel_rfl) (ha406 _ (rowG_lies (e := encitemiseRun) rfl (hS337.get 3 rfl))) rfl rfl (by as_aux_lemma => kernel_rfl)) ?_
           refine gx_rA (st_boxed [.int .i64 0, .int .i64 0, .int .u8 0, .int .u8 0] 35 hS337 (by as_aux_lemma => kernel_rfl)) ?_
           rintro _ w419 ⟨rfl, hS420⟩
           have hS420 : St _ _ w419 [poolE ft275 W276, rowG 35 4 (.slice A202 l201.length c203) l201.length vs204, rowG 35 4 (.slice A238 l237.length c239) l237.length vs240, rowG 35 4 (.slice A266 l265.length c267) l265.length vs268, boxE w336.heap.size [.int .i64 0, .int .i64 0, .int .u8 0, .int .u8 0] 35] := hS420
           refine gx_sA (st_storeG (cs := [.int .i64 0, .int .i64 0, .int .u8 0, .int .u8 0]) (ds := [.int .i64 x398.1, .int .i64 x398.2.1, .int .u8 x398.2.2.1, .int .u8 x398.2.2.2]) rfl (by as_aux_lemma => kernel_rfl) (by as_aux_lemma => kernel_rfl) (by as_aux_lemma => kernel_rfl) rfl rfl hS420 4 rfl) ?_
           rintro w421 hS422
           have hS422 : St _ _ w421 [poolE ft275 W276, rowG 35 4 (.slice A202 l201.length c203) l201.length vs204, rowG 35 4 (.slice A238 l237.length c239) l237.length vs240, rowG 35 4 (.slice A266 l265.length c267) l265.length vs268, boxE w336.heap.size [.int .i64 x398.1, .int .i64 x398.2.1, .int .u8 x398.2.2.1, .int .u8 x398.2.2.2] 35] := hS422
           refine gx_nil ?_
           refine gx_thenN ?_
           refine hK397 _ _ ?_
           refine gx_seq (fun K423 hK424 => ?_)
           refine gx_region ?_
           refine gx_kA (.pointer (some ⟨w336.heap.size, 0, none⟩)) w421 ?_
           refine gx_vA (.int .i64 x398.1) w421 (run_load1 rfl (by as_aux_lemma => kernel_rfl) (fun _ => by kernel_rfl) (hS422.box 4 rfl 0 rfl)) ?_
           refine gx_kA (.int .i64 ((l45.length : Nat) : Int)) w421 (gx_kA (.int .i64 (IntKind.i64.wrap (x398.1 + ((l45.length : Nat) : Int)))) w421 (gx_kA (.pointer (some ⟨w336.heap.size, 0, none⟩)) w421 ?_))
           refine gx_sA (st_store (j := 0) (v := (.int .i64 (IntKind.i64.wrap (x398.1 + ((l45.length : Nat) : Int))))) rfl (by as_aux_lemma => kernel_rfl) (by as_aux_lemma => kernel_rfl) rfl (fun _ => by kernel_rfl) hS422 4 rfl (by show 0 < 4; decide)) ?_
           rintro w425 hS426
           have hS426 : St _ _ w425 [poolE ft275 W276, rowG 35 4 (.slice A202 l201.length c203) l201.length vs204, rowG 35 4 (.slice A238 l237.length c239) l237.length vs240, rowG 35 4 (.slice A266 l265.length c267) l265.length vs268, boxE w336.heap.size [.int .i64 (IntKind.i64.wrap (x398.1 + ((l45.length : Nat) : Int))), .int .i64 x398.2.1, .int .u8 x398.2.2.1, .int .u8 x398.2.2.2] 35] := hS426
           refine gx_nil ?_
           refine gx_thenN ?_
           refine hK424 _ _ ?_
           refine gx_seq (fun K427 hK428 => ?_)
           refine gx_region ?_
           refine gx_kA (.pointer (some ⟨w336.heap.size, 1, none⟩)) w425 ?_
           refine gx_vA (.int .i64 x398.2.1) w425 (run_load1 rfl (by as_aux_lemma => kernel_rfl) (fun _ => by kernel_rfl) (hS426.box 4 rfl 1 rfl)) ?_
           refine gx_kA (.int .i64 ((l45.length : Nat) : Int)) w425 (gx_kA (.int .i64 (IntKind.i64.wrap (x398.2.1 + ((l45.length : Nat) : Int)))) w425 (gx_kA (.pointer (some ⟨w336.heap.size, 1, none⟩)) w425 ?_))
           refine gx_sA (st_store (j := 1) (v := (.int .i64 (IntKind.i64.wrap (x398.2.1 + ((l45.length : Nat) : Int))))) rfl (by as_aux_lemma => kernel_rfl) (by as_aux_lemma => kernel_rfl) rfl (fun _ => by kernel_rfl) hS426 4 rfl (by show 1 < 4; decide)) ?_
           rintro w429 hS430
           have hS430 : St _ _ w429 [poolE ft275 W276, rowG 35 4 (.slice A202 l201.length c203) l201.length vs204, rowG 35 4 (.slice A238 l237.length c239) l237.length vs240, rowG 35 4 (.slice A266 l265.length c267) l265.length vs268, boxE w336.heap.size [.int .i64 (IntKind.i64.wrap (x398.1 + ((l45.length : Nat) : Int))), .int .i64 (IntKind.i64.wrap (x398.2.1 + ((l45.length : Nat) : Int))), .int .u8 x398.2.2.1, .int .u8 x398.2.2.2] 35] := hS430
           refine gx_nil ?_
           refine gx_thenN ?_
           refine hK428 _ _ ?_
           refine gx_seq (fun K431 hK432 => ?_)
           refine gd_start (fun w => St [] w0 w [poolE ft275 W276, rowG 35 4 (.slice A202 l201.length c203) l201.length vs204, rowG 35 4 (.slice A238 l237.length c239) l237.length vs240, rowG 35 4 (.slice A266 l265.length c267) l265.length vs268, boxE w336.heap.size [.int .i64 (IntKind.i64.wrap (x398.1 + ((l45.length : Nat) : Int))), .int .i64 (IntKind.i64.wrap (x398.2.1 + ((l45.length : Nat) : Int))), .int .u8 x398.2.2.1, .int .u8 x398.2.2.2] 35]) 6 #[false, false, false, false, false, false] (by as_aux_lemma => kernel_rfl) (by as_aux_lemma => kernel_rfl) ?_
           have hS434 := hS430.drew
           generalize w429.drew = w433 at hS434 ⊢
           refine gv1 0 185 (.slice A202 l201.length c203) rfl hS434 ?_
           refine gv1 1 186 (.int .i64 x326) rfl hS434 ?_
           obtain ⟨x435, hx436, hO341⟩ := bind_in hO341
           obtain ⟨g437, o438, e439, hA440, he441, h442, ha443⟩ := elem_at (e := encitemiseRun) (rowG_lies (e := encitemiseRun) rfl (hS434.get 1 rfl)) (hT278.pool (hT250.pool hf218)) hx436 (by decide)
           obtain ⟨e444, e445, rfl, h446, h447⟩ := h442
           obtain rfl := h446
           obtain ⟨e448, e449, rfl, h450, h451⟩ := h447
           obtain rfl := h450
           obtain ⟨e452, e453, rfl, h454, h455⟩ := h451
           obtain rfl := h454
           obtain rfl := h455
           have ha443 : ∀ w', Lies w' A202 vs204 → w'.rangeAt g437 o438 [.int .i64 x435.1, .int .i64 x435.2.1, .int .u8 x435.2.2.1, .int .u8 x435.2.2.2] := ha443
           refine gu1 2 187 (.pointer (some ⟨g437, o438, none⟩)) rfl hS434 (fun w hSw => run_ixaddrN (E := 35) (s := 4) (k := .i64) (c := c203) rfl (by as_aux_lemma => kernel_rfl) (by as_aux_lemma => kernel_rfl) (by as_aux_lemma => kernel_rfl) (fun _ => by kernel_rfl) (ixg_in hx436).1 (ixg_in hx436).2.1 hA440) ?_
           refine gu1 3 188 (.agg #[.int .i64 x435.1, .int .i64 x435.2.1, .int .u8 x435.2.2.1, .int .u8 x435.2.2.2]) rfl hS434 (fun w hSw => run_loadNG (d := _) (ec := [.int .i64 x435.1, .int .i64 x435.2.1, .int .u8 x435.2.2.1, .int .u8 x435.2.2.2]) rfl (by as_aux_lemma => kernel_rfl) (ha443 _ (rowG_lies (e := encitemiseRun) rfl (hSw.get 1 rfl))) rfl rfl (by as_aux_lemma => kernel_rfl)) ?_
           refine gu1 4 189 (.agg #[.int .i64 (IntKind.i64.wrap (x398.1 + ((l45.length : Nat) : Int))), .int .i64 (IntKind.i64.wrap (x398.2.1 + ((l45.length : Nat) : Int))), .int .u8 x398.2.2.1, .int .u8 x398.2.2.2]) rfl hS434 (fun w hSw => run_loadG (d := _) rfl (by as_aux_lemma => kernel_rfl) (hSw.get 4 rfl) rfl rfl (by as_aux_lemma => kernel_rfl)) ?_
           obtain ⟨b456, h457, hO341⟩ := bind_in hO341
           refine gu1 5 190 (.bool b456) rfl hS434 (fun w hSw => run_eqS (l := [(.i64, x435.1), (.i64, x435.2.1), (.u8, x435.2.2.1), (.u8, x435.2.2.2)]) (m := [(.i64, (IntKind.i64.wrap (x398.1 + ((l45.length : Nat) : Int)))), (.i64, (IntKind.i64.wrap (x398.2.1 + ((l45.length : Nat) : Int)))), (.u8, x398.2.2.1), (.u8, x398.2.2.2)]) true rfl (by as_aux_lemma => kernel_rfl) (by as_aux_lemma => kernel_rfl) (by as_aux_lemma => kernel_rfl) (by as_aux_lemma => kernel_rfl) (by as_aux_lemma => kernel_rfl) (by as_aux_lemma => kernel_rfl) rfl (by as_aux_lemma => kernel_rfl) h457) ?_
           refine gd_done (by as_aux_lemma => kernel_rfl) ?_
           refine gx_thenN ?_
           refine hK432 _ _ ?_
           cases b456 with
           | true =>
            try dsimp only at hO341
            refine gx_yes (by as_aux_lemma => kernel_rfl) ?_
            refine gx_seq (fun K458 hK459 => ?_)
            refine gx_region ?_
            refine gx_kA (.bool false) w433 ?_
            refine gx_nil ?_
            refine gx_thenN ?_
            refine hK459 _ _ ?_
            refine gx_ret ?_
            refine gx_blkR ?_
            refine gx_thenR ?_
            refine gx_thenR ?_
            refine gx_blkR ?_
            refine gx_thenR ?_
            obtain rfl := Option.some.inj hO341
            try dsimp only at hO320
            obtain rfl := Option.some.inj hO320
            exact gx_fin (.bool false) (by as_aux_lemma => kernel_rfl) (by as_aux_lemma => kernel_rfl) ⟨_, rfl, rfl, (hS434.pick [] rfl rfl)⟩
           | false =>
            try dsimp only at hO341
            refine gx_no (by as_aux_lemma => kernel_rfl) ?_
            refine gx_pass ?_
            refine gx_blkN ?_
            refine gx_thenN ?_
            refine hK335 _ _ ?_
            refine gx_region ?_
            refine gx_kA (.int .i64 x326) w433 (gx_kA (.int .i64 (IntKind.i64.wrap (x326 + 1))) w433 (gx_kA (.int .i64 (IntKind.i64.wrap (x326 + 1))) w433 ?_))
            refine gx_nil ?_
            refine gx_thenN ?_
            exact ⟨k327, Nat.lt_succ_self k327, (IntKind.i64.wrap (x326 + 1)), selfA_i (by as_aux_lemma => kernel_rfl), hO341, (hS434.pick [0, 1, 2, 3] rfl rfl)⟩
          ·refine gx_vA (.bool false) w336 (run_boolE (decide_eq_false h395) (by as_aux_lemma => kernel_rfl)) ?_
           refine gx_nil ?_
           refine gx_thenN ?_
           refine hK394 _ _ ?_
           refine gx_no (by as_aux_lemma => kernel_rfl) ?_
           refine gx_pass ?_
           refine gx_blkN ?_
           refine gx_thenN ?_
           refine hK335 _ _ ?_
           refine gx_region ?_
           refine gx_kA (.int .i64 x326) w336 (gx_kA (.int .i64 (IntKind.i64.wrap (x326 + 1))) w336 (gx_kA (.int .i64 (IntKind.i64.wrap (x326 + 1))) w336 ?_))
           refine gx_nil ?_
           refine gx_thenN ?_
           exact ⟨k327, Nat.lt_succ_self k327, (IntKind.i64.wrap (x326 + 1)), selfA_i (by as_aux_lemma => kernel_rfl), hO341, hS337⟩
        ·refine gx_vA (.bool false) w323 (run_boolE (decide_eq_false h333) (by as_aux_lemma => kernel_rfl)) ?_
         refine gx_nil ?_
         refine gx_thenN ?_
         refine hK332 _ _ ?_
         refine gx_no (by as_aux_lemma => kernel_rfl) ?_
         refine gx_exit ?_
         refine gx_thenE ?_
         refine gx_thenE ?_
         refine gx_blkE ?_
         refine gx_thenN ?_
         exact ⟨selfA_i (by as_aux_lemma => kernel_rfl), (Option.some.inj hL328), (hS324.pick [0] rfl rfl)⟩
     ·rintro _ w315 ⟨hq470, rfl, hS316⟩
      obtain ⟨u317, rfl⟩ := selfA_u hq470
      try dsimp only at hO320
      refine gx_seq (fun K462 hK463 => ?_)
      refine gx_region ?_
      have hP464 : St _ _ w315 ([] ++ [poolE ft275 W276]) := hS316
      obtain ⟨b466, hc465, hO320⟩ := bind_in hO320
      try dsimp only at hO320
      refine gx_cA (kWorks_R b466 w315) (kWorks_ok N  _ hc465 w315 (MirB.atL hcd hP464)) ?_
      rintro _ w467 ⟨rfl, hT469⟩
      have hS468 : St _ _ w467 [poolE ft275 W276] := hS316.take _ hT469
      refine gx_kA (.bool b466) w467 ?_
      refine gx_nil ?_
      refine gx_thenN ?_
      refine hK463 _ _ ?_
      refine gx_ret ?_
      obtain rfl := Option.some.inj hO320
      exact gx_fin (.bool b466) (by as_aux_lemma => kernel_rfl) (by as_aux_lemma => kernel_rfl) ⟨_, rfl, rfl, (hS468.pick [] rfl rfl)⟩
end Go.Proofs.YtkcmemldhbifdaaDoor
