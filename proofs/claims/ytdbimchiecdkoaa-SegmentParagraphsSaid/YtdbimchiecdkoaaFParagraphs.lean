/-
  SegmentParagraphs, walked.
-/
import Derived.Test.YtdbimchiecdkoaaF0
namespace Go.Proofs.Ytdbimchiecdkoaa
open Go Go.RowKit
set_option linter.unusedVariables false
def fParagraphs_L1 (N : Nat) (p0 : List Int) (l76 : List Int) (l84 : List Int) : Nat → Int → Option (Ctl (Unit) (Bool))
 | 0, _ => none
 | k133+1, x132 => (if x132 < ((p0.length : Nat) : Int) then ((ix l76 x132).bind fun x146 => ((ix l84 x132).bind fun x148 => (if x146 ≠ x148 then some (Ctl.ret false) else fParagraphs_L1 N p0 l76 l84 k133 (IntKind.i64.wrap (x132 + 1))))) else some (Ctl.go ()))
def fParagraphs_L2 (N : Nat) (p0 : List Int) (p1 : List Int) (l76 : List Int) (l92 : List Int) : Nat → Int → Option (Ctl (Unit) (Bool))
 | 0, _ => none
 | k257+1, x256 => (if x256 ≤ ((p1.length : Nat) : Int) then ((ix l76 (IntKind.i64.wrap ((IntKind.i64.wrap (((p0.length : Nat) : Int) + 1)) + x256))).bind fun x270 => ((ix l92 x256).bind fun x272 => (if x270 ≠ x272 then some (Ctl.ret false) else fParagraphs_L2 N p0 p1 l76 l92 k257 (IntKind.i64.wrap (x256 + 1))))) else some (Ctl.go ()))
def fParagraphs (N : Nat) (p0 : List Int) (p1 : List Int) (p2 : Bool) : Option (Bool) :=
 (((if ((p0.length : Nat) : Int) > 200 then ((kWorks N ).bind fun b16 => some (Ctl.ret b16)) else (if ((p1.length : Nat) : Int) > 200 then ((kWorks N ).bind fun b25 => some (Ctl.ret b25)) else some (Ctl.go ()))) : Option (Ctl (Unit) (Bool))).bind fun | Ctl.go () => (((match p2 with | true => some (8233) | false => some (10)) : Option (Int)).bind fun x34 => ((apx ([]) p0).bind fun l45 => ((apx l45 ([x34])).bind fun l56 => ((apx l56 p1).bind fun l65 => ((pBreaks N l65).bind fun l76 => ((pBreaks N p0).bind fun l84 => ((pBreaks N p1).bind fun l92 => (((((if ((l76.length : Nat) : Int) ≠ (IntKind.i64.wrap (((l65.length : Nat) : Int) + 1)) then some (true) else (if ((l84.length : Nat) : Int) ≠ (IntKind.i64.wrap (((p0.length : Nat) : Int) + 1)) then some (true) else some (false))) : Option (Bool)).bind fun b109 => (match b109 with | true => some (Ctl.ret false) | false => (if ((l92.length : Nat) : Int) ≠ (IntKind.i64.wrap (((p1.length : Nat) : Int) + 1)) then some (Ctl.ret false) else some (Ctl.go ())))) : Option (Ctl (Unit) (Bool))).bind fun | Ctl.go () => ((fParagraphs_L1 N p0 l76 l84 N 0 : Option (Ctl (Unit) (Bool))).bind fun | Ctl.go () => (((((match p2 with | true => (if ((p0.length : Nat) : Int) > 0 then some (true) else some (false)) | false => some (false)) : Option (Bool)).bind fun b166 => (match b166 with | true => ((ix p0 (IntKind.i64.wrap (((p0.length : Nat) : Int) - 1))).bind fun x173 => ((ucBk N x173).bind fun x177 => (((if x177 = 1 then some (true) else (if x177 = 4 then some (true) else some (false))) : Option (Bool)).bind fun b186 => (match b186 with | true => some (2) | false => (if x177 = 3 then some (2) else (if x177 = 2 then some (2) else some (0))))))) | false => some (0))) : Option (Int)).bind fun x159 => (((((match p2 with | true => some (false) | false => (if ((p0.length : Nat) : Int) > 0 then some (true) else some (false))) : Option (Bool)).bind fun b206 => (match b206 with | true => ((ix p0 (IntKind.i64.wrap (((p0.length : Nat) : Int) - 1))).bind fun x213 => ((ucBk N x213).bind fun x217 => (if x217 = 1 then some (2) else (if x217 = 4 then some (2) else (if x217 = 3 then some (2) else some (x159)))))) | false => some (x159))) : Option (Int)).bind fun x199 => ((((ix l76 ((p0.length : Nat) : Int)).bind fun x235 => (if x235 ≠ x199 then some (Ctl.ret false) else ((ix l76 (IntKind.i64.wrap (((p0.length : Nat) : Int) + 1))).bind fun x240 => (if x240 ≠ 2 then some (Ctl.ret false) else some (Ctl.go ()))))) : Option (Ctl (Unit) (Bool))).bind fun | Ctl.go () => ((fParagraphs_L2 N p0 p1 l76 l92 N 1 : Option (Ctl (Unit) (Bool))).bind fun | Ctl.go () => ((kWorks N ).bind fun b282 => some b282) | Ctl.ret r => some r) | Ctl.ret r => some r))) | Ctl.ret r => some r) | Ctl.ret r => some r)))))))) | Ctl.ret r => some r)
set_option linter.unusedVariables false in
def fParagraphs_R (r : Bool) (w0 : World) (v : Value) (w : World) : Prop := v = .bool r ∧ St [] w0 w []
set_option maxRecDepth 100000 in
set_option maxHeartbeats 4000000 in
theorem fParagraphs_ok (N : Nat) (p0 : List Int) (p1 : List Int) (p2 : Bool) (A0 : Option Addr) (c0 : Nat) (A1 : Option Addr) (c1 : Nat) (r : Bool) (hF : fParagraphs N p0 p1 p2 = some r) (w0 : World) (hv0 : Vw [] .i32 w0 A0 c0 p0) (hv1 : Vw [] .i32 w0 A1 c1 p1) :
  Calls Try.prog 5 #[.slice A0 p0.length c0, .slice A1 p1.length c1, .bool p2] w0 fun e w => ∃ v, e = .returned v ∧ fParagraphs_R r w0 v w := by
 have hS0 := St.start w0
 unfold fParagraphs at hF
 refine calls_of Try.func5 rfl ⟨((.slice A0 p0.length c0) :: (.slice A1 p1.length c1) :: (.bool p2) :: un 164 ([])).toArray, []⟩ (by as_aux_lemma => kernel_rfl) ?_
 refine gx_seq (fun K1 hK2 => ?_)
 refine gx_region ?_
 refine gx_kA (.bool false) w0 ?_
 refine gx_nil ?_
 refine gx_thenN ?_
 refine hK2 _ _ ?_
 obtain ⟨c6, hE7, hO8⟩ := bind_in hF
 refine gx_cut (fun a w => selfA (fun u5 => ⟨((.slice A0 p0.length c0) :: (.slice A1 p1.length c1) :: (.bool p2) :: un 3 ((u5 6) :: un 10 (dd u5 17 9 (un 141 ([]))))).toArray, []⟩) a ∧ Ctl.go () = c6 ∧ St [] w0 w []) ?_ ?_
 ·refine gx_seq (fun K9 hK10 => ?_)
  refine gx_region ?_
  refine gx_kA (.slice A0 p0.length c0) w0 (gx_kA (.int .i64 ((p0.length : Nat) : Int)) w0 ?_)
  rcases if_in hE7 with ⟨h11, hE7⟩ | ⟨h11, hE7⟩
  ·refine gx_vA (.bool true) w0 (run_boolE (decide_eq_true h11) (by as_aux_lemma => kernel_rfl)) ?_
   refine gx_kA (.bool true) w0 (gx_oA (gx_oA (gx_oA (gx_kA (.bool true) w0 ?_))))
   refine gx_nil ?_
   refine gx_thenN ?_
   refine hK10 _ _ ?_
   refine gx_yes (by as_aux_lemma => kernel_rfl) ?_
   refine gx_seq (fun K12 hK13 => ?_)
   refine gx_region ?_
   have hP14 : St _ _ w0 ([] ++ []) := hS0
   obtain ⟨b16, hc15, hE7⟩ := bind_in hE7
   try dsimp only at hE7
   refine gx_cA (kWorks_R b16 w0) (kWorks_ok N  _ hc15 w0 ) ?_
   rintro _ w17 ⟨rfl, hT19⟩
   have hS18 : St _ _ w17 [] := hS0.take _ hT19
   refine gx_kA (.bool b16) w17 ?_
   refine gx_nil ?_
   refine gx_thenN ?_
   refine hK13 _ _ ?_
   refine gx_ret ?_
   refine gx_thenR ?_
   obtain rfl := Option.some.inj hE7
   try dsimp only at hO8
   obtain rfl := Option.some.inj hO8
   exact gx_fin (.bool b16) (by as_aux_lemma => kernel_rfl) (by as_aux_lemma => kernel_rfl) ⟨_, rfl, rfl, hS18⟩
  ·refine gx_vA (.bool false) w0 (run_boolE (decide_eq_false h11) (by as_aux_lemma => kernel_rfl)) ?_
   refine gx_kA (.bool false) w0 (gx_kA (.slice A1 p1.length c1) w0 (gx_kA (.int .i64 ((p1.length : Nat) : Int)) w0 ?_))
   rcases if_in hE7 with ⟨h20, hE7⟩ | ⟨h20, hE7⟩
   ·refine gx_vA (.bool true) w0 (run_boolE (decide_eq_true h20) (by as_aux_lemma => kernel_rfl)) ?_
    refine gx_kA (.bool true) w0 ?_
    refine gx_nil ?_
    refine gx_thenN ?_
    refine hK10 _ _ ?_
    refine gx_yes (by as_aux_lemma => kernel_rfl) ?_
    refine gx_seq (fun K21 hK22 => ?_)
    refine gx_region ?_
    have hP23 : St _ _ w0 ([] ++ []) := hS0
    obtain ⟨b25, hc24, hE7⟩ := bind_in hE7
    try dsimp only at hE7
    refine gx_cA (kWorks_R b25 w0) (kWorks_ok N  _ hc24 w0 ) ?_
    rintro _ w26 ⟨rfl, hT28⟩
    have hS27 : St _ _ w26 [] := hS0.take _ hT28
    refine gx_kA (.bool b25) w26 ?_
    refine gx_nil ?_
    refine gx_thenN ?_
    refine hK22 _ _ ?_
    refine gx_ret ?_
    refine gx_thenR ?_
    obtain rfl := Option.some.inj hE7
    try dsimp only at hO8
    obtain rfl := Option.some.inj hO8
    exact gx_fin (.bool b25) (by as_aux_lemma => kernel_rfl) (by as_aux_lemma => kernel_rfl) ⟨_, rfl, rfl, hS27⟩
   ·refine gx_vA (.bool false) w0 (run_boolE (decide_eq_false h20) (by as_aux_lemma => kernel_rfl)) ?_
    refine gx_kA (.bool false) w0 ?_
    refine gx_nil ?_
    refine gx_thenN ?_
    refine hK10 _ _ ?_
    refine gx_no (by as_aux_lemma => kernel_rfl) ?_
    refine gx_pass ?_
    refine gx_thenN ?_
    exact ⟨selfA_i (by as_aux_lemma => kernel_rfl), (Option.some.inj hE7), hS0⟩
 ·rintro _ w3 ⟨hq293, rfl, hS4⟩
  obtain ⟨u5, rfl⟩ := selfA_u hq293
  try dsimp only at hO8
  refine gx_seq (fun K29 hK30 => ?_)
  refine gx_region ?_
  refine gx_kA (.int .i32 10) w3 ?_
  refine gx_nil ?_
  refine gx_thenN ?_
  refine hK30 _ _ ?_
  obtain ⟨c35, hE36, hO37⟩ := bind_in hO8
  refine gx_cut (fun a w => ∃ (x34 : Int), selfA (fun u33 => ⟨((.slice A0 p0.length c0) :: (.slice A1 p1.length c1) :: (.bool p2) :: un 3 ((u5 6) :: (.int .i32 x34) :: un 9 (dd u5 17 9 ((u33 26) :: un 140 ([]))))).toArray, []⟩) a ∧ x34 = c35 ∧ St [] w0 w []) ?_ ?_
  ·refine gx_seq (fun K38 hK39 => ?_)
   refine gx_region ?_
   refine gx_kA (.bool p2) w3 ?_
   refine gx_nil ?_
   refine gx_thenN ?_
   refine hK39 _ _ ?_
   cases p2 with
   | true =>
    try dsimp only at hE36
    refine gx_yes (by as_aux_lemma => kernel_rfl) ?_
    refine gx_region ?_
    refine gx_kA (.int .i32 8233) w3 ?_
    refine gx_nil ?_
    refine gx_thenN ?_
    exact ⟨8233, selfA_i (by as_aux_lemma => kernel_rfl), (Option.some.inj hE36), hS4⟩
   | false =>
    try dsimp only at hE36
    refine gx_no (by as_aux_lemma => kernel_rfl) ?_
    refine gx_pass ?_
    refine gx_thenN ?_
    exact ⟨10, selfA_i (by as_aux_lemma => kernel_rfl), (Option.some.inj hE36), hS4⟩
  ·rintro _ w31 ⟨x34, hq292, rfl, hS32⟩
   obtain ⟨u33, rfl⟩ := selfA_u hq292
   try dsimp only at hO37
   refine gx_seq (fun K40 hK41 => ?_)
   refine gx_region ?_
   refine gx_kA (.slice none 0 0) w31 ?_
   refine gx_nil ?_
   refine gx_thenN ?_
   refine hK41 _ _ ?_
   refine gx_seq (fun K42 hK43 => ?_)
   refine gx_region ?_
   refine gx_kA (.slice none 0 0) w31 (gx_kA (.slice A0 p0.length c0) w31 ?_)
   have hS44 : St _ _ w31 [rowE .i32 21 none 0 ([])] := hS32.nilrow .i32 21
   obtain ⟨l45, ha46, hO37⟩ := bind_in hO37
   obtain ⟨ha46, hq47⟩ := apx_in ha46
   refine gx_rA (st_append rfl (by as_aux_lemma => kernel_rfl) (by as_aux_lemma => kernel_rfl) hS44 0 rfl (hS44.view hv0) hv0.nn ha46 (by as_aux_lemma => kernel_rfl) (by as_aux_lemma => kernel_rfl)) ?_
   rintro _ w50 ⟨A48, c49, rfl, hS51⟩
   rw [← hq47] at hS51 ⊢
   have hS51 : St _ _ w50 [rowE .i32 21 A48 c49 l45] := hS51
   refine gx_kA (.slice A48 l45.length c49) w50 ?_
   refine gx_nil ?_
   refine gx_thenN ?_
   refine hK43 _ _ ?_
   refine gx_seq (fun K52 hK53 => ?_)
   refine gx_region ?_
   refine gx_kA (.slice A48 l45.length c49) w50 (gx_kA (.int .i32 x34) w50 ?_)
   refine gx_rA (st_made .i32 21 [x34] hS51 (by show 1 ≤ 1000000000; decide) (by as_aux_lemma => kernel_rfl)) ?_
   rintro _ w54 ⟨rfl, hS55⟩
   have hS55 : St _ _ w54 [rowE .i32 21 A48 c49 l45, rowE .i32 21 (some ⟨w50.heap.size, 0, none⟩) 1 ([x34])] := hS55
   obtain ⟨l56, ha57, hO37⟩ := bind_in hO37
   obtain ⟨ha57, hq58⟩ := apx_in ha57
   refine gx_rA (st_append rfl (by as_aux_lemma => kernel_rfl) (by as_aux_lemma => kernel_rfl) hS55 0 rfl (hS55.row 1 rfl).1 (hS55.row 1 rfl).2 ha57 (by as_aux_lemma => kernel_rfl) (by as_aux_lemma => kernel_rfl)) ?_
   rintro _ w61 ⟨A59, c60, rfl, hS62⟩
   rw [← hq58] at hS62 ⊢
   have hS62 : St _ _ w61 [rowE .i32 21 A59 c60 l56, rowE .i32 21 (some ⟨w50.heap.size, 0, none⟩) 1 ([x34])] := hS62
   refine gx_kA (.slice A59 l56.length c60) w61 ?_
   refine gx_nil ?_
   refine gx_thenN ?_
   refine hK53 _ _ ?_
   refine gx_seq (fun K63 hK64 => ?_)
   refine gx_region ?_
   refine gx_kA (.slice A59 l56.length c60) w61 (gx_kA (.slice A1 p1.length c1) w61 ?_)
   obtain ⟨l65, ha66, hO37⟩ := bind_in hO37
   obtain ⟨ha66, hq67⟩ := apx_in ha66
   refine gx_rA (st_append rfl (by as_aux_lemma => kernel_rfl) (by as_aux_lemma => kernel_rfl) hS62 0 rfl (hS62.view hv1) hv1.nn ha66 (by as_aux_lemma => kernel_rfl) (by as_aux_lemma => kernel_rfl)) ?_
   rintro _ w70 ⟨A68, c69, rfl, hS71⟩
   rw [← hq67] at hS71 ⊢
   have hS71 : St _ _ w70 [rowE .i32 21 A68 c69 l65, rowE .i32 21 (some ⟨w50.heap.size, 0, none⟩) 1 ([x34])] := hS71
   refine gx_kA (.slice A68 l65.length c69) w70 ?_
   refine gx_nil ?_
   refine gx_thenN ?_
   refine hK64 _ _ ?_
   refine gx_seq (fun K72 hK73 => ?_)
   refine gx_region ?_
   refine gx_kA (.slice A68 l65.length c69) w70 ?_
   have hP74 : St _ _ w70 ([] ++ [rowE .i32 21 A68 c69 l65, rowE .i32 21 (some ⟨w50.heap.size, 0, none⟩) 1 ([x34])]) := hS71
   obtain ⟨l76, hc75, hO37⟩ := bind_in hO37
   try dsimp only at hO37
   refine gx_cA (pBreaks_R l76 w70) (pBreaks_ok N l65 A68 c69 _ hc75 w70 (hP74.vwB 0 rfl)) ?_
   rintro _ w79 ⟨A77, c78, rfl, hT81⟩
   have hS80 : St _ _ w79 [rowE .i32 21 A68 c69 l65, rowE .i32 21 (some ⟨w50.heap.size, 0, none⟩) 1 ([x34]), rowE .u8 5 A77 c78 l76] := hS71.take _ hT81
   refine gx_kA (.slice A0 p0.length c0) w79 ?_
   have hP82 : St _ _ w79 ([] ++ [rowE .i32 21 A68 c69 l65, rowE .i32 21 (some ⟨w50.heap.size, 0, none⟩) 1 ([x34]), rowE .u8 5 A77 c78 l76]) := hS80
   obtain ⟨l84, hc83, hO37⟩ := bind_in hO37
   try dsimp only at hO37
   refine gx_cA (pBreaks_R l84 w79) (pBreaks_ok N p0 A0 c0 _ hc83 w79 (hP82.vwA hv0)) ?_
   rintro _ w87 ⟨A85, c86, rfl, hT89⟩
   have hS88 : St _ _ w87 [rowE .i32 21 A68 c69 l65, rowE .i32 21 (some ⟨w50.heap.size, 0, none⟩) 1 ([x34]), rowE .u8 5 A77 c78 l76, rowE .u8 5 A85 c86 l84] := hS80.take _ hT89
   refine gx_kA (.slice A1 p1.length c1) w87 ?_
   have hP90 : St _ _ w87 ([] ++ [rowE .i32 21 A68 c69 l65, rowE .i32 21 (some ⟨w50.heap.size, 0, none⟩) 1 ([x34]), rowE .u8 5 A77 c78 l76, rowE .u8 5 A85 c86 l84]) := hS88
   obtain ⟨l92, hc91, hO37⟩ := bind_in hO37
   try dsimp only at hO37
   refine gx_cA (pBreaks_R l92 w87) (pBreaks_ok N p1 A1 c1 _ hc91 w87 (hP90.vwA hv1)) ?_
   rintro _ w95 ⟨A93, c94, rfl, hT97⟩
   have hS96 : St _ _ w95 [rowE .i32 21 A68 c69 l65, rowE .i32 21 (some ⟨w50.heap.size, 0, none⟩) 1 ([x34]), rowE .u8 5 A77 c78 l76, rowE .u8 5 A85 c86 l84, rowE .u8 5 A93 c94 l92] := hS88.take _ hT97
   refine gx_kA (.slice A77 l76.length c78) w95 (gx_kA (.slice A85 l84.length c86) w95 (gx_kA (.slice A93 l92.length c94) w95 ?_))
   refine gx_nil ?_
   refine gx_thenN ?_
   refine hK73 _ _ ?_
   obtain ⟨c101, hE102, hO103⟩ := bind_in hO37
   refine gx_cut (fun a w => selfA (fun u100 => ⟨((.slice A0 p0.length c0) :: (.slice A1 p1.length c1) :: (.bool p2) :: un 3 ((u100 6) :: (.int .i32 x34) :: (u100 8) :: (.slice A77 l76.length c78) :: (.slice A85 l84.length c86) :: (.slice A93 l92.length c94) :: un 5 (dd u5 17 9 ((u33 26) :: (.slice none 0 0) :: dd u100 28 3 ((.int .i32 x34) :: dd u100 32 33 (un 102 ([]))))))).toArray, []⟩) a ∧ Ctl.go () = c101 ∧ St [] w0 w [rowE .u8 5 A77 c78 l76, rowE .u8 5 A85 c86 l84, rowE .u8 5 A93 c94 l92]) ?_ ?_
   ·refine gx_seq (fun K104 hK105 => ?_)
    refine gx_region ?_
    refine gx_kA (.slice A77 l76.length c78) w95 (gx_kA (.int .i64 ((l76.length : Nat) : Int)) w95 (gx_kA (.slice A68 l65.length c69) w95 (gx_kA (.int .i64 ((l65.length : Nat) : Int)) w95 (gx_kA (.int .i64 (IntKind.i64.wrap (((l65.length : Nat) : Int) + 1))) w95 ?_))))
    obtain ⟨c110, hE111, hO112⟩ := bind_in hE102
    refine gx_part (l1 := [_, _, _, _, _, _, _, _, _]) (fun a w => ∃ (b109 : Bool), selfA (fun u108 => ⟨((.slice A0 p0.length c0) :: (.slice A1 p1.length c1) :: (.bool p2) :: un 3 ((u5 6) :: (.int .i32 x34) :: (u108 8) :: (.slice A77 l76.length c78) :: (.slice A85 l84.length c86) :: (.slice A93 l92.length c94) :: un 5 (dd u5 17 9 ((u33 26) :: (.slice none 0 0) :: dd u108 28 3 ((.int .i32 x34) :: dd u108 32 12 ((.int .i64 ((l76.length : Nat) : Int)) :: (u108 45) :: (.int .i64 ((l65.length : Nat) : Int)) :: (.int .i64 (IntKind.i64.wrap (((l65.length : Nat) : Int) + 1))) :: dd u108 48 8 ((.bool b109) :: un 110 ([])))))))).toArray, []⟩) a ∧ b109 = c110 ∧ St [] w0 w [rowE .u8 5 A77 c78 l76, rowE .u8 5 A85 c86 l84, rowE .u8 5 A93 c94 l92]) rfl ?_ ?_
    ·rcases if_in hE111 with ⟨h114, hE111⟩ | ⟨h114, hE111⟩
     ·refine gx_vA (.bool true) w95 (run_boolE (ne_yes h114) (by as_aux_lemma => kernel_rfl)) ?_
      refine gx_kA (.bool true) w95 (gx_oA (gx_oA (gx_oA (gx_oA (gx_oA (gx_oA (gx_kA (.bool true) w95 ?_)))))))
      refine gx_nil ?_
      refine gx_thenN ?_
      exact ⟨true, selfA_i (by as_aux_lemma => kernel_rfl), (Option.some.inj hE111), (hS96.pick [2, 3, 4] rfl rfl)⟩
     ·refine gx_vA (.bool false) w95 (run_boolE (ne_no h114) (by as_aux_lemma => kernel_rfl)) ?_
      refine gx_kA (.bool false) w95 (gx_kA (.slice A85 l84.length c86) w95 (gx_kA (.int .i64 ((l84.length : Nat) : Int)) w95 (gx_kA (.slice A0 p0.length c0) w95 (gx_kA (.int .i64 ((p0.length : Nat) : Int)) w95 (gx_kA (.int .i64 (IntKind.i64.wrap (((p0.length : Nat) : Int) + 1))) w95 ?_)))))
      rcases if_in hE111 with ⟨h115, hE111⟩ | ⟨h115, hE111⟩
      ·refine gx_vA (.bool true) w95 (run_boolE (ne_yes h115) (by as_aux_lemma => kernel_rfl)) ?_
       refine gx_kA (.bool true) w95 ?_
       refine gx_nil ?_
       refine gx_thenN ?_
       exact ⟨true, selfA_i (by as_aux_lemma => kernel_rfl), (Option.some.inj hE111), (hS96.pick [2, 3, 4] rfl rfl)⟩
      ·refine gx_vA (.bool false) w95 (run_boolE (ne_no h115) (by as_aux_lemma => kernel_rfl)) ?_
       refine gx_kA (.bool false) w95 ?_
       refine gx_nil ?_
       refine gx_thenN ?_
       exact ⟨false, selfA_i (by as_aux_lemma => kernel_rfl), (Option.some.inj hE111), (hS96.pick [2, 3, 4] rfl rfl)⟩
    ·rintro _ w106 ⟨b109, hq113, rfl, hS107⟩
     obtain ⟨u108, rfl⟩ := selfA_u hq113
     try dsimp only at hO112
     refine gx_kA (.bool b109) w106 ?_
     cases b109 with
     | true =>
      try dsimp only at hO112
      refine gx_oA (gx_oA (gx_oA (gx_oA (gx_oA (gx_oA (gx_kA (.bool true) w106 ?_))))))
      refine gx_nil ?_
      refine gx_thenN ?_
      refine hK105 _ _ ?_
      refine gx_yes (by as_aux_lemma => kernel_rfl) ?_
      refine gx_seq (fun K116 hK117 => ?_)
      refine gx_region ?_
      refine gx_kA (.bool false) w106 ?_
      refine gx_nil ?_
      refine gx_thenN ?_
      refine hK117 _ _ ?_
      refine gx_ret ?_
      refine gx_thenR ?_
      obtain rfl := Option.some.inj hO112
      try dsimp only at hO103
      obtain rfl := Option.some.inj hO103
      exact gx_fin (.bool false) (by as_aux_lemma => kernel_rfl) (by as_aux_lemma => kernel_rfl) ⟨_, rfl, rfl, (hS107.pick [] rfl rfl)⟩
     | false =>
      try dsimp only at hO112
      refine gx_kA (.slice A93 l92.length c94) w106 (gx_kA (.int .i64 ((l92.length : Nat) : Int)) w106 (gx_kA (.slice A1 p1.length c1) w106 (gx_kA (.int .i64 ((p1.length : Nat) : Int)) w106 (gx_kA (.int .i64 (IntKind.i64.wrap (((p1.length : Nat) : Int) + 1))) w106 ?_))))
      rcases if_in hO112 with ⟨h118, hO112⟩ | ⟨h118, hO112⟩
      ·refine gx_vA (.bool true) w106 (run_boolE (ne_yes h118) (by as_aux_lemma => kernel_rfl)) ?_
       refine gx_kA (.bool true) w106 ?_
       refine gx_nil ?_
       refine gx_thenN ?_
       refine hK105 _ _ ?_
       refine gx_yes (by as_aux_lemma => kernel_rfl) ?_
       refine gx_seq (fun K119 hK120 => ?_)
       refine gx_region ?_
       refine gx_kA (.bool false) w106 ?_
       refine gx_nil ?_
       refine gx_thenN ?_
       refine hK120 _ _ ?_
       refine gx_ret ?_
       refine gx_thenR ?_
       obtain rfl := Option.some.inj hO112
       try dsimp only at hO103
       obtain rfl := Option.some.inj hO103
       exact gx_fin (.bool false) (by as_aux_lemma => kernel_rfl) (by as_aux_lemma => kernel_rfl) ⟨_, rfl, rfl, (hS107.pick [] rfl rfl)⟩
      ·refine gx_vA (.bool false) w106 (run_boolE (ne_no h118) (by as_aux_lemma => kernel_rfl)) ?_
       refine gx_kA (.bool false) w106 ?_
       refine gx_nil ?_
       refine gx_thenN ?_
       refine hK105 _ _ ?_
       refine gx_no (by as_aux_lemma => kernel_rfl) ?_
       refine gx_pass ?_
       refine gx_thenN ?_
       exact ⟨selfA_i (by as_aux_lemma => kernel_rfl), (Option.some.inj hO112), hS107⟩
   ·rintro _ w98 ⟨hq291, rfl, hS99⟩
    obtain ⟨u100, rfl⟩ := selfA_u hq291
    try dsimp only at hO103
    obtain ⟨c124, hE125, hO126⟩ := bind_in hO103
    refine gx_cut (fun a w => selfA (fun u123 => ⟨((.slice A0 p0.length c0) :: (.slice A1 p1.length c1) :: (.bool p2) :: un 3 ((u123 6) :: (.int .i32 x34) :: (u100 8) :: (.slice A77 l76.length c78) :: (u123 10) :: (.slice A93 l92.length c94) :: (u123 12) :: un 4 (dd u5 17 9 ((u33 26) :: (.slice none 0 0) :: dd u100 28 3 ((.int .i32 x34) :: dd u100 32 33 (dd u123 65 15 (un 87 ([])))))))).toArray, []⟩) a ∧ Ctl.go () = c124 ∧ St [] w0 w [rowE .u8 5 A77 c78 l76, rowE .u8 5 A93 c94 l92]) ?_ ?_
    ·refine gx_seq (fun K127 hK128 => ?_)
     refine gx_region ?_
     refine gx_kA (.int .i64 0) w98 ?_
     refine gx_nil ?_
     refine gx_thenN ?_
     refine hK128 _ _ ?_
     refine gx_block ?_
     refine gx_loop (fun k a w => ∃ (x132 : Int), selfA (fun u131 => ⟨((.slice A0 p0.length c0) :: (.slice A1 p1.length c1) :: (.bool p2) :: un 3 ((u131 6) :: (.int .i32 x34) :: (u100 8) :: (.slice A77 l76.length c78) :: (.slice A85 l84.length c86) :: (.slice A93 l92.length c94) :: (.int .i64 x132) :: un 4 (dd u5 17 9 ((u33 26) :: (.slice none 0 0) :: dd u100 28 3 ((.int .i32 x34) :: dd u100 32 33 (dd u131 65 15 (un 87 ([])))))))).toArray, []⟩) a ∧ fParagraphs_L1 N p0 l76 l84 k x132 = some c124 ∧ St [] w0 w [rowE .u8 5 A77 c78 l76, rowE .u8 5 A85 c86 l84, rowE .u8 5 A93 c94 l92]) N ?_ ?_
     ·exact ⟨0, selfA_i (by as_aux_lemma => kernel_rfl), hE125, hS99⟩
     ·rintro k133 _ w129 ⟨x132, hq153, hL134, hS130⟩
      obtain ⟨u131, rfl⟩ := selfA_u hq153
      cases k133 with
      | zero => cases hL134
      | succ k133 =>
       first | rw [fParagraphs_L1] at hL134 | unfold fParagraphs_L1 at hL134
       refine gx_seq (fun K135 hK136 => ?_)
       refine gx_seq (fun K137 hK138 => ?_)
       refine gx_region ?_
       refine gx_kA (.int .i64 x132) w129 (gx_kA (.slice A0 p0.length c0) w129 (gx_kA (.int .i64 ((p0.length : Nat) : Int)) w129 ?_))
       rcases if_in hL134 with ⟨h139, hL134⟩ | ⟨h139, hL134⟩
       ·refine gx_vA (.bool true) w129 (run_boolE (decide_eq_true h139) (by as_aux_lemma => kernel_rfl)) ?_
        refine gx_nil ?_
        refine gx_thenN ?_
        refine hK138 _ _ ?_
        refine gx_yes (by as_aux_lemma => kernel_rfl) ?_
        refine gx_pass ?_
        refine gx_thenN ?_
        refine hK136 _ _ ?_
        refine gx_seq (fun K140 hK141 => ?_)
        refine gx_block ?_
        refine gx_seq (fun K142 hK143 => ?_)
        refine gd_start (fun w => St [] w0 w [rowE .u8 5 A77 c78 l76, rowE .u8 5 A85 c86 l84, rowE .u8 5 A93 c94 l92]) 9 #[false, false, false, false, false, false, false, false, false] (by as_aux_lemma => kernel_rfl) (by as_aux_lemma => kernel_rfl) ?_
        have hS145 := hS130.drew
        generalize w129.drew = w144 at hS145 ⊢
        refine gv1 0 71 (.slice A77 l76.length c78) rfl hS145 ?_
        refine gv1 1 72 (.int .i64 x132) rfl hS145 ?_
        obtain ⟨x146, hx147, hL134⟩ := bind_in hL134
        refine gu1 2 73 (.pointer (Option.map (fun (p : Addr) => p.add (Int.toNat x132 * 1)) A77)) rfl hS145 (fun w hSw => run_ixaddr (E := 5) (s := 1) (k := .i64) (c := c78) rfl (by as_aux_lemma => kernel_rfl) (by as_aux_lemma => kernel_rfl) (by as_aux_lemma => kernel_rfl) (fun _ => by kernel_rfl) (ix_in hx147).1 (ix_in hx147).2.1 (num_nil (hS145.row 0 rfl).1)) ?_
        refine gu1 3 74 (.int .u8 x146) rfl hS145 (fun w hSw => run_loadix rfl (by as_aux_lemma => kernel_rfl) (fun _ => by kernel_rfl) (hSw.row 0 rfl).1 hx147) ?_
        refine gv1 4 75 (.slice A85 l84.length c86) rfl hS145 ?_
        refine gv1 5 76 (.int .i64 x132) rfl hS145 ?_
        obtain ⟨x148, hx149, hL134⟩ := bind_in hL134
        refine gu1 6 77 (.pointer (Option.map (fun (p : Addr) => p.add (Int.toNat x132 * 1)) A85)) rfl hS145 (fun w hSw => run_ixaddr (E := 5) (s := 1) (k := .i64) (c := c86) rfl (by as_aux_lemma => kernel_rfl) (by as_aux_lemma => kernel_rfl) (by as_aux_lemma => kernel_rfl) (fun _ => by kernel_rfl) (ix_in hx149).1 (ix_in hx149).2.1 (num_nil (hS145.row 1 rfl).1)) ?_
        refine gu1 7 78 (.int .u8 x148) rfl hS145 (fun w hSw => run_loadix rfl (by as_aux_lemma => kernel_rfl) (fun _ => by kernel_rfl) (hSw.row 1 rfl).1 hx149) ?_
        rcases if_in hL134 with ⟨h150, hL134⟩ | ⟨h150, hL134⟩
        ·refine gu1 8 79 (.bool true) rfl hS145 (fun w hSw => run_boolE (ne_yes h150) (by as_aux_lemma => kernel_rfl)) ?_
         refine gd_done (by as_aux_lemma => kernel_rfl) ?_
         refine gx_thenN ?_
         refine hK143 _ _ ?_
         refine gx_yes (by as_aux_lemma => kernel_rfl) ?_
         refine gx_seq (fun K151 hK152 => ?_)
         refine gx_region ?_
         refine gx_kA (.bool false) w144 ?_
         refine gx_nil ?_
         refine gx_thenN ?_
         refine hK152 _ _ ?_
         refine gx_ret ?_
         refine gx_blkR ?_
         refine gx_thenR ?_
         refine gx_thenR ?_
         refine gx_blkR ?_
         refine gx_thenR ?_
         obtain rfl := Option.some.inj hL134
         try dsimp only at hO126
         obtain rfl := Option.some.inj hO126
         exact gx_fin (.bool false) (by as_aux_lemma => kernel_rfl) (by as_aux_lemma => kernel_rfl) ⟨_, rfl, rfl, (hS145.pick [] rfl rfl)⟩
        ·refine gu1 8 79 (.bool false) rfl hS145 (fun w hSw => run_boolE (ne_no h150) (by as_aux_lemma => kernel_rfl)) ?_
         refine gd_done (by as_aux_lemma => kernel_rfl) ?_
         refine gx_thenN ?_
         refine hK143 _ _ ?_
         refine gx_no (by as_aux_lemma => kernel_rfl) ?_
         refine gx_pass ?_
         refine gx_blkN ?_
         refine gx_thenN ?_
         refine hK141 _ _ ?_
         refine gx_region ?_
         refine gx_kA (.int .i64 x132) w144 (gx_kA (.int .i64 (IntKind.i64.wrap (x132 + 1))) w144 (gx_kA (.int .i64 (IntKind.i64.wrap (x132 + 1))) w144 ?_))
         refine gx_nil ?_
         refine gx_thenN ?_
         exact ⟨k133, Nat.lt_succ_self k133, (IntKind.i64.wrap (x132 + 1)), selfA_i (by as_aux_lemma => kernel_rfl), hL134, hS145⟩
       ·refine gx_vA (.bool false) w129 (run_boolE (decide_eq_false h139) (by as_aux_lemma => kernel_rfl)) ?_
        refine gx_nil ?_
        refine gx_thenN ?_
        refine hK138 _ _ ?_
        refine gx_no (by as_aux_lemma => kernel_rfl) ?_
        refine gx_exit ?_
        refine gx_thenE ?_
        refine gx_thenE ?_
        refine gx_blkE ?_
        refine gx_thenN ?_
        exact ⟨selfA_i (by as_aux_lemma => kernel_rfl), (Option.some.inj hL134), (hS130.pick [0, 2] rfl rfl)⟩
    ·rintro _ w121 ⟨hq290, rfl, hS122⟩
     obtain ⟨u123, rfl⟩ := selfA_u hq290
     try dsimp only at hO126
     refine gx_seq (fun K154 hK155 => ?_)
     refine gx_region ?_
     refine gx_kA (.int .u8 0) w121 ?_
     refine gx_nil ?_
     refine gx_thenN ?_
     refine hK155 _ _ ?_
     obtain ⟨c160, hE161, hO162⟩ := bind_in hO126
     refine gx_cut (fun a w => ∃ (x159 : Int), selfA (fun u158 => ⟨((.slice A0 p0.length c0) :: (.slice A1 p1.length c1) :: (.bool p2) :: un 3 ((u123 6) :: (.int .i32 x34) :: (u100 8) :: (.slice A77 l76.length c78) :: (u123 10) :: (.slice A93 l92.length c94) :: (u123 12) :: (.int .u8 x159) :: (u158 14) :: undef :: undef :: dd u5 17 9 ((u33 26) :: (.slice none 0 0) :: dd u100 28 3 ((.int .i32 x34) :: dd u100 32 33 (dd u123 65 15 (dd u158 80 27 (un 60 ([])))))))).toArray, []⟩) a ∧ x159 = c160 ∧ St [] w0 w [rowE .u8 5 A77 c78 l76, rowE .u8 5 A93 c94 l92]) ?_ ?_
     ·obtain ⟨c167, hE168, hO169⟩ := bind_in hE161
      refine gx_cut (fun a w => ∃ (b166 : Bool), selfA (fun u165 => ⟨((.slice A0 p0.length c0) :: (.slice A1 p1.length c1) :: (.bool p2) :: un 3 ((u123 6) :: (.int .i32 x34) :: (u100 8) :: (.slice A77 l76.length c78) :: (u123 10) :: (.slice A93 l92.length c94) :: (u123 12) :: (.int .u8 0) :: un 3 (dd u5 17 9 ((u33 26) :: (.slice none 0 0) :: dd u100 28 3 ((.int .i32 x34) :: dd u100 32 33 (dd u123 65 15 (dd u165 80 5 ((.bool b166) :: un 81 ([]))))))))).toArray, []⟩) a ∧ b166 = c167 ∧ St [] w0 w [rowE .u8 5 A77 c78 l76, rowE .u8 5 A93 c94 l92]) ?_ ?_
      ·refine gx_region ?_
       refine gx_kA (.bool p2) w121 (gx_kA (.bool p2) w121 ?_)
       cases p2 with
       | true =>
        try dsimp only at hE168
        refine gx_kA (.slice A0 p0.length c0) w121 (gx_kA (.int .i64 ((p0.length : Nat) : Int)) w121 ?_)
        rcases if_in hE168 with ⟨h170, hE168⟩ | ⟨h170, hE168⟩
        ·refine gx_vA (.bool true) w121 (run_boolE (decide_eq_true h170) (by as_aux_lemma => kernel_rfl)) ?_
         refine gx_kA (.bool true) w121 ?_
         refine gx_nil ?_
         refine gx_thenN ?_
         exact ⟨true, selfA_i (by as_aux_lemma => kernel_rfl), (Option.some.inj hE168), hS122⟩
        ·refine gx_vA (.bool false) w121 (run_boolE (decide_eq_false h170) (by as_aux_lemma => kernel_rfl)) ?_
         refine gx_kA (.bool false) w121 ?_
         refine gx_nil ?_
         refine gx_thenN ?_
         exact ⟨false, selfA_i (by as_aux_lemma => kernel_rfl), (Option.some.inj hE168), hS122⟩
       | false =>
        try dsimp only at hE168
        refine gx_oA (gx_oA (gx_oA (gx_kA (.bool false) w121 ?_)))
        refine gx_nil ?_
        refine gx_thenN ?_
        exact ⟨false, selfA_i (by as_aux_lemma => kernel_rfl), (Option.some.inj hE168), hS122⟩
      ·rintro _ w163 ⟨b166, hq195, rfl, hS164⟩
       obtain ⟨u165, rfl⟩ := selfA_u hq195
       try dsimp only at hO169
       cases b166 with
       | true =>
        try dsimp only at hO169
        refine gx_yes (by as_aux_lemma => kernel_rfl) ?_
        refine gx_seq (fun K171 hK172 => ?_)
        refine gx_region ?_
        refine gx_kA (.slice A0 p0.length c0) w163 (gx_kA (.slice A0 p0.length c0) w163 (gx_kA (.int .i64 ((p0.length : Nat) : Int)) w163 (gx_kA (.int .i64 (IntKind.i64.wrap (((p0.length : Nat) : Int) - 1))) w163 ?_)))
        obtain ⟨x173, hx174, hO169⟩ := bind_in hO169
        refine gx_vA (.pointer (Option.map (fun (p : Addr) => p.add (Int.toNat (IntKind.i64.wrap (((p0.length : Nat) : Int) - 1)) * 1)) A0)) w163 (run_ixaddr (E := 21) (s := 1) (k := .i64) (c := c0) rfl (by as_aux_lemma => kernel_rfl) (by as_aux_lemma => kernel_rfl) (by as_aux_lemma => kernel_rfl) (fun _ => by kernel_rfl) (ix_in hx174).1 (ix_in hx174).2.1 (num_nil (hS164.view hv0))) ?_
        refine gx_vA (.int .i32 x173) w163 (run_loadix rfl (by as_aux_lemma => kernel_rfl) (fun _ => by kernel_rfl) (hS164.view hv0) hx174) ?_
        have hP175 : St _ _ w163 ([] ++ [rowE .u8 5 A77 c78 l76, rowE .u8 5 A93 c94 l92]) := hS164
        obtain ⟨x177, hc176, hO169⟩ := bind_in hO169
        try dsimp only at hO169
        refine gx_cA (ucBk_R x177 w163) (ucBk_ok N x173 _ hc176 w163 ) ?_
        rintro _ w178 ⟨rfl, hT180⟩
        have hS179 : St _ _ w178 [rowE .u8 5 A77 c78 l76, rowE .u8 5 A93 c94 l92] := hS164.take _ hT180
        refine gx_kA (.int .u8 x177) w178 ?_
        refine gx_nil ?_
        refine gx_thenN ?_
        refine hK172 _ _ ?_
        refine gx_seq (fun K181 hK182 => ?_)
        refine gx_region ?_
        refine gx_kA (.int .u8 x177) w178 ?_
        obtain ⟨c187, hE188, hO189⟩ := bind_in hO169
        refine gx_part (l1 := [_, _, _, _, _]) (fun a w => ∃ (b186 : Bool), selfA (fun u185 => ⟨((.slice A0 p0.length c0) :: (.slice A1 p1.length c1) :: (.bool p2) :: un 3 ((u123 6) :: (.int .i32 x34) :: (u100 8) :: (.slice A77 l76.length c78) :: (u123 10) :: (.slice A93 l92.length c94) :: (u123 12) :: (.int .u8 0) :: (.int .u8 x177) :: undef :: undef :: dd u5 17 9 ((u33 26) :: (.slice none 0 0) :: dd u100 28 3 ((.int .i32 x34) :: dd u100 32 33 (dd u123 65 15 (dd u165 80 5 ((.bool true) :: dd u185 86 2 ((.int .i64 ((p0.length : Nat) : Int)) :: (.int .i64 (IntKind.i64.wrap (((p0.length : Nat) : Int) - 1))) :: (.pointer (Option.map (fun (p : Addr) => p.add (Int.toNat (IntKind.i64.wrap (((p0.length : Nat) : Int) - 1)) * 1)) A0)) :: (.int .i32 x173) :: (.int .u8 x177) :: (.int .u8 x177) :: dd u185 94 4 ((.bool b186) :: un 68 ([])))))))))).toArray, []⟩) a ∧ b186 = c187 ∧ St [] w0 w [rowE .u8 5 A77 c78 l76, rowE .u8 5 A93 c94 l92]) rfl ?_ ?_
        ·rcases if_in hE188 with ⟨h191, hE188⟩ | ⟨h191, hE188⟩
         ·refine gx_vA (.bool true) w178 (run_boolE (decide_eq_true h191) (by as_aux_lemma => kernel_rfl)) ?_
          refine gx_kA (.bool true) w178 (gx_oA (gx_oA (gx_kA (.bool true) w178 ?_)))
          refine gx_nil ?_
          refine gx_thenN ?_
          exact ⟨true, selfA_i (by as_aux_lemma => kernel_rfl), (Option.some.inj hE188), hS179⟩
         ·refine gx_vA (.bool false) w178 (run_boolE (decide_eq_false h191) (by as_aux_lemma => kernel_rfl)) ?_
          refine gx_kA (.bool false) w178 (gx_kA (.int .u8 x177) w178 ?_)
          rcases if_in hE188 with ⟨h192, hE188⟩ | ⟨h192, hE188⟩
          ·refine gx_vA (.bool true) w178 (run_boolE (decide_eq_true h192) (by as_aux_lemma => kernel_rfl)) ?_
           refine gx_kA (.bool true) w178 ?_
           refine gx_nil ?_
           refine gx_thenN ?_
           exact ⟨true, selfA_i (by as_aux_lemma => kernel_rfl), (Option.some.inj hE188), hS179⟩
          ·refine gx_vA (.bool false) w178 (run_boolE (decide_eq_false h192) (by as_aux_lemma => kernel_rfl)) ?_
           refine gx_kA (.bool false) w178 ?_
           refine gx_nil ?_
           refine gx_thenN ?_
           exact ⟨false, selfA_i (by as_aux_lemma => kernel_rfl), (Option.some.inj hE188), hS179⟩
        ·rintro _ w183 ⟨b186, hq190, rfl, hS184⟩
         obtain ⟨u185, rfl⟩ := selfA_u hq190
         try dsimp only at hO189
         refine gx_kA (.bool b186) w183 ?_
         cases b186 with
         | true =>
          try dsimp only at hO189
          refine gx_oA (gx_oA (gx_kA (.bool true) w183 (gx_kA (.bool true) w183 (gx_oA (gx_oA (gx_kA (.bool true) w183 ?_))))))
          refine gx_nil ?_
          refine gx_thenN ?_
          refine hK182 _ _ ?_
          refine gx_yes (by as_aux_lemma => kernel_rfl) ?_
          refine gx_region ?_
          refine gx_kA (.int .u8 2) w183 ?_
          refine gx_nil ?_
          refine gx_thenN ?_
          exact ⟨2, selfA_i (by as_aux_lemma => kernel_rfl), (Option.some.inj hO189), hS184⟩
         | false =>
          try dsimp only at hO189
          refine gx_kA (.int .u8 x177) w183 ?_
          rcases if_in hO189 with ⟨h193, hO189⟩ | ⟨h193, hO189⟩
          ·refine gx_vA (.bool true) w183 (run_boolE (decide_eq_true h193) (by as_aux_lemma => kernel_rfl)) ?_
           refine gx_kA (.bool true) w183 (gx_kA (.bool true) w183 (gx_oA (gx_oA (gx_kA (.bool true) w183 ?_))))
           refine gx_nil ?_
           refine gx_thenN ?_
           refine hK182 _ _ ?_
           refine gx_yes (by as_aux_lemma => kernel_rfl) ?_
           refine gx_region ?_
           refine gx_kA (.int .u8 2) w183 ?_
           refine gx_nil ?_
           refine gx_thenN ?_
           exact ⟨2, selfA_i (by as_aux_lemma => kernel_rfl), (Option.some.inj hO189), hS184⟩
          ·refine gx_vA (.bool false) w183 (run_boolE (decide_eq_false h193) (by as_aux_lemma => kernel_rfl)) ?_
           refine gx_kA (.bool false) w183 (gx_kA (.bool false) w183 (gx_kA (.int .u8 x177) w183 ?_))
           rcases if_in hO189 with ⟨h194, hO189⟩ | ⟨h194, hO189⟩
           ·refine gx_vA (.bool true) w183 (run_boolE (decide_eq_true h194) (by as_aux_lemma => kernel_rfl)) ?_
            refine gx_kA (.bool true) w183 ?_
            refine gx_nil ?_
            refine gx_thenN ?_
            refine hK182 _ _ ?_
            refine gx_yes (by as_aux_lemma => kernel_rfl) ?_
            refine gx_region ?_
            refine gx_kA (.int .u8 2) w183 ?_
            refine gx_nil ?_
            refine gx_thenN ?_
            exact ⟨2, selfA_i (by as_aux_lemma => kernel_rfl), (Option.some.inj hO189), hS184⟩
           ·refine gx_vA (.bool false) w183 (run_boolE (decide_eq_false h194) (by as_aux_lemma => kernel_rfl)) ?_
            refine gx_kA (.bool false) w183 ?_
            refine gx_nil ?_
            refine gx_thenN ?_
            refine hK182 _ _ ?_
            refine gx_no (by as_aux_lemma => kernel_rfl) ?_
            refine gx_pass ?_
            refine gx_thenN ?_
            exact ⟨0, selfA_i (by as_aux_lemma => kernel_rfl), (Option.some.inj hO189), hS184⟩
       | false =>
        try dsimp only at hO169
        refine gx_no (by as_aux_lemma => kernel_rfl) ?_
        refine gx_pass ?_
        refine gx_thenN ?_
        exact ⟨0, selfA_i (by as_aux_lemma => kernel_rfl), (Option.some.inj hO169), hS164⟩
     ·rintro _ w156 ⟨x159, hq289, rfl, hS157⟩
      obtain ⟨u158, rfl⟩ := selfA_u hq289
      try dsimp only at hO162
      obtain ⟨c200, hE201, hO202⟩ := bind_in hO162
      refine gx_cut (fun a w => ∃ (x199 : Int), selfA (fun u198 => ⟨((.slice A0 p0.length c0) :: (.slice A1 p1.length c1) :: (.bool p2) :: un 3 ((u123 6) :: (.int .i32 x34) :: (u100 8) :: (.slice A77 l76.length c78) :: (u123 10) :: (.slice A93 l92.length c94) :: (u123 12) :: (.int .u8 x199) :: (u158 14) :: (u198 15) :: undef :: dd u5 17 9 ((u33 26) :: (.slice none 0 0) :: dd u100 28 3 ((.int .i32 x34) :: dd u100 32 33 (dd u123 65 15 (dd u158 80 27 (dd u198 107 24 (un 36 ([]))))))))).toArray, []⟩) a ∧ x199 = c200 ∧ St [] w0 w [rowE .u8 5 A77 c78 l76, rowE .u8 5 A93 c94 l92]) ?_ ?_
      ·obtain ⟨c207, hE208, hO209⟩ := bind_in hE201
       refine gx_cut (fun a w => ∃ (b206 : Bool), selfA (fun u205 => ⟨((.slice A0 p0.length c0) :: (.slice A1 p1.length c1) :: (.bool p2) :: un 3 ((u123 6) :: (.int .i32 x34) :: (u100 8) :: (.slice A77 l76.length c78) :: (u123 10) :: (.slice A93 l92.length c94) :: (u123 12) :: (.int .u8 x159) :: (u158 14) :: undef :: undef :: dd u5 17 9 ((u33 26) :: (.slice none 0 0) :: dd u100 28 3 ((.int .i32 x34) :: dd u100 32 33 (dd u123 65 15 (dd u158 80 27 (dd u205 107 6 ((.bool b206) :: un 53 ([]))))))))).toArray, []⟩) a ∧ b206 = c207 ∧ St [] w0 w [rowE .u8 5 A77 c78 l76, rowE .u8 5 A93 c94 l92]) ?_ ?_
       ·refine gx_region ?_
        refine gx_kA (.bool p2) w156 ?_
        cases p2 with
        | true =>
         try dsimp only at hE208
         refine gx_kA (.bool false) w156 (gx_kA (.bool false) w156 (gx_oA (gx_oA (gx_oA (gx_kA (.bool false) w156 ?_)))))
         refine gx_nil ?_
         refine gx_thenN ?_
         exact ⟨false, selfA_i (by as_aux_lemma => kernel_rfl), (Option.some.inj hE208), hS157⟩
        | false =>
         try dsimp only at hE208
         refine gx_kA (.bool true) w156 (gx_kA (.bool true) w156 (gx_kA (.slice A0 p0.length c0) w156 (gx_kA (.int .i64 ((p0.length : Nat) : Int)) w156 ?_)))
         rcases if_in hE208 with ⟨h210, hE208⟩ | ⟨h210, hE208⟩
         ·refine gx_vA (.bool true) w156 (run_boolE (decide_eq_true h210) (by as_aux_lemma => kernel_rfl)) ?_
          refine gx_kA (.bool true) w156 ?_
          refine gx_nil ?_
          refine gx_thenN ?_
          exact ⟨true, selfA_i (by as_aux_lemma => kernel_rfl), (Option.some.inj hE208), hS157⟩
         ·refine gx_vA (.bool false) w156 (run_boolE (decide_eq_false h210) (by as_aux_lemma => kernel_rfl)) ?_
          refine gx_kA (.bool false) w156 ?_
          refine gx_nil ?_
          refine gx_thenN ?_
          exact ⟨false, selfA_i (by as_aux_lemma => kernel_rfl), (Option.some.inj hE208), hS157⟩
       ·rintro _ w203 ⟨b206, hq226, rfl, hS204⟩
        obtain ⟨u205, rfl⟩ := selfA_u hq226
        try dsimp only at hO209
        cases b206 with
        | true =>
         try dsimp only at hO209
         refine gx_yes (by as_aux_lemma => kernel_rfl) ?_
         refine gx_seq (fun K211 hK212 => ?_)
         refine gx_region ?_
         refine gx_kA (.slice A0 p0.length c0) w203 (gx_kA (.slice A0 p0.length c0) w203 (gx_kA (.int .i64 ((p0.length : Nat) : Int)) w203 (gx_kA (.int .i64 (IntKind.i64.wrap (((p0.length : Nat) : Int) - 1))) w203 ?_)))
         obtain ⟨x213, hx214, hO209⟩ := bind_in hO209
         refine gx_vA (.pointer (Option.map (fun (p : Addr) => p.add (Int.toNat (IntKind.i64.wrap (((p0.length : Nat) : Int) - 1)) * 1)) A0)) w203 (run_ixaddr (E := 21) (s := 1) (k := .i64) (c := c0) rfl (by as_aux_lemma => kernel_rfl) (by as_aux_lemma => kernel_rfl) (by as_aux_lemma => kernel_rfl) (fun _ => by kernel_rfl) (ix_in hx214).1 (ix_in hx214).2.1 (num_nil (hS204.view hv0))) ?_
         refine gx_vA (.int .i32 x213) w203 (run_loadix rfl (by as_aux_lemma => kernel_rfl) (fun _ => by kernel_rfl) (hS204.view hv0) hx214) ?_
         have hP215 : St _ _ w203 ([] ++ [rowE .u8 5 A77 c78 l76, rowE .u8 5 A93 c94 l92]) := hS204
         obtain ⟨x217, hc216, hO209⟩ := bind_in hO209
         try dsimp only at hO209
         refine gx_cA (ucBk_R x217 w203) (ucBk_ok N x213 _ hc216 w203 ) ?_
         rintro _ w218 ⟨rfl, hT220⟩
         have hS219 : St _ _ w218 [rowE .u8 5 A77 c78 l76, rowE .u8 5 A93 c94 l92] := hS204.take _ hT220
         refine gx_kA (.int .u8 x217) w218 ?_
         refine gx_nil ?_
         refine gx_thenN ?_
         refine hK212 _ _ ?_
         refine gx_seq (fun K221 hK222 => ?_)
         refine gx_region ?_
         refine gx_kA (.int .u8 x217) w218 ?_
         rcases if_in hO209 with ⟨h223, hO209⟩ | ⟨h223, hO209⟩
         ·refine gx_vA (.bool true) w218 (run_boolE (decide_eq_true h223) (by as_aux_lemma => kernel_rfl)) ?_
          refine gx_kA (.bool true) w218 (gx_oA (gx_oA (gx_kA (.bool true) w218 (gx_kA (.bool true) w218 (gx_oA (gx_oA (gx_kA (.bool true) w218 ?_)))))))
          refine gx_nil ?_
          refine gx_thenN ?_
          refine hK222 _ _ ?_
          refine gx_yes (by as_aux_lemma => kernel_rfl) ?_
          refine gx_region ?_
          refine gx_kA (.int .u8 2) w218 ?_
          refine gx_nil ?_
          refine gx_thenN ?_
          exact ⟨2, selfA_i (by as_aux_lemma => kernel_rfl), (Option.some.inj hO209), hS219⟩
         ·refine gx_vA (.bool false) w218 (run_boolE (decide_eq_false h223) (by as_aux_lemma => kernel_rfl)) ?_
          refine gx_kA (.bool false) w218 (gx_kA (.int .u8 x217) w218 ?_)
          rcases if_in hO209 with ⟨h224, hO209⟩ | ⟨h224, hO209⟩
          ·refine gx_vA (.bool true) w218 (run_boolE (decide_eq_true h224) (by as_aux_lemma => kernel_rfl)) ?_
           refine gx_kA (.bool true) w218 (gx_kA (.bool true) w218 (gx_oA (gx_oA (gx_kA (.bool true) w218 ?_))))
           refine gx_nil ?_
           refine gx_thenN ?_
           refine hK222 _ _ ?_
           refine gx_yes (by as_aux_lemma => kernel_rfl) ?_
           refine gx_region ?_
           refine gx_kA (.int .u8 2) w218 ?_
           refine gx_nil ?_
           refine gx_thenN ?_
           exact ⟨2, selfA_i (by as_aux_lemma => kernel_rfl), (Option.some.inj hO209), hS219⟩
          ·refine gx_vA (.bool false) w218 (run_boolE (decide_eq_false h224) (by as_aux_lemma => kernel_rfl)) ?_
           refine gx_kA (.bool false) w218 (gx_kA (.bool false) w218 (gx_kA (.int .u8 x217) w218 ?_))
           rcases if_in hO209 with ⟨h225, hO209⟩ | ⟨h225, hO209⟩
           ·refine gx_vA (.bool true) w218 (run_boolE (decide_eq_true h225) (by as_aux_lemma => kernel_rfl)) ?_
            refine gx_kA (.bool true) w218 ?_
            refine gx_nil ?_
            refine gx_thenN ?_
            refine hK222 _ _ ?_
            refine gx_yes (by as_aux_lemma => kernel_rfl) ?_
            refine gx_region ?_
            refine gx_kA (.int .u8 2) w218 ?_
            refine gx_nil ?_
            refine gx_thenN ?_
            exact ⟨2, selfA_i (by as_aux_lemma => kernel_rfl), (Option.some.inj hO209), hS219⟩
           ·refine gx_vA (.bool false) w218 (run_boolE (decide_eq_false h225) (by as_aux_lemma => kernel_rfl)) ?_
            refine gx_kA (.bool false) w218 ?_
            refine gx_nil ?_
            refine gx_thenN ?_
            refine hK222 _ _ ?_
            refine gx_no (by as_aux_lemma => kernel_rfl) ?_
            refine gx_pass ?_
            refine gx_thenN ?_
            exact ⟨x159, selfA_i (by as_aux_lemma => kernel_rfl), (Option.some.inj hO209), hS219⟩
        | false =>
         try dsimp only at hO209
         refine gx_no (by as_aux_lemma => kernel_rfl) ?_
         refine gx_pass ?_
         refine gx_thenN ?_
         exact ⟨x159, selfA_i (by as_aux_lemma => kernel_rfl), (Option.some.inj hO209), hS204⟩
      ·rintro _ w196 ⟨x199, hq288, rfl, hS197⟩
       obtain ⟨u198, rfl⟩ := selfA_u hq288
       try dsimp only at hO202
       obtain ⟨c230, hE231, hO232⟩ := bind_in hO202
       refine gx_cut (fun a w => selfA (fun u229 => ⟨((.slice A0 p0.length c0) :: (.slice A1 p1.length c1) :: (.bool p2) :: un 3 ((u229 6) :: (.int .i32 x34) :: (u100 8) :: (.slice A77 l76.length c78) :: (u123 10) :: (.slice A93 l92.length c94) :: (u123 12) :: (.int .u8 x199) :: (u158 14) :: (u198 15) :: undef :: dd u5 17 9 ((u33 26) :: (.slice none 0 0) :: dd u100 28 3 ((.int .i32 x34) :: dd u100 32 33 (dd u123 65 15 (dd u158 80 27 (dd u198 107 24 (dd u229 131 16 (un 20 ([])))))))))).toArray, []⟩) a ∧ Ctl.go () = c230 ∧ St [] w0 w [rowE .u8 5 A77 c78 l76, rowE .u8 5 A93 c94 l92]) ?_ ?_
       ·refine gx_seq (fun K233 hK234 => ?_)
        refine gx_region ?_
        refine gx_kA (.slice A77 l76.length c78) w196 (gx_kA (.slice A0 p0.length c0) w196 (gx_kA (.int .i64 ((p0.length : Nat) : Int)) w196 ?_))
        obtain ⟨x235, hx236, hE231⟩ := bind_in hE231
        refine gx_vA (.pointer (Option.map (fun (p : Addr) => p.add (Int.toNat ((p0.length : Nat) : Int) * 1)) A77)) w196 (run_ixaddr (E := 5) (s := 1) (k := .i64) (c := c78) rfl (by as_aux_lemma => kernel_rfl) (by as_aux_lemma => kernel_rfl) (by as_aux_lemma => kernel_rfl) (fun _ => by kernel_rfl) (ix_in hx236).1 (ix_in hx236).2.1 (num_nil (hS197.row 0 rfl).1)) ?_
        refine gx_vA (.int .u8 x235) w196 (run_loadix rfl (by as_aux_lemma => kernel_rfl) (fun _ => by kernel_rfl) (hS197.row 0 rfl).1 hx236) ?_
        refine gx_kA (.int .u8 x199) w196 ?_
        rcases if_in hE231 with ⟨h237, hE231⟩ | ⟨h237, hE231⟩
        ·refine gx_vA (.bool true) w196 (run_boolE (ne_yes h237) (by as_aux_lemma => kernel_rfl)) ?_
         refine gx_kA (.bool true) w196 (gx_oA (gx_oA (gx_oA (gx_oA (gx_oA (gx_oA (gx_oA ?_)))))))
         refine gx_kA (.bool true) w196 ?_
         refine gx_nil ?_
         refine gx_thenN ?_
         refine hK234 _ _ ?_
         refine gx_yes (by as_aux_lemma => kernel_rfl) ?_
         refine gx_seq (fun K238 hK239 => ?_)
         refine gx_region ?_
         refine gx_kA (.bool false) w196 ?_
         refine gx_nil ?_
         refine gx_thenN ?_
         refine hK239 _ _ ?_
         refine gx_ret ?_
         refine gx_thenR ?_
         obtain rfl := Option.some.inj hE231
         try dsimp only at hO232
         obtain rfl := Option.some.inj hO232
         exact gx_fin (.bool false) (by as_aux_lemma => kernel_rfl) (by as_aux_lemma => kernel_rfl) ⟨_, rfl, rfl, (hS197.pick [] rfl rfl)⟩
        ·refine gx_vA (.bool false) w196 (run_boolE (ne_no h237) (by as_aux_lemma => kernel_rfl)) ?_
         refine gx_kA (.bool false) w196 (gx_kA (.slice A77 l76.length c78) w196 (gx_kA (.slice A0 p0.length c0) w196 (gx_kA (.int .i64 ((p0.length : Nat) : Int)) w196 (gx_kA (.int .i64 (IntKind.i64.wrap (((p0.length : Nat) : Int) + 1))) w196 ?_))))
         obtain ⟨x240, hx241, hE231⟩ := bind_in hE231
         refine gx_vA (.pointer (Option.map (fun (p : Addr) => p.add (Int.toNat (IntKind.i64.wrap (((p0.length : Nat) : Int) + 1)) * 1)) A77)) w196 (run_ixaddr (E := 5) (s := 1) (k := .i64) (c := c78) rfl (by as_aux_lemma => kernel_rfl) (by as_aux_lemma => kernel_rfl) (by as_aux_lemma => kernel_rfl) (fun _ => by kernel_rfl) (ix_in hx241).1 (ix_in hx241).2.1 (num_nil (hS197.row 0 rfl).1)) ?_
         refine gx_vA (.int .u8 x240) w196 (run_loadix rfl (by as_aux_lemma => kernel_rfl) (fun _ => by kernel_rfl) (hS197.row 0 rfl).1 hx241) ?_
         rcases if_in hE231 with ⟨h242, hE231⟩ | ⟨h242, hE231⟩
         ·refine gx_vA (.bool true) w196 (run_boolE (ne_yes h242) (by as_aux_lemma => kernel_rfl)) ?_
          refine gx_kA (.bool true) w196 ?_
          refine gx_nil ?_
          refine gx_thenN ?_
          refine hK234 _ _ ?_
          refine gx_yes (by as_aux_lemma => kernel_rfl) ?_
          refine gx_seq (fun K243 hK244 => ?_)
          refine gx_region ?_
          refine gx_kA (.bool false) w196 ?_
          refine gx_nil ?_
          refine gx_thenN ?_
          refine hK244 _ _ ?_
          refine gx_ret ?_
          refine gx_thenR ?_
          obtain rfl := Option.some.inj hE231
          try dsimp only at hO232
          obtain rfl := Option.some.inj hO232
          exact gx_fin (.bool false) (by as_aux_lemma => kernel_rfl) (by as_aux_lemma => kernel_rfl) ⟨_, rfl, rfl, (hS197.pick [] rfl rfl)⟩
         ·refine gx_vA (.bool false) w196 (run_boolE (ne_no h242) (by as_aux_lemma => kernel_rfl)) ?_
          refine gx_kA (.bool false) w196 ?_
          refine gx_nil ?_
          refine gx_thenN ?_
          refine hK234 _ _ ?_
          refine gx_no (by as_aux_lemma => kernel_rfl) ?_
          refine gx_pass ?_
          refine gx_thenN ?_
          exact ⟨selfA_i (by as_aux_lemma => kernel_rfl), (Option.some.inj hE231), hS197⟩
       ·rintro _ w227 ⟨hq287, rfl, hS228⟩
        obtain ⟨u229, rfl⟩ := selfA_u hq287
        try dsimp only at hO232
        obtain ⟨c248, hE249, hO250⟩ := bind_in hO232
        refine gx_cut (fun a w => selfA (fun u247 => ⟨(dd u247 0 2 ((.bool p2) :: un 3 ((u247 6) :: (.int .i32 x34) :: (u100 8) :: (u247 9) :: (u123 10) :: (u247 11) :: (u123 12) :: (.int .u8 x199) :: (u158 14) :: (u198 15) :: (u247 16) :: dd u5 17 9 ((u33 26) :: (.slice none 0 0) :: dd u100 28 3 ((.int .i32 x34) :: dd u100 32 33 (dd u123 65 15 (dd u158 80 27 (dd u198 107 24 (dd u229 131 16 (dd u247 147 19 (undef :: []))))))))))).toArray, []⟩) a ∧ Ctl.go () = c248 ∧ St [] w0 w []) ?_ ?_
        ·refine gx_seq (fun K251 hK252 => ?_)
         refine gx_region ?_
         refine gx_kA (.int .i64 1) w227 ?_
         refine gx_nil ?_
         refine gx_thenN ?_
         refine hK252 _ _ ?_
         refine gx_block ?_
         refine gx_loop (fun k a w => ∃ (x256 : Int), selfA (fun u255 => ⟨((.slice A0 p0.length c0) :: (.slice A1 p1.length c1) :: (.bool p2) :: un 3 ((u255 6) :: (.int .i32 x34) :: (u100 8) :: (.slice A77 l76.length c78) :: (u123 10) :: (.slice A93 l92.length c94) :: (u123 12) :: (.int .u8 x199) :: (u158 14) :: (u198 15) :: (.int .i64 x256) :: dd u5 17 9 ((u33 26) :: (.slice none 0 0) :: dd u100 28 3 ((.int .i32 x34) :: dd u100 32 33 (dd u123 65 15 (dd u158 80 27 (dd u198 107 24 (dd u229 131 16 (dd u255 147 19 (undef :: [])))))))))).toArray, []⟩) a ∧ fParagraphs_L2 N p0 p1 l76 l92 k x256 = some c248 ∧ St [] w0 w [rowE .u8 5 A77 c78 l76, rowE .u8 5 A93 c94 l92]) N ?_ ?_
         ·exact ⟨1, selfA_i (by as_aux_lemma => kernel_rfl), hE249, hS228⟩
         ·rintro k257 _ w253 ⟨x256, hq277, hL258, hS254⟩
          obtain ⟨u255, rfl⟩ := selfA_u hq277
          cases k257 with
          | zero => cases hL258
          | succ k257 =>
           first | rw [fParagraphs_L2] at hL258 | unfold fParagraphs_L2 at hL258
           refine gx_seq (fun K259 hK260 => ?_)
           refine gx_seq (fun K261 hK262 => ?_)
           refine gx_region ?_
           refine gx_kA (.int .i64 x256) w253 (gx_kA (.slice A1 p1.length c1) w253 (gx_kA (.int .i64 ((p1.length : Nat) : Int)) w253 ?_))
           rcases if_in hL258 with ⟨h263, hL258⟩ | ⟨h263, hL258⟩
           ·refine gx_vA (.bool true) w253 (run_boolE (decide_eq_true h263) (by as_aux_lemma => kernel_rfl)) ?_
            refine gx_nil ?_
            refine gx_thenN ?_
            refine hK262 _ _ ?_
            refine gx_yes (by as_aux_lemma => kernel_rfl) ?_
            refine gx_pass ?_
            refine gx_thenN ?_
            refine hK260 _ _ ?_
            refine gx_seq (fun K264 hK265 => ?_)
            refine gx_block ?_
            refine gx_seq (fun K266 hK267 => ?_)
            refine gd_start (fun w => St [] w0 w [rowE .u8 5 A77 c78 l76, rowE .u8 5 A93 c94 l92]) 13 #[false, false, false, false, false, false, false, false, false, false, false, false, false] (by as_aux_lemma => kernel_rfl) (by as_aux_lemma => kernel_rfl) ?_
            have hS269 := hS254.drew
            generalize w253.drew = w268 at hS269 ⊢
            refine gv1 0 153 (.slice A77 l76.length c78) rfl hS269 ?_
            refine gv1 1 154 (.slice A0 p0.length c0) rfl hS269 ?_
            refine gv1 2 155 (.int .i64 ((p0.length : Nat) : Int)) rfl hS269 ?_
            refine gv1 3 156 (.int .i64 (IntKind.i64.wrap (((p0.length : Nat) : Int) + 1))) rfl hS269 ?_
            refine gv1 4 157 (.int .i64 x256) rfl hS269 ?_
            refine gv1 5 158 (.int .i64 (IntKind.i64.wrap ((IntKind.i64.wrap (((p0.length : Nat) : Int) + 1)) + x256))) rfl hS269 ?_
            obtain ⟨x270, hx271, hL258⟩ := bind_in hL258
            refine gu1 6 159 (.pointer (Option.map (fun (p : Addr) => p.add (Int.toNat (IntKind.i64.wrap ((IntKind.i64.wrap (((p0.length : Nat) : Int) + 1)) + x256)) * 1)) A77)) rfl hS269 (fun w hSw => run_ixaddr (E := 5) (s := 1) (k := .i64) (c := c78) rfl (by as_aux_lemma => kernel_rfl) (by as_aux_lemma => kernel_rfl) (by as_aux_lemma => kernel_rfl) (fun _ => by kernel_rfl) (ix_in hx271).1 (ix_in hx271).2.1 (num_nil (hS269.row 0 rfl).1)) ?_
            refine gu1 7 160 (.int .u8 x270) rfl hS269 (fun w hSw => run_loadix rfl (by as_aux_lemma => kernel_rfl) (fun _ => by kernel_rfl) (hSw.row 0 rfl).1 hx271) ?_
            refine gv1 8 161 (.slice A93 l92.length c94) rfl hS269 ?_
            refine gv1 9 162 (.int .i64 x256) rfl hS269 ?_
            obtain ⟨x272, hx273, hL258⟩ := bind_in hL258
            refine gu1 10 163 (.pointer (Option.map (fun (p : Addr) => p.add (Int.toNat x256 * 1)) A93)) rfl hS269 (fun w hSw => run_ixaddr (E := 5) (s := 1) (k := .i64) (c := c94) rfl (by as_aux_lemma => kernel_rfl) (by as_aux_lemma => kernel_rfl) (by as_aux_lemma => kernel_rfl) (fun _ => by kernel_rfl) (ix_in hx273).1 (ix_in hx273).2.1 (num_nil (hS269.row 1 rfl).1)) ?_
            refine gu1 11 164 (.int .u8 x272) rfl hS269 (fun w hSw => run_loadix rfl (by as_aux_lemma => kernel_rfl) (fun _ => by kernel_rfl) (hSw.row 1 rfl).1 hx273) ?_
            rcases if_in hL258 with ⟨h274, hL258⟩ | ⟨h274, hL258⟩
            ·refine gu1 12 165 (.bool true) rfl hS269 (fun w hSw => run_boolE (ne_yes h274) (by as_aux_lemma => kernel_rfl)) ?_
             refine gd_done (by as_aux_lemma => kernel_rfl) ?_
             refine gx_thenN ?_
             refine hK267 _ _ ?_
             refine gx_yes (by as_aux_lemma => kernel_rfl) ?_
             refine gx_seq (fun K275 hK276 => ?_)
             refine gx_region ?_
             refine gx_kA (.bool false) w268 ?_
             refine gx_nil ?_
             refine gx_thenN ?_
             refine hK276 _ _ ?_
             refine gx_ret ?_
             refine gx_blkR ?_
             refine gx_thenR ?_
             refine gx_thenR ?_
             refine gx_blkR ?_
             refine gx_thenR ?_
             obtain rfl := Option.some.inj hL258
             try dsimp only at hO250
             obtain rfl := Option.some.inj hO250
             exact gx_fin (.bool false) (by as_aux_lemma => kernel_rfl) (by as_aux_lemma => kernel_rfl) ⟨_, rfl, rfl, (hS269.pick [] rfl rfl)⟩
            ·refine gu1 12 165 (.bool false) rfl hS269 (fun w hSw => run_boolE (ne_no h274) (by as_aux_lemma => kernel_rfl)) ?_
             refine gd_done (by as_aux_lemma => kernel_rfl) ?_
             refine gx_thenN ?_
             refine hK267 _ _ ?_
             refine gx_no (by as_aux_lemma => kernel_rfl) ?_
             refine gx_pass ?_
             refine gx_blkN ?_
             refine gx_thenN ?_
             refine hK265 _ _ ?_
             refine gx_region ?_
             refine gx_kA (.int .i64 x256) w268 (gx_kA (.int .i64 (IntKind.i64.wrap (x256 + 1))) w268 (gx_kA (.int .i64 (IntKind.i64.wrap (x256 + 1))) w268 ?_))
             refine gx_nil ?_
             refine gx_thenN ?_
             exact ⟨k257, Nat.lt_succ_self k257, (IntKind.i64.wrap (x256 + 1)), selfA_i (by as_aux_lemma => kernel_rfl), hL258, hS269⟩
           ·refine gx_vA (.bool false) w253 (run_boolE (decide_eq_false h263) (by as_aux_lemma => kernel_rfl)) ?_
            refine gx_nil ?_
            refine gx_thenN ?_
            refine hK262 _ _ ?_
            refine gx_no (by as_aux_lemma => kernel_rfl) ?_
            refine gx_exit ?_
            refine gx_thenE ?_
            refine gx_thenE ?_
            refine gx_blkE ?_
            refine gx_thenN ?_
            exact ⟨selfA_i (by as_aux_lemma => kernel_rfl), (Option.some.inj hL258), (hS254.pick [] rfl rfl)⟩
        ·rintro _ w245 ⟨hq286, rfl, hS246⟩
         obtain ⟨u247, rfl⟩ := selfA_u hq286
         try dsimp only at hO250
         refine gx_seq (fun K278 hK279 => ?_)
         refine gx_region ?_
         have hP280 : St _ _ w245 ([] ++ []) := hS246
         obtain ⟨b282, hc281, hO250⟩ := bind_in hO250
         try dsimp only at hO250
         refine gx_cA (kWorks_R b282 w245) (kWorks_ok N  _ hc281 w245 ) ?_
         rintro _ w283 ⟨rfl, hT285⟩
         have hS284 : St _ _ w283 [] := hS246.take _ hT285
         refine gx_kA (.bool b282) w283 ?_
         refine gx_nil ?_
         refine gx_thenN ?_
         refine hK279 _ _ ?_
         refine gx_ret ?_
         obtain rfl := Option.some.inj hO250
         exact gx_fin (.bool b282) (by as_aux_lemma => kernel_rfl) (by as_aux_lemma => kernel_rfl) ⟨_, rfl, rfl, hS284⟩
end Go.Proofs.Ytdbimchiecdkoaa
