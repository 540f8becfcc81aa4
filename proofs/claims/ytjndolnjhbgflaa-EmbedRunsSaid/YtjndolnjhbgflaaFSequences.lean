/-
  EmbedSequences, walked.
-/
import Derived.Test.YtjndolnjhbgflaaF1
namespace Go.Proofs.Ytjndolnjhbgflaa
open Go Go.RowKit
set_option linter.unusedVariables false

def fSequences_L3 (N : Nat) (x155 : Int) : Nat → Int → (List (List Int × Int × Int × Int)) → Option (List (List Int × Int × Int × Int))
 | 0, _, _ => none
 | k184+1, x180, l181 => ((ixg l181 x155).bind fun x190 => (if x180 < (((x190.1).length : Nat) : Int) then ((ix x190.1 x180).bind fun _x200 => ((setx x190.1 x180 0).bind fun l202 => ((setg l181 x155 (l202, x190.2.1, x190.2.2.1, x190.2.2.2)).bind fun l203 => fSequences_L3 N x155 k184 (IntKind.i64.wrap (x180 + 1)) l203))) else some (l181)))
def fSequences_L2 (N : Nat) (l113 : List (List Int × Int × Int × Int)) : Nat → Int → (List (List Int × Int × Int × Int)) → Option (Ctl (Unit) (Bool))
 | 0, _, _ => none
 | k159+1, x155, l156 => (if x155 < ((l113.length : Nat) : Int) then ((fSequences_L3 N x155 N 0 l156 : Option (List (List Int × Int × Int × Int))).bind fun l169 => fSequences_L2 N l113 k159 (IntKind.i64.wrap (x155 + 1)) l169) else some (Ctl.go ()))
def fSequences_L1 (N : Nat) (p1 : List Int) (p2 : Int) (l36 : List Int) (l46 : List Int) (l57 : List (List Int × Int × Int × Int)) (x62 : Int) : Nat → Int → Option (Ctl (Unit) (Bool))
 | 0, _ => none
 | k93+1, x92 => (if x92 < 2 then ((((pSeqs N l36 l46 p2).bind fun (l113, x117) => (((((if x117 ≠ x62 then some (true) else ((kAlike N l113 l57).bind fun b140 => (match b140 with | true => some (false) | false => some (true)))) : Option (Bool)).bind fun b132 => (match b132 with | true => some (Ctl.ret false) | false => ((some (!((strOfNums l46).toList == (strOfNums p1).toList))).bind fun b146 => (match b146 with | true => some (Ctl.ret false) | false => some (Ctl.go ()))))) : Option (Ctl (Unit) (Bool))).bind fun | Ctl.go () => fSequences_L2 N l113 N 0 l113 | Ctl.ret r => some (Ctl.ret r))) : Option (Ctl (Unit) (Bool))).bind fun | Ctl.go () => fSequences_L1 N p1 p2 l36 l46 l57 x62 k93 (IntKind.i64.wrap (x92 + 1)) | Ctl.ret r => some (Ctl.ret r)) else some (Ctl.go ()))
def fSequences_L4 (N : Nat) (p0 : List Int) (l36 : List Int) : Nat → Int → Option (Ctl (Unit) (Bool))
 | 0, _ => none
 | k228+1, x227 => (if x227 < ((p0.length : Nat) : Int) then ((ix l36 x227).bind fun x241 => ((ix p0 x227).bind fun x243 => (if x241 ≠ x243 then some (Ctl.ret false) else fSequences_L4 N p0 l36 k228 (IntKind.i64.wrap (x227 + 1))))) else some (Ctl.go ()))
def fSequences (N : Nat) (p0 : List Int) (p1 : List Int) (p2 : Int) : Option (Bool) :=
 (((if ((p0.length : Nat) : Int) > 2000 then ((kIso N ).bind fun b16 => some (Ctl.ret b16)) else (if ((p1.length : Nat) : Int) > 2000 then ((kIso N ).bind fun b25 => some (Ctl.ret b25)) else some (Ctl.go ()))) : Option (Ctl (Unit) (Bool))).bind fun | Ctl.go () => ((apx ([]) p0).bind fun l36 => ((apx ([]) p1).bind fun l46 => ((rSeqs N p0 p1 p2).bind fun (l57, x62) => ((fSequences_L1 N p1 p2 l36 l46 l57 x62 N 0 : Option (Ctl (Unit) (Bool))).bind fun | Ctl.go () => ((fSequences_L4 N p0 l36 N 0 : Option (Ctl (Unit) (Bool))).bind fun | Ctl.go () => ((kIso N ).bind fun b253 => some b253) | Ctl.ret r => some r) | Ctl.ret r => some r)))) | Ctl.ret r => some r)

set_option linter.unusedVariables false in
def fSequences_R (r : Bool) (w0 : World) (v : Value) (w : World) : Prop := v = .bool r ∧ St [] w0 w []

set_option maxRecDepth 100000 in
set_option maxHeartbeats 4000000 in
theorem fSequences_ok (N : Nat) (p0 : List Int) (p1 : List Int) (p2 : Int) (A0 : Option Addr) (c0 : Nat) (A1 : Option Addr) (c1 : Nat) (r : Bool) (hF : fSequences N p0 p1 p2 = some r) (w0 : World) (hv0 : Vw [] .u8 w0 A0 c0 p0) (hv1 : Vw [] .u8 w0 A1 c1 p1) :
  Calls Try.prog 3 #[.slice A0 p0.length c0, .slice A1 p1.length c1, .int .u8 p2] w0 fun e w => ∃ v, e = .returned v ∧ fSequences_R r w0 v w := by
 have hS0 := (St.start w0).pool0
 unfold fSequences at hF
 refine calls_of Try.func3 rfl ⟨((.slice A0 p0.length c0) :: (.slice A1 p1.length c1) :: (.int .u8 p2) :: un 102 ([])).toArray, []⟩ (by kernel_rfl) ?_
 refine gx_seq (fun K1 hK2 => ?_)
 refine gx_region ?_
 refine gx_k (.bool false) w0 ?_
 refine gx_nil ?_
 refine gx_thenN ?_
 refine hK2 _ _ ?_
 obtain ⟨c6, hE7, hO8⟩ := bind_in hF
 refine gx_cut (fun a w => selfA (fun u5 => ⟨((.slice A0 p0.length c0) :: (.slice A1 p1.length c1) :: (.int .u8 p2) :: un 3 ((u5 6) :: un 10 (dd u5 17 9 (un 79 ([]))))).toArray, []⟩) a ∧ Ctl.go () = c6 ∧ St [] w0 w [poolE ([]) w0]) ?_ ?_
 ·refine gx_seq (fun K9 hK10 => ?_)
  refine gx_region ?_
  refine gx_k (.slice A0 p0.length c0) w0 (gx_k (.int .i64 ((p0.length : Nat) : Int)) w0 ?_)
  rcases if_in hE7 with ⟨h11, hE7⟩ | ⟨h11, hE7⟩
  ·refine gx_v (.bool true) w0 (run_boolE (decide_eq_true h11) (by kernel_rfl)) ?_
   refine gx_k (.bool true) w0 (gx_o (gx_o (gx_o (gx_k (.bool true) w0 ?_))))
   refine gx_nil ?_
   refine gx_thenN ?_
   refine hK10 _ _ ?_
   refine gx_yes (by kernel_rfl) ?_
   refine gx_seq (fun K12 hK13 => ?_)
   refine gx_region ?_
   have hP14 : St _ _ w0 ([] ++ [poolE ([]) w0]) := hS0
   obtain ⟨b16, hc15, hE7⟩ := bind_in hE7
   try dsimp only at hE7
   refine gx_c (kIso_R b16 w0) (kIso_ok N  _ hc15 w0 ) ?_
   rintro _ w17 ⟨rfl, hT19⟩
   have hS18 : St _ _ w17 [poolE ([]) w0] := hS0.take _ hT19
   refine gx_k (.bool b16) w17 ?_
   refine gx_nil ?_
   refine gx_thenN ?_
   refine hK13 _ _ ?_
   refine gx_ret ?_
   refine gx_thenR ?_
   obtain rfl := Option.some.inj hE7
   try dsimp only at hO8
   obtain rfl := Option.some.inj hO8
   exact gx_fin (.bool b16) (by kernel_rfl) (by kernel_rfl) ⟨_, rfl, rfl, (hS18.pick [] rfl rfl)⟩
  ·refine gx_v (.bool false) w0 (run_boolE (decide_eq_false h11) (by kernel_rfl)) ?_
   refine gx_k (.bool false) w0 (gx_k (.slice A1 p1.length c1) w0 (gx_k (.int .i64 ((p1.length : Nat) : Int)) w0 ?_))
   rcases if_in hE7 with ⟨h20, hE7⟩ | ⟨h20, hE7⟩
   ·refine gx_v (.bool true) w0 (run_boolE (decide_eq_true h20) (by kernel_rfl)) ?_
    refine gx_k (.bool true) w0 ?_
    refine gx_nil ?_
    refine gx_thenN ?_
    refine hK10 _ _ ?_
    refine gx_yes (by kernel_rfl) ?_
    refine gx_seq (fun K21 hK22 => ?_)
    refine gx_region ?_
    have hP23 : St _ _ w0 ([] ++ [poolE ([]) w0]) := hS0
    obtain ⟨b25, hc24, hE7⟩ := bind_in hE7
    try dsimp only at hE7
    refine gx_c (kIso_R b25 w0) (kIso_ok N  _ hc24 w0 ) ?_
    rintro _ w26 ⟨rfl, hT28⟩
    have hS27 : St _ _ w26 [poolE ([]) w0] := hS0.take _ hT28
    refine gx_k (.bool b25) w26 ?_
    refine gx_nil ?_
    refine gx_thenN ?_
    refine hK22 _ _ ?_
    refine gx_ret ?_
    refine gx_thenR ?_
    obtain rfl := Option.some.inj hE7
    try dsimp only at hO8
    obtain rfl := Option.some.inj hO8
    exact gx_fin (.bool b25) (by kernel_rfl) (by kernel_rfl) ⟨_, rfl, rfl, (hS27.pick [] rfl rfl)⟩
   ·refine gx_v (.bool false) w0 (run_boolE (decide_eq_false h20) (by kernel_rfl)) ?_
    refine gx_k (.bool false) w0 ?_
    refine gx_nil ?_
    refine gx_thenN ?_
    refine hK10 _ _ ?_
    refine gx_no (by kernel_rfl) ?_
    refine gx_pass ?_
    refine gx_thenN ?_
    exact ⟨selfA_i (by kernel_rfl), (Option.some.inj hE7), hS0⟩
 ·rintro _ w3 ⟨hq259, rfl, hS4⟩
  obtain ⟨u5, rfl⟩ := selfA_u hq259
  try dsimp only at hO8
  refine gx_seq (fun K29 hK30 => ?_)
  refine gx_region ?_
  refine gx_k (.slice none 0 0) w3 ?_
  refine gx_nil ?_
  refine gx_thenN ?_
  refine hK30 _ _ ?_
  refine gx_seq (fun K31 hK32 => ?_)
  refine gx_region ?_
  refine gx_k (.slice none 0 0) w3 ?_
  refine gx_nil ?_
  refine gx_thenN ?_
  refine hK32 _ _ ?_
  refine gx_seq (fun K33 hK34 => ?_)
  refine gx_region ?_
  refine gx_k (.slice none 0 0) w3 (gx_k (.slice A0 p0.length c0) w3 ?_)
  have hS35 : St _ _ w3 [poolE ([]) w0, rowE .u8 34 none 0 ([])] := hS4.nilrow .u8 34
  obtain ⟨l36, ha37, hO8⟩ := bind_in hO8
  obtain ⟨ha37, hq38⟩ := apx_in ha37
  refine gx_r (st_append rfl (by kernel_rfl) (by kernel_rfl) hS35 1 rfl (hS35.view hv0) hv0.nn ha37 (by kernel_rfl) (by kernel_rfl)) ?_
  rintro _ w41 ⟨A39, c40, rfl, hS42⟩
  rw [← hq38] at hS42 ⊢
  have hS42 : St _ _ w41 [poolE ([]) w0, rowE .u8 34 A39 c40 l36] := hS42
  refine gx_k (.slice A39 l36.length c40) w41 ?_
  refine gx_nil ?_
  refine gx_thenN ?_
  refine hK34 _ _ ?_
  refine gx_seq (fun K43 hK44 => ?_)
  refine gx_region ?_
  refine gx_k (.slice none 0 0) w41 (gx_k (.slice A1 p1.length c1) w41 ?_)
  have hS45 : St _ _ w41 [poolE ([]) w0, rowE .u8 34 A39 c40 l36, rowE .u8 5 none 0 ([])] := hS42.nilrow .u8 5
  obtain ⟨l46, ha47, hO8⟩ := bind_in hO8
  obtain ⟨ha47, hq48⟩ := apx_in ha47
  refine gx_r (st_append rfl (by kernel_rfl) (by kernel_rfl) hS45 2 rfl (hS45.view hv1) hv1.nn ha47 (by kernel_rfl) (by kernel_rfl)) ?_
  rintro _ w51 ⟨A49, c50, rfl, hS52⟩
  rw [← hq48] at hS52 ⊢
  have hS52 : St _ _ w51 [poolE ([]) w0, rowE .u8 34 A39 c40 l36, rowE .u8 5 A49 c50 l46] := hS52
  refine gx_k (.slice A49 l46.length c50) w51 ?_
  refine gx_nil ?_
  refine gx_thenN ?_
  refine hK44 _ _ ?_
  refine gx_seq (fun K53 hK54 => ?_)
  refine gx_region ?_
  refine gx_k (.slice A0 p0.length c0) w51 (gx_k (.slice A1 p1.length c1) w51 (gx_k (.int .u8 p2) w51 ?_))
  have hP55 : St _ _ w51 ([] ++ [poolE ([]) w0, rowE .u8 34 A39 c40 l36, rowE .u8 5 A49 c50 l46]) := hS52
  obtain ⟨⟨l57, x62⟩, hc56, hO8⟩ := bind_in hO8
  try dsimp only at hO8
  refine gx_c (rSeqs_R (l57, x62) w51) (rSeqs_ok N p0 p1 p2 A0 c0 A1 c1 _ hc56 w51 (hP55.vwA hv0) (hP55.vwA hv1)) ?_
  rintro _ w64 ⟨A58, c59, vs60, ft63, rfl, hT66, hf61⟩
  have hS65 : St _ _ w64 [poolE ([]) w0, rowE .u8 34 A39 c40 l36, rowE .u8 5 A49 c50 l46, rowG 55 4 (.slice A58 l57.length c59) l57.length vs60, poolE ft63 w64] := hS52.take _ hT66
  obtain ⟨ft67, W68, hS69, hT70, hU71⟩ := hS65.merge 4 0 rfl rfl (by decide)
  have hS69 : St _ _ w64 [poolE ft67 W68, rowE .u8 34 A39 c40 l36, rowE .u8 5 A49 c50 l46, rowG 55 4 (.slice A58 l57.length c59) l57.length vs60] := hS69
  have hT70 : Turn [] w0 w0 ([]) W68 ft67 := hT70
  have hf74 : (fEach enccalamusref10Seq vs60 l57).rd W68 ft67 := hU71 _ hf61
  refine gx_k (.tuple #[.slice A58 l57.length c59, .int .i64 x62]) w64 (gx_k (.slice A58 l57.length c59) w64 (gx_k (.int .i64 x62) w64 (gx_k (.slice A58 l57.length c59) w64 (gx_k (.int .i64 x62) w64 ?_))))
  refine gx_nil ?_
  refine gx_thenN ?_
  refine hK54 _ _ ?_
  obtain ⟨c81, hE82, hO83⟩ := bind_in hO8
  refine gx_cut (fun a w => ∃ (ft78 : List Nat) (W79 : World), selfA (fun u77 => ⟨((.slice A0 p0.length c0) :: (u77 1) :: (.int .u8 p2) :: un 3 ((u77 6) :: (.slice A39 l36.length c40) :: dd u77 8 2 ((.int .i64 x62) :: dd u77 11 5 (undef :: dd u5 17 9 ((.slice none 0 0) :: dd u77 27 2 ((.slice none 0 0) :: dd u77 30 5 ((.int .u8 p2) :: dd u77 36 2 ((.int .i64 x62) :: dd u77 39 50 (un 16 ([])))))))))).toArray, []⟩) a ∧ Ctl.go () = c81 ∧ St [] w0 w [poolE ft78 W79, rowE .u8 34 A39 c40 l36] ∧ Turn [] w0 W68 ft67 W79 ft78) ?_ ?_
  ·refine gx_seq (fun K84 hK85 => ?_)
   refine gx_region ?_
   refine gx_k (.int .i64 0) w64 ?_
   refine gx_nil ?_
   refine gx_thenN ?_
   refine hK85 _ _ ?_
   refine gx_block ?_
   refine gx_loop (fun k a w => ∃ (x92 : Int) (ft89 : List Nat) (W90 : World), selfA (fun u88 => ⟨((.slice A0 p0.length c0) :: (.slice A1 p1.length c1) :: (.int .u8 p2) :: un 3 ((u88 6) :: (.slice A39 l36.length c40) :: (.slice A49 l46.length c50) :: (.slice A58 l57.length c59) :: (.int .i64 x62) :: (.int .i64 x92) :: dd u88 12 4 (undef :: dd u5 17 9 ((.slice none 0 0) :: dd u88 27 2 ((.slice none 0 0) :: dd u88 30 5 ((.int .u8 p2) :: dd u88 36 2 ((.int .i64 x62) :: dd u88 39 50 (un 16 ([]))))))))).toArray, []⟩) a ∧ fSequences_L1 N p1 p2 l36 l46 l57 x62 k x92 = some c81 ∧ St [] w0 w [poolE ft89 W90, rowE .u8 34 A39 c40 l36, rowE .u8 5 A49 c50 l46, rowG 55 4 (.slice A58 l57.length c59) l57.length vs60] ∧ Turn [] w0 W68 ft67 W90 ft89) N ?_ ?_
   ·exact ⟨0, ft67, W68, selfA_i (by kernel_rfl), hE82, hS69, (Turn.refl _ _ _ _)⟩
   ·rintro k93 _ w86 ⟨x92, ft89, W90, hq215, hL94, hS87, hT91⟩
    obtain ⟨u88, rfl⟩ := selfA_u hq215
    cases k93 with
    | zero => cases hL94
    | succ k93 =>
     first | rw [fSequences_L1] at hL94 | unfold fSequences_L1 at hL94
     refine gx_seq (fun K95 hK96 => ?_)
     refine gx_seq (fun K97 hK98 => ?_)
     refine gx_region ?_
     refine gx_k (.int .i64 x92) w86 ?_
     rcases if_in hL94 with ⟨h99, hL94⟩ | ⟨h99, hL94⟩
     ·refine gx_v (.bool true) w86 (run_boolE (decide_eq_true h99) (by kernel_rfl)) ?_
      refine gx_nil ?_
      refine gx_thenN ?_
      refine hK98 _ _ ?_
      refine gx_yes (by kernel_rfl) ?_
      refine gx_pass ?_
      refine gx_thenN ?_
      refine hK96 _ _ ?_
      obtain ⟨c106, hE107, hO108⟩ := bind_in hL94
      refine gx_cut (fun a w => ∃ (ft103 : List Nat) (W104 : World), selfA (fun u102 => ⟨((.slice A0 p0.length c0) :: (.slice A1 p1.length c1) :: (.int .u8 p2) :: un 3 ((u102 6) :: (.slice A39 l36.length c40) :: (.slice A49 l46.length c50) :: (.slice A58 l57.length c59) :: (.int .i64 x62) :: (.int .i64 x92) :: dd u102 12 4 (undef :: dd u5 17 9 ((.slice none 0 0) :: dd u88 27 2 ((.slice none 0 0) :: dd u88 30 5 ((.int .u8 p2) :: dd u88 36 2 ((.int .i64 x62) :: (.int .i64 x92) :: (.bool true) :: dd u88 41 2 (dd u102 43 46 (un 16 ([])))))))))).toArray, []⟩) a ∧ Ctl.go () = c106 ∧ St [] w0 w [poolE ft103 W104, rowE .u8 34 A39 c40 l36, rowE .u8 5 A49 c50 l46, rowG 55 4 (.slice A58 l57.length c59) l57.length vs60] ∧ Turn [] w0 W90 ft89 W104 ft103) ?_ ?_
      ·refine gx_block ?_
       refine gx_seq (fun K109 hK110 => ?_)
       refine gx_region ?_
       refine gx_k (.slice A39 l36.length c40) w86 (gx_k (.slice A49 l46.length c50) w86 (gx_k (.int .u8 p2) w86 ?_))
       have hP111 : St _ _ w86 ([] ++ [poolE ft89 W90, rowE .u8 34 A39 c40 l36, rowE .u8 5 A49 c50 l46, rowG 55 4 (.slice A58 l57.length c59) l57.length vs60]) := hS87
       obtain ⟨⟨l113, x117⟩, hc112, hE107⟩ := bind_in hE107
       try dsimp only at hE107
       refine gx_c (pSeqs_R (l113, x117) w86) (pSeqs_ok N l36 l46 p2 A39 c40 A49 c50 _ hc112 w86 (hP111.vwB 1 rfl) (hP111.vwB 2 rfl)) ?_
       rintro _ w118 ⟨A114, c115, ads116, rfl, hT120⟩
       have hS119 : St _ _ w118 [poolE ft89 W90, rowE .u8 34 A39 c40 l36, rowE .u8 5 A49 c50 l46, rowG 55 4 (.slice A58 l57.length c59) l57.length vs60, rowO oembedSeq 36 A114 l113.length c115 ads116 l113] := hS87.take _ hT120
       refine gx_k (.tuple #[.slice A114 l113.length c115, .int .i64 x117]) w118 (gx_k (.slice A114 l113.length c115) w118 (gx_k (.int .i64 x117) w118 (gx_k (.slice A114 l113.length c115) w118 (gx_k (.int .i64 x117) w118 ?_))))
       refine gx_nil ?_
       refine gx_thenN ?_
       refine hK110 _ _ ?_
       obtain ⟨c124, hE125, hO126⟩ := bind_in hE107
       refine gx_cut (fun a w => selfA (fun u123 => ⟨((.slice A0 p0.length c0) :: (.slice A1 p1.length c1) :: (.int .u8 p2) :: un 3 ((u123 6) :: (.slice A39 l36.length c40) :: (.slice A49 l46.length c50) :: (.slice A58 l57.length c59) :: (.int .i64 x62) :: (.int .i64 x92) :: (.slice A114 l113.length c115) :: (.int .i64 x117) :: dd u88 14 2 (undef :: dd u5 17 9 ((.slice none 0 0) :: dd u88 27 2 ((.slice none 0 0) :: dd u88 30 5 ((.int .u8 p2) :: dd u88 36 2 ((.int .i64 x62) :: (.int .i64 x92) :: (.bool true) :: dd u88 41 2 (dd u123 43 3 ((.int .u8 p2) :: dd u123 47 2 ((.int .i64 x117) :: dd u123 50 16 (dd u88 66 23 (un 16 ([]))))))))))))).toArray, []⟩) a ∧ Ctl.go () = c124 ∧ St [] w0 w [poolE ft89 W90, rowE .u8 34 A39 c40 l36, rowE .u8 5 A49 c50 l46, rowG 55 4 (.slice A58 l57.length c59) l57.length vs60, rowO oembedSeq 36 A114 l113.length c115 ads116 l113]) ?_ ?_
       ·refine gx_seq (fun K127 hK128 => ?_)
        refine gx_region ?_
        refine gx_k (.int .i64 x117) w118 (gx_k (.int .i64 x62) w118 ?_)
        obtain ⟨c133, hE134, hO135⟩ := bind_in hE125
        refine gx_part (l1 := [_, _, _, _, _, _, _]) (fun a w => ∃ (b132 : Bool), selfA (fun u131 => ⟨((.slice A0 p0.length c0) :: (.slice A1 p1.length c1) :: (.int .u8 p2) :: un 3 ((u88 6) :: (.slice A39 l36.length c40) :: (.slice A49 l46.length c50) :: (.slice A58 l57.length c59) :: (.int .i64 x62) :: (.int .i64 x92) :: (.slice A114 l113.length c115) :: (.int .i64 x117) :: dd u88 14 2 (undef :: dd u5 17 9 ((.slice none 0 0) :: dd u88 27 2 ((.slice none 0 0) :: dd u88 30 5 ((.int .u8 p2) :: dd u88 36 2 ((.int .i64 x62) :: (.int .i64 x92) :: (.bool true) :: dd u88 41 2 (dd u131 43 3 ((.int .u8 p2) :: dd u131 47 2 ((.int .i64 x117) :: (.int .i64 x117) :: (.int .i64 x62) :: dd u131 52 6 ((.bool b132) :: dd u88 59 30 (un 16 ([]))))))))))))).toArray, []⟩) a ∧ b132 = c133 ∧ St [] w0 w [poolE ft89 W90, rowE .u8 34 A39 c40 l36, rowE .u8 5 A49 c50 l46, rowG 55 4 (.slice A58 l57.length c59) l57.length vs60, rowO oembedSeq 36 A114 l113.length c115 ads116 l113]) rfl ?_ ?_
        ·rcases if_in hE134 with ⟨h137, hE134⟩ | ⟨h137, hE134⟩
         ·refine gx_v (.bool true) w118 (run_boolE (ne_yes h137) (by kernel_rfl)) ?_
          refine gx_k (.bool true) w118 (gx_o (gx_o (gx_o (gx_o (gx_k (.bool true) w118 ?_)))))
          refine gx_nil ?_
          refine gx_thenN ?_
          exact ⟨true, selfA_i (by kernel_rfl), (Option.some.inj hE134), hS119⟩
         ·refine gx_v (.bool false) w118 (run_boolE (ne_no h137) (by kernel_rfl)) ?_
          refine gx_k (.bool false) w118 (gx_k (.slice A114 l113.length c115) w118 (gx_k (.slice A58 l57.length c59) w118 ?_))
          have hP138 : St _ _ w118 ([] ++ [poolE ft89 W90, rowE .u8 34 A39 c40 l36, rowE .u8 5 A49 c50 l46, rowG 55 4 (.slice A58 l57.length c59) l57.length vs60, rowO oembedSeq 36 A114 l113.length c115 ads116 l113]) := hS119
          obtain ⟨b140, hc139, hE134⟩ := bind_in hE134
          try dsimp only at hE134
          refine gx_c (kAlike_R b140 w118) (kAlike_ok N l113 l57 A114 c115 (cellsB oembedSeq ads116 l113) ((rowO oembedSeq 36 A114 l113.length c115 ads116 l113).foot ++ []) A58 c59 vs60 ((rowG 55 4 (.slice A58 l57.length c59) l57.length vs60).foot ++ ft89) _ hc139 w118 (hS119.slO 4 rfl) (hP138.offRA 4 rfl (fun _ h => by cases h)) (rowG_sl (e := enccalamusref10Seq) rfl (hS119.get 3 rfl) (hS119.now 0 rfl (hT91.pool hf74))) (hP138.offRA 3 rfl (hP138.offPA 0 rfl))) ?_
          rintro _ w141 ⟨rfl, hT143⟩
          have hS142 : St _ _ w141 [poolE ft89 W90, rowE .u8 34 A39 c40 l36, rowE .u8 5 A49 c50 l46, rowG 55 4 (.slice A58 l57.length c59) l57.length vs60, rowO oembedSeq 36 A114 l113.length c115 ads116 l113] := hS119.take _ hT143
          cases b140 with
          | true =>
           try dsimp only at hE134
           refine gx_k (.bool false) w141 (gx_k (.bool false) w141 ?_)
           refine gx_nil ?_
           refine gx_thenN ?_
           exact ⟨false, selfA_i (by kernel_rfl), (Option.some.inj hE134), hS142⟩
          | false =>
           try dsimp only at hE134
           refine gx_k (.bool true) w141 (gx_k (.bool true) w141 ?_)
           refine gx_nil ?_
           refine gx_thenN ?_
           exact ⟨true, selfA_i (by kernel_rfl), (Option.some.inj hE134), hS142⟩
        ·rintro _ w129 ⟨b132, hq136, rfl, hS130⟩
         obtain ⟨u131, rfl⟩ := selfA_u hq136
         try dsimp only at hO135
         refine gx_k (.bool b132) w129 ?_
         cases b132 with
         | true =>
          try dsimp only at hO135
          refine gx_o (gx_o (gx_o (gx_o (gx_o (gx_k (.bool true) w129 ?_)))))
          refine gx_nil ?_
          refine gx_thenN ?_
          refine hK128 _ _ ?_
          refine gx_yes (by kernel_rfl) ?_
          refine gx_seq (fun K144 hK145 => ?_)
          refine gx_region ?_
          refine gx_k (.bool false) w129 ?_
          refine gx_nil ?_
          refine gx_thenN ?_
          refine hK145 _ _ ?_
          refine gx_ret ?_
          refine gx_thenR ?_
          obtain rfl := Option.some.inj hO135
          try dsimp only at hO126
          refine gx_blkR ?_
          refine gx_thenR ?_
          obtain rfl := Option.some.inj hO126
          try dsimp only at hO108
          refine gx_thenR ?_
          refine gx_blkR ?_
          refine gx_thenR ?_
          obtain rfl := Option.some.inj hO108
          try dsimp only at hO83
          obtain rfl := Option.some.inj hO83
          exact gx_fin (.bool false) (by kernel_rfl) (by kernel_rfl) ⟨_, rfl, rfl, (hS130.pick [] rfl rfl)⟩
         | false =>
          try dsimp only at hO135
          refine gx_k (.slice A49 l46.length c50) w129 ?_
          refine gx_v (.string (strOfNums l46)) w129 (run_conv rfl (by kernel_rfl) (conv_b _ _ _ (hS130.row 2 rfl).1)) ?_
          refine gx_k (.slice A1 p1.length c1) w129 ?_
          refine gx_v (.string (strOfNums p1)) w129 (run_conv rfl (by kernel_rfl) (conv_b _ _ _ (hS130.view hv1))) ?_
          obtain ⟨b146, h147, hO135⟩ := bind_in hO135
          refine gx_v (.bool b146) w129 (run_boolE (Option.some.inj h147) (by kernel_rfl)) ?_
          refine gx_k (.bool b146) w129 ?_
          refine gx_nil ?_
          refine gx_thenN ?_
          refine hK128 _ _ ?_
          cases b146 with
          | true =>
           try dsimp only at hO135
           refine gx_yes (by kernel_rfl) ?_
           refine gx_seq (fun K148 hK149 => ?_)
           refine gx_region ?_
           refine gx_k (.bool false) w129 ?_
           refine gx_nil ?_
           refine gx_thenN ?_
           refine hK149 _ _ ?_
           refine gx_ret ?_
           refine gx_thenR ?_
           obtain rfl := Option.some.inj hO135
           try dsimp only at hO126
           refine gx_blkR ?_
           refine gx_thenR ?_
           obtain rfl := Option.some.inj hO126
           try dsimp only at hO108
           refine gx_thenR ?_
           refine gx_blkR ?_
           refine gx_thenR ?_
           obtain rfl := Option.some.inj hO108
           try dsimp only at hO83
           obtain rfl := Option.some.inj hO83
           exact gx_fin (.bool false) (by kernel_rfl) (by kernel_rfl) ⟨_, rfl, rfl, (hS130.pick [] rfl rfl)⟩
          | false =>
           try dsimp only at hO135
           refine gx_no (by kernel_rfl) ?_
           refine gx_pass ?_
           refine gx_thenN ?_
           exact ⟨selfA_i (by kernel_rfl), (Option.some.inj hO135), hS130⟩
       ·rintro _ w121 ⟨hq213, rfl, hS122⟩
        obtain ⟨u123, rfl⟩ := selfA_u hq213
        try dsimp only at hO126
        refine gx_seq (fun K150 hK151 => ?_)
        refine gx_region ?_
        refine gx_k (.int .i64 0) w121 ?_
        refine gx_nil ?_
        refine gx_thenN ?_
        refine hK151 _ _ ?_
        refine gx_block ?_
        refine gx_loop (fun k a w => ∃ (x155 : Int) (l156 : List (List Int × Int × Int × Int)) (ads157 : List (Option Addr × Nat)), selfA (fun u154 => ⟨((.slice A0 p0.length c0) :: (.slice A1 p1.length c1) :: (.int .u8 p2) :: un 3 ((u123 6) :: (.slice A39 l36.length c40) :: (.slice A49 l46.length c50) :: (.slice A58 l57.length c59) :: (.int .i64 x62) :: (.int .i64 x92) :: (.slice A114 l113.length c115) :: (.int .i64 x117) :: (.int .i64 x155) :: (u154 15) :: undef :: dd u5 17 9 ((.slice none 0 0) :: dd u88 27 2 ((.slice none 0 0) :: dd u88 30 5 ((.int .u8 p2) :: dd u88 36 2 ((.int .i64 x62) :: (.int .i64 x92) :: (.bool true) :: dd u88 41 2 (dd u123 43 3 ((.int .u8 p2) :: dd u123 47 2 ((.int .i64 x117) :: dd u123 50 16 (dd u154 66 23 (un 16 ([])))))))))))).toArray, []⟩) a ∧ fSequences_L2 N l113 k x155 l156 = some c106 ∧ St [] w0 w [poolE ft89 W90, rowE .u8 34 A39 c40 l36, rowE .u8 5 A49 c50 l46, rowG 55 4 (.slice A58 l57.length c59) l57.length vs60, rowO oembedSeq 36 A114 l113.length c115 ads157 l156] ∧ l113.length = l156.length) N ?_ ?_
        ·exact ⟨0, l113, ads116, selfA_i (by kernel_rfl), hO126, hS122, rfl⟩
        ·rintro k159 _ w152 ⟨x155, l156, ads157, hq212, hL160, hS153, hn158⟩
         obtain ⟨u154, rfl⟩ := selfA_u hq212
         cases k159 with
         | zero => cases hL160
         | succ k159 =>
          first | rw [fSequences_L2] at hL160 | unfold fSequences_L2 at hL160
          refine gx_seq (fun K161 hK162 => ?_)
          refine gx_seq (fun K163 hK164 => ?_)
          refine gx_region ?_
          refine gx_k (.int .i64 x155) w152 (gx_k (.slice A114 l113.length c115) w152 (gx_k (.int .i64 ((l113.length : Nat) : Int)) w152 ?_))
          rcases if_in hL160 with ⟨h165, hL160⟩ | ⟨h165, hL160⟩
          ·refine gx_v (.bool true) w152 (run_boolE (decide_eq_true h165) (by kernel_rfl)) ?_
           refine gx_nil ?_
           refine gx_thenN ?_
           refine hK164 _ _ ?_
           refine gx_yes (by kernel_rfl) ?_
           refine gx_pass ?_
           refine gx_thenN ?_
           refine hK162 _ _ ?_
           obtain ⟨c172, hE173, hO174⟩ := bind_in hL160
           refine gx_cut (fun a w => ∃ (l169 : List (List Int × Int × Int × Int)) (ads170 : List (Option Addr × Nat)), selfA (fun u168 => ⟨((.slice A0 p0.length c0) :: (.slice A1 p1.length c1) :: (.int .u8 p2) :: un 3 ((u123 6) :: (.slice A39 l36.length c40) :: (.slice A49 l46.length c50) :: (.slice A58 l57.length c59) :: (.int .i64 x62) :: (.int .i64 x92) :: (.slice A114 l113.length c115) :: (.int .i64 x117) :: (.int .i64 x155) :: (u168 15) :: undef :: dd u5 17 9 ((.slice none 0 0) :: dd u88 27 2 ((.slice none 0 0) :: dd u88 30 5 ((.int .u8 p2) :: dd u88 36 2 ((.int .i64 x62) :: (.int .i64 x92) :: (.bool true) :: dd u88 41 2 (dd u123 43 3 ((.int .u8 p2) :: dd u123 47 2 ((.int .i64 x117) :: dd u123 50 16 ((.int .i64 x155) :: (u168 67) :: (.int .i64 ((l113.length : Nat) : Int)) :: (.bool true) :: dd u154 70 2 (dd u168 72 17 (un 16 ([]))))))))))))).toArray, []⟩) a ∧ l169 = c172 ∧ St [] w0 w [poolE ft89 W90, rowE .u8 34 A39 c40 l36, rowE .u8 5 A49 c50 l46, rowG 55 4 (.slice A58 l57.length c59) l57.length vs60, rowO oembedSeq 36 A114 l113.length c115 ads170 l169] ∧ l113.length = l169.length) ?_ ?_
           ·refine gx_block ?_
            refine gx_seq (fun K175 hK176 => ?_)
            refine gx_region ?_
            refine gx_k (.int .i64 0) w152 ?_
            refine gx_nil ?_
            refine gx_thenN ?_
            refine hK176 _ _ ?_
            refine gx_block ?_
            refine gx_loop (fun k a w => ∃ (x180 : Int) (l181 : List (List Int × Int × Int × Int)) (ads182 : List (Option Addr × Nat)), selfA (fun u179 => ⟨((.slice A0 p0.length c0) :: (.slice A1 p1.length c1) :: (.int .u8 p2) :: un 3 ((u123 6) :: (.slice A39 l36.length c40) :: (.slice A49 l46.length c50) :: (.slice A58 l57.length c59) :: (.int .i64 x62) :: (.int .i64 x92) :: (.slice A114 l113.length c115) :: (.int .i64 x117) :: (.int .i64 x155) :: (.int .i64 x180) :: undef :: dd u5 17 9 ((.slice none 0 0) :: dd u88 27 2 ((.slice none 0 0) :: dd u88 30 5 ((.int .u8 p2) :: dd u88 36 2 ((.int .i64 x62) :: (.int .i64 x92) :: (.bool true) :: dd u88 41 2 (dd u123 43 3 ((.int .u8 p2) :: dd u123 47 2 ((.int .i64 x117) :: dd u123 50 16 ((.int .i64 x155) :: (u179 67) :: (.int .i64 ((l113.length : Nat) : Int)) :: (.bool true) :: dd u154 70 2 (dd u179 72 17 (un 16 ([]))))))))))))).toArray, []⟩) a ∧ fSequences_L3 N x155 k x180 l181 = some c172 ∧ St [] w0 w [poolE ft89 W90, rowE .u8 34 A39 c40 l36, rowE .u8 5 A49 c50 l46, rowG 55 4 (.slice A58 l57.length c59) l57.length vs60, rowO oembedSeq 36 A114 l113.length c115 ads182 l181] ∧ l113.length = l181.length) N ?_ ?_
            ·exact ⟨0, l156, ads157, selfA_i (by kernel_rfl), hE173, hS153, hn158⟩
            ·rintro k184 _ w177 ⟨x180, l181, ads182, hq210, hL185, hS178, hn183⟩
             obtain ⟨u179, rfl⟩ := selfA_u hq210
             cases k184 with
             | zero => cases hL185
             | succ k184 =>
              first | rw [fSequences_L3] at hL185 | unfold fSequences_L3 at hL185
              refine gx_seq (fun K186 hK187 => ?_)
              refine gx_seq (fun K188 hK189 => ?_)
              refine gx_region ?_
              refine gx_k (.int .i64 x180) w177 (gx_k (.slice A114 l113.length c115) w177 (gx_k (.int .i64 x155) w177 ?_))
              obtain ⟨x190, hx191, hL185⟩ := bind_in hL185
              obtain ⟨g192, o193, ad194, hA195, ha196⟩ := hS178.elemO 4 rfl hx191
              refine gx_v (.pointer (some ⟨g192, o193, none⟩)) w177 (run_ixaddrN (E := 36) (s := 4) (k := .i64) (c := c115) rfl (by kernel_rfl) (by kernel_rfl) (by kernel_rfl) (fun _ => by kernel_rfl) (ixg_in hx191).1 hA195.1 hA195.2) ?_
              refine gx_k (.pointer (some ⟨g192, o193, none⟩)) w177 ?_
              refine gx_v (.slice ad194.1 ((x190.1).length) ad194.2) w177 (run_loadN1 0 rfl (by kernel_rfl) (fun _ => by kernel_rfl) (hS178.rangeO 4 rfl hx191 hA195.2 ha196) rfl) ?_
              refine gx_k (.int .i64 (((x190.1).length : Nat) : Int)) w177 ?_
              rcases if_in hL185 with ⟨h197, hL185⟩ | ⟨h197, hL185⟩
              ·refine gx_v (.bool true) w177 (run_boolE (decide_eq_true h197) (by kernel_rfl)) ?_
               refine gx_nil ?_
               refine gx_thenN ?_
               refine hK189 _ _ ?_
               refine gx_yes (by kernel_rfl) ?_
               refine gx_pass ?_
               refine gx_thenN ?_
               refine hK187 _ _ ?_
               refine gx_seq (fun K198 hK199 => ?_)
               refine gx_block ?_
               refine gx_region ?_
               refine gx_k (.slice A114 l113.length c115) w177 (gx_k (.int .i64 x155) w177 ?_)
               refine gx_v (.pointer (some ⟨g192, o193, none⟩)) w177 (run_ixaddrN (E := 36) (s := 4) (k := .i64) (c := c115) rfl (by kernel_rfl) (by kernel_rfl) (by kernel_rfl) (fun _ => by kernel_rfl) (ixg_in hx191).1 hA195.1 hA195.2) ?_
               refine gx_k (.pointer (some ⟨g192, o193, none⟩)) w177 ?_
               refine gx_v (.slice ad194.1 ((x190.1).length) ad194.2) w177 (run_loadN1 0 rfl (by kernel_rfl) (fun _ => by kernel_rfl) (hS178.rangeO 4 rfl hx191 hA195.2 ha196) rfl) ?_
               refine gx_k (.int .i64 x180) w177 ?_
               obtain ⟨x200, hx201, hL185⟩ := bind_in hL185
               refine gx_v (.pointer (Option.map (fun (p : Addr) => p.add (Int.toNat x180 * 1)) ad194.1)) w177 (run_ixaddr (E := 3) (s := 1) (k := .i64) (c := ad194.2) rfl (by kernel_rfl) (by kernel_rfl) (by kernel_rfl) (fun _ => by kernel_rfl) (ix_in hx201).1 (ix_in hx201).2.1 (num_nil (hS178.viewO 4 rfl hx191 ha196).1)) ?_
               obtain ⟨l202, hx204, hL185⟩ := bind_in hL185
               obtain ⟨l203, hx205, hL185⟩ := bind_in hL185
               have hl209 := setx_len hx204
               refine gx_s (st_ixO (e := oembedSeq) (x := x190) (x' := (l202, x190.2.1, x190.2.2.1, x190.2.2.2)) rfl (by kernel_rfl) (by kernel_rfl) (fun _ => by kernel_rfl) hS178 4 rfl hx191 ha196 hx204 (by show oembedSeq.cells _ _ _ = oembedSeq.cells _ _ _; simp only [oembedSeq, hl209]) rfl hx205) ?_
               rintro w206 hS207
               have hS207 : St _ _ w206 [poolE ft89 W90, rowE .u8 34 A39 c40 l36, rowE .u8 5 A49 c50 l46, rowG 55 4 (.slice A58 l57.length c59) l57.length vs60, rowO oembedSeq 36 A114 l113.length c115 ads182 l203] := hS207
               have hn208 := hS207.lenO 4 rfl
               refine gx_nil ?_
               refine gx_blkN ?_
               refine gx_thenN ?_
               refine hK199 _ _ ?_
               refine gx_region ?_
               refine gx_k (.int .i64 x180) w206 (gx_k (.int .i64 (IntKind.i64.wrap (x180 + 1))) w206 (gx_k (.int .i64 (IntKind.i64.wrap (x180 + 1))) w206 ?_))
               refine gx_nil ?_
               refine gx_thenN ?_
               exact ⟨k184, Nat.lt_succ_self k184, (IntKind.i64.wrap (x180 + 1)), l203, ads182, selfA_i (by kernel_rfl), hL185, hS207, hn208⟩
              ·refine gx_v (.bool false) w177 (run_boolE (decide_eq_false h197) (by kernel_rfl)) ?_
               refine gx_nil ?_
               refine gx_thenN ?_
               refine hK189 _ _ ?_
               refine gx_no (by kernel_rfl) ?_
               refine gx_exit ?_
               refine gx_thenE ?_
               refine gx_thenE ?_
               refine gx_blkE ?_
               refine gx_blkN ?_
               refine gx_thenN ?_
               exact ⟨l181, ads182, selfA_i (by kernel_rfl), (Option.some.inj hL185), hS178, hn183⟩
           ·rintro _ w166 ⟨l169, ads170, hq211, rfl, hS167, hn171⟩
            obtain ⟨u168, rfl⟩ := selfA_u hq211
            try dsimp only at hO174
            refine gx_region ?_
            refine gx_k (.int .i64 x155) w166 (gx_k (.int .i64 (IntKind.i64.wrap (x155 + 1))) w166 (gx_k (.int .i64 (IntKind.i64.wrap (x155 + 1))) w166 ?_))
            refine gx_nil ?_
            refine gx_thenN ?_
            exact ⟨k159, Nat.lt_succ_self k159, (IntKind.i64.wrap (x155 + 1)), l169, ads170, selfA_i (by kernel_rfl), hO174, hS167, hn171⟩
          ·refine gx_v (.bool false) w152 (run_boolE (decide_eq_false h165) (by kernel_rfl)) ?_
           refine gx_nil ?_
           refine gx_thenN ?_
           refine hK164 _ _ ?_
           refine gx_no (by kernel_rfl) ?_
           refine gx_exit ?_
           refine gx_thenE ?_
           refine gx_thenE ?_
           refine gx_blkE ?_
           refine gx_blkN ?_
           refine gx_thenN ?_
           exact ⟨ft89, W90, selfA_i (by kernel_rfl), (Option.some.inj hL160), (hS153.pick [0, 1, 2, 3] rfl rfl), (Turn.refl _ _ _ _)⟩
      ·rintro _ w100 ⟨ft103, W104, hq214, rfl, hS101, hT105⟩
       obtain ⟨u102, rfl⟩ := selfA_u hq214
       try dsimp only at hO108
       refine gx_region ?_
       refine gx_k (.int .i64 x92) w100 (gx_k (.int .i64 (IntKind.i64.wrap (x92 + 1))) w100 (gx_k (.int .i64 (IntKind.i64.wrap (x92 + 1))) w100 ?_))
       refine gx_nil ?_
       refine gx_thenN ?_
       exact ⟨k93, Nat.lt_succ_self k93, (IntKind.i64.wrap (x92 + 1)), ft103, W104, selfA_i (by kernel_rfl), hO108, hS101, (Turn.trans hT91 hT105)⟩
     ·refine gx_v (.bool false) w86 (run_boolE (decide_eq_false h99) (by kernel_rfl)) ?_
      refine gx_nil ?_
      refine gx_thenN ?_
      refine hK98 _ _ ?_
      refine gx_no (by kernel_rfl) ?_
      refine gx_exit ?_
      refine gx_thenE ?_
      refine gx_thenE ?_
      refine gx_blkE ?_
      refine gx_thenN ?_
      exact ⟨ft89, W90, selfA_i (by kernel_rfl), (Option.some.inj hL94), (hS87.pick [0, 1] rfl rfl), hT91⟩
  ·rintro _ w75 ⟨ft78, W79, hq258, rfl, hS76, hT80⟩
   obtain ⟨u77, rfl⟩ := selfA_u hq258
   try dsimp only at hO83
   obtain ⟨c219, hE220, hO221⟩ := bind_in hO83
   refine gx_cut (fun a w => selfA (fun u218 => ⟨((u218 0) :: (u77 1) :: (.int .u8 p2) :: un 3 (dd u218 6 2 (dd u77 8 2 ((.int .i64 x62) :: dd u77 11 5 ((u218 16) :: dd u5 17 9 ((.slice none 0 0) :: dd u77 27 2 ((.slice none 0 0) :: dd u77 30 5 ((.int .u8 p2) :: dd u77 36 2 ((.int .i64 x62) :: dd u77 39 50 (dd u218 89 15 (undef :: []))))))))))).toArray, []⟩) a ∧ Ctl.go () = c219 ∧ St [] w0 w [poolE ft78 W79]) ?_ ?_
   ·refine gx_seq (fun K222 hK223 => ?_)
    refine gx_region ?_
    refine gx_k (.int .i64 0) w75 ?_
    refine gx_nil ?_
    refine gx_thenN ?_
    refine hK223 _ _ ?_
    refine gx_block ?_
    refine gx_loop (fun k a w => ∃ (x227 : Int), selfA (fun u226 => ⟨((.slice A0 p0.length c0) :: (u77 1) :: (.int .u8 p2) :: un 3 ((u226 6) :: (.slice A39 l36.length c40) :: dd u77 8 2 ((.int .i64 x62) :: dd u77 11 5 ((.int .i64 x227) :: dd u5 17 9 ((.slice none 0 0) :: dd u77 27 2 ((.slice none 0 0) :: dd u77 30 5 ((.int .u8 p2) :: dd u77 36 2 ((.int .i64 x62) :: dd u77 39 50 (dd u226 89 15 (undef :: [])))))))))).toArray, []⟩) a ∧ fSequences_L4 N p0 l36 k x227 = some c219 ∧ St [] w0 w [poolE ft78 W79, rowE .u8 34 A39 c40 l36]) N ?_ ?_
    ·exact ⟨0, selfA_i (by kernel_rfl), hE220, hS76⟩
    ·rintro k228 _ w224 ⟨x227, hq248, hL229, hS225⟩
     obtain ⟨u226, rfl⟩ := selfA_u hq248
     cases k228 with
     | zero => cases hL229
     | succ k228 =>
      first | rw [fSequences_L4] at hL229 | unfold fSequences_L4 at hL229
      refine gx_seq (fun K230 hK231 => ?_)
      refine gx_seq (fun K232 hK233 => ?_)
      refine gx_region ?_
      refine gx_k (.int .i64 x227) w224 (gx_k (.slice A0 p0.length c0) w224 (gx_k (.int .i64 ((p0.length : Nat) : Int)) w224 ?_))
      rcases if_in hL229 with ⟨h234, hL229⟩ | ⟨h234, hL229⟩
      ·refine gx_v (.bool true) w224 (run_boolE (decide_eq_true h234) (by kernel_rfl)) ?_
       refine gx_nil ?_
       refine gx_thenN ?_
       refine hK233 _ _ ?_
       refine gx_yes (by kernel_rfl) ?_
       refine gx_pass ?_
       refine gx_thenN ?_
       refine hK231 _ _ ?_
       refine gx_seq (fun K235 hK236 => ?_)
       refine gx_block ?_
       refine gx_seq (fun K237 hK238 => ?_)
       refine gd_start (fun w => St [] w0 w [poolE ft78 W79, rowE .u8 34 A39 c40 l36]) 9 #[false, false, false, false, false, false, false, false, false] (by kernel_rfl) (by kernel_rfl) ?_
       have hS240 := hS225.drew
       generalize w224.drew = w239 at hS240 ⊢
       refine gd1 0 { dst := some 95, op := _, type := _, pos := _, after := _, guard := _ } (.slice A39 l36.length c40) rfl hS240 (fun w hSw => by kernel_rfl) ?_
       refine gd1 1 { dst := some 96, op := _, type := _, pos := _, after := _, guard := _ } (.int .i64 x227) rfl hS240 (fun w hSw => by kernel_rfl) ?_
       obtain ⟨x241, hx242, hL229⟩ := bind_in hL229
       refine gd1 2 { dst := some 97, op := _, type := _, pos := _, after := _, guard := _ } (.pointer (Option.map (fun (p : Addr) => p.add (Int.toNat x227 * 1)) A39)) rfl hS240 (fun w hSw => run_ixaddr (E := 34) (s := 1) (k := .i64) (c := c40) rfl (by kernel_rfl) (by kernel_rfl) (by kernel_rfl) (fun _ => by kernel_rfl) (ix_in hx242).1 (ix_in hx242).2.1 (num_nil (hS240.row 1 rfl).1)) ?_
       refine gd1 3 { dst := some 98, op := _, type := _, pos := _, after := _, guard := _ } (.int .u8 x241) rfl hS240 (fun w hSw => run_loadix rfl (by kernel_rfl) (fun _ => by kernel_rfl) (hSw.row 1 rfl).1 hx242) ?_
       refine gd1 4 { dst := some 99, op := _, type := _, pos := _, after := _, guard := _ } (.slice A0 p0.length c0) rfl hS240 (fun w hSw => by kernel_rfl) ?_
       refine gd1 5 { dst := some 100, op := _, type := _, pos := _, after := _, guard := _ } (.int .i64 x227) rfl hS240 (fun w hSw => by kernel_rfl) ?_
       obtain ⟨x243, hx244, hL229⟩ := bind_in hL229
       refine gd1 6 { dst := some 101, op := _, type := _, pos := _, after := _, guard := _ } (.pointer (Option.map (fun (p : Addr) => p.add (Int.toNat x227 * 1)) A0)) rfl hS240 (fun w hSw => run_ixaddr (E := 34) (s := 1) (k := .i64) (c := c0) rfl (by kernel_rfl) (by kernel_rfl) (by kernel_rfl) (fun _ => by kernel_rfl) (ix_in hx244).1 (ix_in hx244).2.1 (num_nil (hS240.view hv0))) ?_
       refine gd1 7 { dst := some 102, op := _, type := _, pos := _, after := _, guard := _ } (.int .u8 x243) rfl hS240 (fun w hSw => run_loadix rfl (by kernel_rfl) (fun _ => by kernel_rfl) (hSw.view hv0) hx244) ?_
       rcases if_in hL229 with ⟨h245, hL229⟩ | ⟨h245, hL229⟩
       ·refine gd1 8 { dst := some 103, op := _, type := _, pos := _, after := _, guard := _ } (.bool true) rfl hS240 (fun w hSw => run_boolE (ne_yes h245) (by kernel_rfl)) ?_
        refine gd_done (by kernel_rfl) ?_
        refine gx_thenN ?_
        refine hK238 _ _ ?_
        refine gx_yes (by kernel_rfl) ?_
        refine gx_seq (fun K246 hK247 => ?_)
        refine gx_region ?_
        refine gx_k (.bool false) w239 ?_
        refine gx_nil ?_
        refine gx_thenN ?_
        refine hK247 _ _ ?_
        refine gx_ret ?_
        refine gx_blkR ?_
        refine gx_thenR ?_
        refine gx_thenR ?_
        refine gx_blkR ?_
        refine gx_thenR ?_
        obtain rfl := Option.some.inj hL229
        try dsimp only at hO221
        obtain rfl := Option.some.inj hO221
        exact gx_fin (.bool false) (by kernel_rfl) (by kernel_rfl) ⟨_, rfl, rfl, (hS240.pick [] rfl rfl)⟩
       ·refine gd1 8 { dst := some 103, op := _, type := _, pos := _, after := _, guard := _ } (.bool false) rfl hS240 (fun w hSw => run_boolE (ne_no h245) (by kernel_rfl)) ?_
        refine gd_done (by kernel_rfl) ?_
        refine gx_thenN ?_
        refine hK238 _ _ ?_
        refine gx_no (by kernel_rfl) ?_
        refine gx_pass ?_
        refine gx_blkN ?_
        refine gx_thenN ?_
        refine hK236 _ _ ?_
        refine gx_region ?_
        refine gx_k (.int .i64 x227) w239 (gx_k (.int .i64 (IntKind.i64.wrap (x227 + 1))) w239 (gx_k (.int .i64 (IntKind.i64.wrap (x227 + 1))) w239 ?_))
        refine gx_nil ?_
        refine gx_thenN ?_
        exact ⟨k228, Nat.lt_succ_self k228, (IntKind.i64.wrap (x227 + 1)), selfA_i (by kernel_rfl), hL229, hS240⟩
      ·refine gx_v (.bool false) w224 (run_boolE (decide_eq_false h234) (by kernel_rfl)) ?_
       refine gx_nil ?_
       refine gx_thenN ?_
       refine hK233 _ _ ?_
       refine gx_no (by kernel_rfl) ?_
       refine gx_exit ?_
       refine gx_thenE ?_
       refine gx_thenE ?_
       refine gx_blkE ?_
       refine gx_thenN ?_
       exact ⟨selfA_i (by kernel_rfl), (Option.some.inj hL229), (hS225.pick [0] rfl rfl)⟩
   ·rintro _ w216 ⟨hq257, rfl, hS217⟩
    obtain ⟨u218, rfl⟩ := selfA_u hq257
    try dsimp only at hO221
    refine gx_seq (fun K249 hK250 => ?_)
    refine gx_region ?_
    have hP251 : St _ _ w216 ([] ++ [poolE ft78 W79]) := hS217
    obtain ⟨b253, hc252, hO221⟩ := bind_in hO221
    try dsimp only at hO221
    refine gx_c (kIso_R b253 w216) (kIso_ok N  _ hc252 w216 ) ?_
    rintro _ w254 ⟨rfl, hT256⟩
    have hS255 : St _ _ w254 [poolE ft78 W79] := hS217.take _ hT256
    refine gx_k (.bool b253) w254 ?_
    refine gx_nil ?_
    refine gx_thenN ?_
    refine hK250 _ _ ?_
    refine gx_ret ?_
    obtain rfl := Option.some.inj hO221
    exact gx_fin (.bool b253) (by kernel_rfl) (by kernel_rfl) ⟨_, rfl, rfl, (hS255.pick [] rfl rfl)⟩

end Go.Proofs.Ytjndolnjhbgflaa
