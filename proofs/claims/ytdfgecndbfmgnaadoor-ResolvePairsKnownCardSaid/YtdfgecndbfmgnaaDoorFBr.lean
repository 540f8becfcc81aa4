/-
  ResolveBrackets, walked.
-/
import Derived.Test.YtdfgecndbfmgnaaDoorFB
namespace Go.Proofs.YtdfgecndbfmgnaaDoor
open Go Go.RowKit
set_option linter.unusedVariables false

def fBrackets_L1 (N : Nat) (l33 : List (Int × Int)) (l52 : List (Int × Int)) : Nat → Int → Option (Ctl (Unit) (Bool))
 | 0, _ => none
 | k88+1, x87 => (if x87 < ((l33.length : Nat) : Int) then ((ixg l33 x87).bind fun x101 => ((ixg l52 x87).bind fun x114 => (if x101.1 ≠ x114.1 then some (Ctl.ret false) else ((ixg l33 x87).bind fun x130 => ((ixg l52 x87).bind fun x143 => (if x130.2 ≠ x143.2 then some (Ctl.ret false) else fBrackets_L1 N l33 l52 k88 (IntKind.i64.wrap (x87 + 1)))))))) else some (Ctl.go ()))
def fBrackets (N : Nat) (p0 : List Int) (p1 : List Int) : Option (Bool) :=
 (((if ((p0.length : Nat) : Int) > 800 then ((kAround N ).bind fun b16 => some (Ctl.ret b16)) else (if ((p1.length : Nat) : Int) > 800 then ((kAround N ).bind fun b25 => some (Ctl.ret b25)) else some (Ctl.go ()))) : Option (Ctl (Unit) (Bool))).bind fun | Ctl.go () => ((pPrs N p0 p1).bind fun l33 => ((rPrs N p0 p1).bind fun l52 => (if ((l33.length : Nat) : Int) ≠ ((l52.length : Nat) : Int) then some false else ((fBrackets_L1 N l33 l52 N 0 : Option (Ctl (Unit) (Bool))).bind fun | Ctl.go () => ((kAround N ).bind fun b164 => some b164) | Ctl.ret r => some r)))) | Ctl.ret r => some r)

set_option linter.unusedVariables false in
def fBrackets_R (r : Bool) (w0 : World) (v : Value) (w : World) : Prop := v = .bool r ∧ St [] w0 w []

set_option maxRecDepth 100000 in
set_option maxHeartbeats 4000000 in
theorem fBrackets_ok (N : Nat) (p0 : List Int) (p1 : List Int) (A0 : Option Addr) (c0 : Nat) (A1 : Option Addr) (c1 : Nat) (r : Bool) (hF : fBrackets N p0 p1 = some r) (w0 : World) (hv0 : Vw [] .i32 w0 A0 c0 p0) (hv1 : Vw [] .u8 w0 A1 c1 p1) (hcd : MirW w0) :
  Calls Tryd.prog 3 #[.slice A0 p0.length c0, .slice A1 p1.length c1] w0 fun e w => ∃ v, e = .returned v ∧ fBrackets_R r w0 v w := by
 have hS0 := (St.start w0).pool0
 unfold fBrackets at hF
 refine calls_of Tryd.func3 rfl ⟨((.slice A0 p0.length c0) :: (.slice A1 p1.length c1) :: un 57 ([])).toArray, []⟩ (by kernel_rfl) ?_
 refine gx_seq (fun K1 hK2 => ?_)
 refine gx_region ?_
 refine gx_k (.bool false) w0 ?_
 refine gx_nil ?_
 refine gx_thenN ?_
 refine hK2 _ _ ?_
 obtain ⟨c6, hE7, hO8⟩ := bind_in hF
 refine gx_cut (fun a w => selfA (fun u5 => ⟨((.slice A0 p0.length c0) :: (.slice A1 p1.length c1) :: undef :: undef :: (u5 4) :: un 3 (dd u5 8 9 (un 42 ([])))).toArray, []⟩) a ∧ Ctl.go () = c6 ∧ St [] w0 w [poolE ([]) w0]) ?_ ?_
 ·refine gx_seq (fun K9 hK10 => ?_)
  refine gx_region ?_
  refine gx_k (.slice A0 p0.length c0) w0 (gx_k (.int .i64 ((p0.length : Nat) : Int)) w0 ?_)
  rcases if_in hE7 with ⟨h11, hE7⟩ | ⟨h11, hE7⟩
  ·refine gx_v (.bool true) w0 (run_boolE (decide_eq_true h11) (by kernel_rfl)) ?_
   refine gx_k (.bool true) w0 (gx_o (gx_o (gx_o (gx_k (.bool true) w0 ?_))))
   refine gx_nil ?_
   refine gx_thenN ?_
   refine hK10 _ _ ?_
   refine gx_yes (by kernel_rfl) ?_
   refine gx_seq (fun K12 hK13 => ?_)
   refine gx_region ?_
   have hP14 : St _ _ w0 ([] ++ [poolE ([]) w0]) := hS0
   obtain ⟨b16, hc15, hE7⟩ := bind_in hE7
   try dsimp only at hE7
   refine gx_c (kAround_R b16 w0) (kAround_ok N  _ hc15 w0 (MirW.at hcd hS0.below)) ?_
   rintro _ w17 ⟨rfl, hT19⟩
   have hS18 : St _ _ w17 [poolE ([]) w0] := hS0.take _ hT19
   refine gx_k (.bool b16) w17 ?_
   refine gx_nil ?_
   refine gx_thenN ?_
   refine hK13 _ _ ?_
   refine gx_ret ?_
   refine gx_thenR ?_
   obtain rfl := Option.some.inj hE7
   try dsimp only at hO8
   obtain rfl := Option.some.inj hO8
   exact gx_fin (.bool b16) (by kernel_rfl) (by kernel_rfl) ⟨_, rfl, rfl, (hS18.pick [] rfl rfl)⟩
  ·refine gx_v (.bool false) w0 (run_boolE (decide_eq_false h11) (by kernel_rfl)) ?_
   refine gx_k (.bool false) w0 (gx_k (.slice A1 p1.length c1) w0 (gx_k (.int .i64 ((p1.length : Nat) : Int)) w0 ?_))
   rcases if_in hE7 with ⟨h20, hE7⟩ | ⟨h20, hE7⟩
   ·refine gx_v (.bool true) w0 (run_boolE (decide_eq_true h20) (by kernel_rfl)) ?_
    refine gx_k (.bool true) w0 ?_
    refine gx_nil ?_
    refine gx_thenN ?_
    refine hK10 _ _ ?_
    refine gx_yes (by kernel_rfl) ?_
    refine gx_seq (fun K21 hK22 => ?_)
    refine gx_region ?_
    have hP23 : St _ _ w0 ([] ++ [poolE ([]) w0]) := hS0
    obtain ⟨b25, hc24, hE7⟩ := bind_in hE7
    try dsimp only at hE7
    refine gx_c (kAround_R b25 w0) (kAround_ok N  _ hc24 w0 (MirW.at hcd hS0.below)) ?_
    rintro _ w26 ⟨rfl, hT28⟩
    have hS27 : St _ _ w26 [poolE ([]) w0] := hS0.take _ hT28
    refine gx_k (.bool b25) w26 ?_
    refine gx_nil ?_
    refine gx_thenN ?_
    refine hK22 _ _ ?_
    refine gx_ret ?_
    refine gx_thenR ?_
    obtain rfl := Option.some.inj hE7
    try dsimp only at hO8
    obtain rfl := Option.some.inj hO8
    exact gx_fin (.bool b25) (by kernel_rfl) (by kernel_rfl) ⟨_, rfl, rfl, (hS27.pick [] rfl rfl)⟩
   ·refine gx_v (.bool false) w0 (run_boolE (decide_eq_false h20) (by kernel_rfl)) ?_
    refine gx_k (.bool false) w0 ?_
    refine gx_nil ?_
    refine gx_thenN ?_
    refine hK10 _ _ ?_
    refine gx_no (by kernel_rfl) ?_
    refine gx_pass ?_
    refine gx_thenN ?_
    exact ⟨selfA_i (by kernel_rfl), (Option.some.inj hE7), hS0⟩
 ·rintro _ w3 ⟨hq169, rfl, hS4⟩
  obtain ⟨u5, rfl⟩ := selfA_u hq169
  try dsimp only at hO8
  refine gx_seq (fun K29 hK30 => ?_)
  refine gx_region ?_
  refine gx_k (.slice A0 p0.length c0) w3 (gx_k (.slice A1 p1.length c1) w3 ?_)
  have hP31 : St _ _ w3 ([] ++ [poolE ([]) w0]) := hS4
  obtain ⟨l33, hc32, hO8⟩ := bind_in hO8
  try dsimp only at hO8
  refine gx_c (pPrs_R l33 w3) (pPrs_ok N p0 p1 A0 c0 A1 c1 _ hc32 w3 (hP31.vwA hv0) (hP31.vwA hv1) (MirW.at hcd hS4.below)) ?_
  rintro _ w39 ⟨A34, c35, vs36, ft38, rfl, hT41, hf37⟩
  have hS40 : St _ _ w39 [poolE ([]) w0, rowG 30 2 (.slice A34 l33.length c35) l33.length vs36, poolE ft38 w39] := hS4.take _ hT41
  obtain ⟨ft42, W43, hS44, hT45, hU46⟩ := hS40.merge 2 0 rfl rfl (by decide)
  have hS44 : St _ _ w39 [poolE ft42 W43, rowG 30 2 (.slice A34 l33.length c35) l33.length vs36] := hS44
  have hT45 : Turn [] w0 w0 ([]) W43 ft42 := hT45
  have hf49 : (fEach (pairE (intE .i64) (intE .i64)) vs36 l33).rd W43 ft42 := hU46 _ hf37
  refine gx_k (.slice A0 p0.length c0) w39 (gx_k (.slice A1 p1.length c1) w39 ?_)
  have hP50 : St _ _ w39 ([] ++ [poolE ft42 W43, rowG 30 2 (.slice A34 l33.length c35) l33.length vs36]) := hS44
  obtain ⟨l52, hc51, hO8⟩ := bind_in hO8
  try dsimp only at hO8
  refine gx_c (rPrs_R l52 w39) (rPrs_ok N p0 p1 A0 c0 A1 c1 _ hc51 w39 (hP50.vwA hv0) (hP50.vwA hv1)) ?_
  rintro _ w58 ⟨A53, c54, vs55, ft57, rfl, hT60, hf56⟩
  have hS59 : St _ _ w58 [poolE ft42 W43, rowG 30 2 (.slice A34 l33.length c35) l33.length vs36, rowG 31 2 (.slice A53 l52.length c54) l52.length vs55, poolE ft57 w58] := hS44.take _ hT60
  obtain ⟨ft61, W62, hS63, hT64, hU65⟩ := hS59.merge 3 0 rfl rfl (by decide)
  have hS63 : St _ _ w58 [poolE ft61 W62, rowG 30 2 (.slice A34 l33.length c35) l33.length vs36, rowG 31 2 (.slice A53 l52.length c54) l52.length vs55] := hS63
  have hT64 : Turn [] w0 W43 ft42 W62 ft61 := hT64
  have hf68 : (fEach (pairE (intE .i64) (intE .i64)) vs55 l52).rd W62 ft61 := hU65 _ hf56
  refine gx_k (.slice A34 l33.length c35) w58 (gx_k (.slice A53 l52.length c54) w58 ?_)
  refine gx_nil ?_
  refine gx_thenN ?_
  refine hK30 _ _ ?_
  refine gx_seq (fun K69 hK70 => ?_)
  refine gx_seq (fun K71 hK72 => ?_)
  refine gx_region ?_
  refine gx_k (.slice A34 l33.length c35) w58 (gx_k (.int .i64 ((l33.length : Nat) : Int)) w58 (gx_k (.slice A53 l52.length c54) w58 (gx_k (.int .i64 ((l52.length : Nat) : Int)) w58 ?_)))
  rcases if_in hO8 with ⟨h73, hO8⟩ | ⟨h73, hO8⟩
  ·refine gx_v (.bool true) w58 (run_boolE (ne_yes h73) (by kernel_rfl)) ?_
   refine gx_nil ?_
   refine gx_thenN ?_
   refine hK72 _ _ ?_
   refine gx_yes (by kernel_rfl) ?_
   refine gx_seq (fun K74 hK75 => ?_)
   refine gx_region ?_
   refine gx_k (.bool false) w58 ?_
   refine gx_nil ?_
   refine gx_thenN ?_
   refine hK75 _ _ ?_
   refine gx_ret ?_
   refine gx_thenR ?_
   obtain rfl := Option.some.inj hO8
   exact gx_fin (.bool false) (by kernel_rfl) (by kernel_rfl) ⟨_, rfl, rfl, (hS63.pick [] rfl rfl)⟩
  ·refine gx_v (.bool false) w58 (run_boolE (ne_no h73) (by kernel_rfl)) ?_
   refine gx_nil ?_
   refine gx_thenN ?_
   refine hK72 _ _ ?_
   refine gx_no (by kernel_rfl) ?_
   refine gx_pass ?_
   refine gx_thenN ?_
   refine hK70 _ _ ?_
   obtain ⟨c79, hE80, hO81⟩ := bind_in hO8
   refine gx_cut (fun a w => selfA (fun u78 => ⟨(dd u78 0 2 (undef :: undef :: dd u78 4 4 (dd u5 8 9 (dd u78 17 7 ((.int .i64 ((l33.length : Nat) : Int)) :: (u78 25) :: (.int .i64 ((l52.length : Nat) : Int)) :: (.bool false) :: dd u78 28 30 (undef :: [])))))).toArray, []⟩) a ∧ Ctl.go () = c79 ∧ St [] w0 w [poolE ft61 W62]) ?_ ?_
   ·refine gx_seq (fun K82 hK83 => ?_)
    refine gx_region ?_
    refine gx_k (.int .i64 0) w58 ?_
    refine gx_nil ?_
    refine gx_thenN ?_
    refine hK83 _ _ ?_
    refine gx_block ?_
    refine gx_loop (fun k a w => ∃ (x87 : Int), selfA (fun u86 => ⟨(dd u86 0 2 (undef :: undef :: (u86 4) :: (.slice A34 l33.length c35) :: (.slice A53 l52.length c54) :: (.int .i64 x87) :: dd u5 8 9 (dd u86 17 7 ((.int .i64 ((l33.length : Nat) : Int)) :: (u86 25) :: (.int .i64 ((l52.length : Nat) : Int)) :: (.bool false) :: dd u86 28 30 (undef :: []))))).toArray, []⟩) a ∧ fBrackets_L1 N l33 l52 k x87 = some c79 ∧ St [] w0 w [poolE ft61 W62, rowG 30 2 (.slice A34 l33.length c35) l33.length vs36, rowG 31 2 (.slice A53 l52.length c54) l52.length vs55]) N ?_ ?_
    ·exact ⟨0, selfA_i (by kernel_rfl), hE80, hS63⟩
    ·rintro k88 _ w84 ⟨x87, hq159, hL89, hS85⟩
     obtain ⟨u86, rfl⟩ := selfA_u hq159
     cases k88 with
     | zero => cases hL89
     | succ k88 =>
      first | rw [fBrackets_L1] at hL89 | unfold fBrackets_L1 at hL89
      refine gx_seq (fun K90 hK91 => ?_)
      refine gx_seq (fun K92 hK93 => ?_)
      refine gx_region ?_
      refine gx_k (.int .i64 x87) w84 (gx_k (.slice A34 l33.length c35) w84 (gx_k (.int .i64 ((l33.length : Nat) : Int)) w84 ?_))
      rcases if_in hL89 with ⟨h94, hL89⟩ | ⟨h94, hL89⟩
      ·refine gx_v (.bool true) w84 (run_boolE (decide_eq_true h94) (by kernel_rfl)) ?_
       refine gx_nil ?_
       refine gx_thenN ?_
       refine hK93 _ _ ?_
       refine gx_yes (by kernel_rfl) ?_
       refine gx_pass ?_
       refine gx_thenN ?_
       refine hK91 _ _ ?_
       refine gx_seq (fun K95 hK96 => ?_)
       refine gx_block ?_
       refine gx_seq (fun K97 hK98 => ?_)
       refine gd_start (fun w => St [] w0 w [poolE ft61 W62, rowG 30 2 (.slice A34 l33.length c35) l33.length vs36, rowG 31 2 (.slice A53 l52.length c54) l52.length vs55]) 24 #[false, false, false, false, false, false, false, false, false, false, false, false, false, false, false, false, false, false, false, false, false, false, false, false] (by kernel_rfl) (by kernel_rfl) ?_
       have hS100 := hS85.drew
       generalize w84.drew = w99 at hS100 ⊢
       refine gv1 0 34 (.slice A34 l33.length c35) rfl hS100 ?_
       refine gv1 1 35 (.int .i64 x87) rfl hS100 ?_
       obtain ⟨x101, hx102, hL89⟩ := bind_in hL89
       obtain ⟨g103, o104, e105, hA106, he107, h108, ha109⟩ := elem_at (e := (pairE (intE .i64) (intE .i64))) (rowG_lies (e := (pairE (intE .i64) (intE .i64))) rfl (hS100.get 1 rfl)) (hT64.pool hf49) hx102 (by decide)
       obtain ⟨e110, e111, rfl, h112, h113⟩ := h108
       obtain rfl := h112
       obtain rfl := h113
       have ha109 : ∀ w', Lies w' A34 vs36 → w'.rangeAt g103 o104 [.int .i64 x101.1, .int .i64 x101.2] := ha109
       refine gu1 2 36 (.pointer (some ⟨g103, o104, none⟩)) rfl hS100 (fun w hSw => run_ixaddrN (E := 30) (s := 2) (k := .i64) (c := c35) rfl (by kernel_rfl) (by kernel_rfl) (by kernel_rfl) (fun _ => by kernel_rfl) (ixg_in hx102).1 (ixg_in hx102).2.1 hA106) ?_
       refine gv1 3 37 (.pointer (some ⟨g103, o104, none⟩)) rfl hS100 ?_
       refine gu1 4 38 (.int .i64 x101.1) rfl hS100 (fun w hSw => run_loadN1 0 rfl (by kernel_rfl) (fun _ => by kernel_rfl) (ha109 _ (rowG_lies (e := (pairE (intE .i64) (intE .i64))) rfl (hSw.get 1 rfl))) rfl) ?_
       refine gv1 5 39 (.slice A53 l52.length c54) rfl hS100 ?_
       refine gv1 6 40 (.int .i64 x87) rfl hS100 ?_
       obtain ⟨x114, hx115, hL89⟩ := bind_in hL89
       obtain ⟨g116, o117, e118, hA119, he120, h121, ha122⟩ := elem_at (e := (pairE (intE .i64) (intE .i64))) (rowG_lies (e := (pairE (intE .i64) (intE .i64))) rfl (hS100.get 2 rfl)) hf68 hx115 (by decide)
       obtain ⟨e123, e124, rfl, h125, h126⟩ := h121
       obtain rfl := h125
       obtain rfl := h126
       have ha122 : ∀ w', Lies w' A53 vs55 → w'.rangeAt g116 o117 [.int .i64 x114.1, .int .i64 x114.2] := ha122
       refine gu1 7 41 (.pointer (some ⟨g116, o117, none⟩)) rfl hS100 (fun w hSw => run_ixaddrN (E := 31) (s := 2) (k := .i64) (c := c54) rfl (by kernel_rfl) (by kernel_rfl) (by kernel_rfl) (fun _ => by kernel_rfl) (ixg_in hx115).1 (ixg_in hx115).2.1 hA119) ?_
       refine gv1 8 42 (.pointer (some ⟨g116, o117, none⟩)) rfl hS100 ?_
       refine gu1 9 43 (.int .i64 x114.1) rfl hS100 (fun w hSw => run_loadN1 0 rfl (by kernel_rfl) (fun _ => by kernel_rfl) (ha122 _ (rowG_lies (e := (pairE (intE .i64) (intE .i64))) rfl (hSw.get 2 rfl))) rfl) ?_
       rcases if_in hL89 with ⟨h127, hL89⟩ | ⟨h127, hL89⟩
       ·refine gu1 10 44 (.bool true) rfl hS100 (fun w hSw => run_boolE (ne_yes h127) (by kernel_rfl)) ?_
        refine gv1 11 45 (.bool true) rfl hS100 ?_
        refine gz1 12 46 rfl hS100 ?_
        refine gz1 13 47 rfl hS100 ?_
        refine gz1 14 48 rfl hS100 ?_
        refine gz1 15 49 rfl hS100 ?_
        refine gz1 16 50 rfl hS100 ?_
        refine gz1 17 51 rfl hS100 ?_
        refine gz1 18 52 rfl hS100 ?_
        refine gz1 19 53 rfl hS100 ?_
        refine gz1 20 54 rfl hS100 ?_
        refine gz1 21 55 rfl hS100 ?_
        refine gz1 22 56 rfl hS100 ?_
        refine gv1 23 57 (.bool true) rfl hS100 ?_
        refine gd_done (by kernel_rfl) ?_
        refine gx_thenN ?_
        refine hK98 _ _ ?_
        refine gx_yes (by kernel_rfl) ?_
        refine gx_seq (fun K128 hK129 => ?_)
        refine gx_region ?_
        refine gx_k (.bool false) w99 ?_
        refine gx_nil ?_
        refine gx_thenN ?_
        refine hK129 _ _ ?_
        refine gx_ret ?_
        refine gx_blkR ?_
        refine gx_thenR ?_
        refine gx_thenR ?_
        refine gx_blkR ?_
        refine gx_thenR ?_
        obtain rfl := Option.some.inj hL89
        try dsimp only at hO81
        obtain rfl := Option.some.inj hO81
        exact gx_fin (.bool false) (by kernel_rfl) (by kernel_rfl) ⟨_, rfl, rfl, (hS100.pick [] rfl rfl)⟩
       ·refine gu1 10 44 (.bool false) rfl hS100 (fun w hSw => run_boolE (ne_no h127) (by kernel_rfl)) ?_
        refine gv1 11 45 (.bool false) rfl hS100 ?_
        refine gv1 12 46 (.slice A34 l33.length c35) rfl hS100 ?_
        refine gv1 13 47 (.int .i64 x87) rfl hS100 ?_
        obtain ⟨x130, hx131, hL89⟩ := bind_in hL89
        obtain ⟨g132, o133, e134, hA135, he136, h137, ha138⟩ := elem_at (e := (pairE (intE .i64) (intE .i64))) (rowG_lies (e := (pairE (intE .i64) (intE .i64))) rfl (hS100.get 1 rfl)) (hT64.pool hf49) hx131 (by decide)
        obtain ⟨e139, e140, rfl, h141, h142⟩ := h137
        obtain rfl := h141
        obtain rfl := h142
        have ha138 : ∀ w', Lies w' A34 vs36 → w'.rangeAt g132 o133 [.int .i64 x130.1, .int .i64 x130.2] := ha138
        refine gu1 14 48 (.pointer (some ⟨g132, o133, none⟩)) rfl hS100 (fun w hSw => run_ixaddrN (E := 30) (s := 2) (k := .i64) (c := c35) rfl (by kernel_rfl) (by kernel_rfl) (by kernel_rfl) (fun _ => by kernel_rfl) (ixg_in hx131).1 (ixg_in hx131).2.1 hA135) ?_
        refine gv1 15 49 (.pointer (some ⟨g132, o133 + 1, none⟩)) rfl hS100 ?_
        refine gu1 16 50 (.int .i64 x130.2) rfl hS100 (fun w hSw => run_loadN1 1 rfl (by kernel_rfl) (fun _ => by kernel_rfl) (ha138 _ (rowG_lies (e := (pairE (intE .i64) (intE .i64))) rfl (hSw.get 1 rfl))) rfl) ?_
        refine gv1 17 51 (.slice A53 l52.length c54) rfl hS100 ?_
        refine gv1 18 52 (.int .i64 x87) rfl hS100 ?_
        obtain ⟨x143, hx144, hL89⟩ := bind_in hL89
        obtain ⟨g145, o146, e147, hA148, he149, h150, ha151⟩ := elem_at (e := (pairE (intE .i64) (intE .i64))) (rowG_lies (e := (pairE (intE .i64) (intE .i64))) rfl (hS100.get 2 rfl)) hf68 hx144 (by decide)
        obtain ⟨e152, e153, rfl, h154, h155⟩ := h150
        obtain rfl := h154
        obtain rfl := h155
        have ha151 : ∀ w', Lies w' A53 vs55 → w'.rangeAt g145 o146 [.int .i64 x143.1, .int .i64 x143.2] := ha151
        refine gu1 19 53 (.pointer (some ⟨g145, o146, none⟩)) rfl hS100 (fun w hSw => run_ixaddrN (E := 31) (s := 2) (k := .i64) (c := c54) rfl (by kernel_rfl) (by kernel_rfl) (by kernel_rfl) (fun _ => by kernel_rfl) (ixg_in hx144).1 (ixg_in hx144).2.1 hA148) ?_
        refine gv1 20 54 (.pointer (some ⟨g145, o146 + 1, none⟩)) rfl hS100 ?_
        refine gu1 21 55 (.int .i64 x143.2) rfl hS100 (fun w hSw => run_loadN1 1 rfl (by kernel_rfl) (fun _ => by kernel_rfl) (ha151 _ (rowG_lies (e := (pairE (intE .i64) (intE .i64))) rfl (hSw.get 2 rfl))) rfl) ?_
        rcases if_in hL89 with ⟨h156, hL89⟩ | ⟨h156, hL89⟩
        ·refine gu1 22 56 (.bool true) rfl hS100 (fun w hSw => run_boolE (ne_yes h156) (by kernel_rfl)) ?_
         refine gv1 23 57 (.bool true) rfl hS100 ?_
         refine gd_done (by kernel_rfl) ?_
         refine gx_thenN ?_
         refine hK98 _ _ ?_
         refine gx_yes (by kernel_rfl) ?_
         refine gx_seq (fun K157 hK158 => ?_)
         refine gx_region ?_
         refine gx_k (.bool false) w99 ?_
         refine gx_nil ?_
         refine gx_thenN ?_
         refine hK158 _ _ ?_
         refine gx_ret ?_
         refine gx_blkR ?_
         refine gx_thenR ?_
         refine gx_thenR ?_
         refine gx_blkR ?_
         refine gx_thenR ?_
         obtain rfl := Option.some.inj hL89
         try dsimp only at hO81
         obtain rfl := Option.some.inj hO81
         exact gx_fin (.bool false) (by kernel_rfl) (by kernel_rfl) ⟨_, rfl, rfl, (hS100.pick [] rfl rfl)⟩
        ·refine gu1 22 56 (.bool false) rfl hS100 (fun w hSw => run_boolE (ne_no h156) (by kernel_rfl)) ?_
         refine gv1 23 57 (.bool false) rfl hS100 ?_
         refine gd_done (by kernel_rfl) ?_
         refine gx_thenN ?_
         refine hK98 _ _ ?_
         refine gx_no (by kernel_rfl) ?_
         refine gx_pass ?_
         refine gx_blkN ?_
         refine gx_thenN ?_
         refine hK96 _ _ ?_
         refine gx_region ?_
         refine gx_k (.int .i64 x87) w99 (gx_k (.int .i64 (IntKind.i64.wrap (x87 + 1))) w99 (gx_k (.int .i64 (IntKind.i64.wrap (x87 + 1))) w99 ?_))
         refine gx_nil ?_
         refine gx_thenN ?_
         exact ⟨k88, Nat.lt_succ_self k88, (IntKind.i64.wrap (x87 + 1)), selfA_i (by kernel_rfl), hL89, hS100⟩
      ·refine gx_v (.bool false) w84 (run_boolE (decide_eq_false h94) (by kernel_rfl)) ?_
       refine gx_nil ?_
       refine gx_thenN ?_
       refine hK93 _ _ ?_
       refine gx_no (by kernel_rfl) ?_
       refine gx_exit ?_
       refine gx_thenE ?_
       refine gx_thenE ?_
       refine gx_blkE ?_
       refine gx_thenN ?_
       exact ⟨selfA_i (by kernel_rfl), (Option.some.inj hL89), (hS85.pick [0] rfl rfl)⟩
   ·rintro _ w76 ⟨hq168, rfl, hS77⟩
    obtain ⟨u78, rfl⟩ := selfA_u hq168
    try dsimp only at hO81
    refine gx_seq (fun K160 hK161 => ?_)
    refine gx_region ?_
    have hP162 : St _ _ w76 ([] ++ [poolE ft61 W62]) := hS77
    obtain ⟨b164, hc163, hO81⟩ := bind_in hO81
    try dsimp only at hO81
    refine gx_c (kAround_R b164 w76) (kAround_ok N  _ hc163 w76 (MirW.at hcd hS77.below)) ?_
    rintro _ w165 ⟨rfl, hT167⟩
    have hS166 : St _ _ w165 [poolE ft61 W62] := hS77.take _ hT167
    refine gx_k (.bool b164) w165 ?_
    refine gx_nil ?_
    refine gx_thenN ?_
    refine hK161 _ _ ?_
    refine gx_ret ?_
    obtain rfl := Option.some.inj hO81
    exact gx_fin (.bool b164) (by kernel_rfl) (by kernel_rfl) ⟨_, rfl, rfl, (hS166.pick [] rfl rfl)⟩

end Go.Proofs.YtdfgecndbfmgnaaDoor
