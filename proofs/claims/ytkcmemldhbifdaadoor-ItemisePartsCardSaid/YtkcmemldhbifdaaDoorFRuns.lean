/-
  ItemiseRuns, walked.
-/
import Derived.Test.YtkcmemldhbifdaaDoorF0
import Derived.Test.YtkcmemldhbifdaaDoorR0
namespace Go.Proofs.YtkcmemldhbifdaaDoor
open Go Go.RowKit
set_option linter.unusedVariables false
def fRuns_L1 (N : Nat) (l45 : List (Int × Int × Int × Int)) (l67 : List (Int × Int × Int × Int)) : Nat → Int → Option (Ctl (Unit) (Bool))
 | 0, _ => none
 | k121+1, x120 => (if x120 < ((l45.length : Nat) : Int) then ((ixg l45 x120).bind fun x134 => ((ixg l67 x120).bind fun x155 => (((if x134.1 ≠ x155.1 then some (true) else ((ixg l45 x120).bind fun x186 => ((ixg l67 x120).bind fun x207 => (if x186.2.1 ≠ x207.2.1 then some (true) else some (false))))) : Option (Bool)).bind fun b179 => (((match b179 with | true => some (true) | false => ((ixg l45 x120).bind fun x238 => ((ixg l67 x120).bind fun x259 => (if x238.2.2.1 ≠ x259.2.2.1 then some (true) else some (false))))) : Option (Bool)).bind fun b232 => (match b232 with | true => some (Ctl.ret false) | false => ((ixg l45 x120).bind fun x283 => ((ixg l67 x120).bind fun x304 => (if x283.2.2.2 ≠ x304.2.2.2 then some (Ctl.ret false) else fRuns_L1 N l45 l67 k121 (IntKind.i64.wrap (x120 + 1)))))))))) else some (Ctl.go ()))
def fRuns (N : Nat) (p0 : List Int) (p1 : List Int) : Option (Bool) :=
 (((if ((p0.length : Nat) : Int) > 300 then ((kWorks N ).bind fun b16 => some (Ctl.ret b16)) else (if ((p1.length : Nat) : Int) > 300 then ((kWorks N ).bind fun b25 => some (Ctl.ret b25)) else some (Ctl.go ()))) : Option (Ctl (Unit) (Bool))).bind fun | Ctl.go () => ((apx ([]) p1).bind fun l34 => ((pRuns N p0 l34).bind fun (l45, x50) => ((rRuns N p0 p1).bind fun (l67, x72) => (((((if x50 ≠ x72 then some (true) else (if ((l45.length : Nat) : Int) ≠ ((l67.length : Nat) : Int) then some (true) else some (false))) : Option (Bool)).bind fun b96 => (match b96 with | true => some (Ctl.ret false) | false => ((some (!((strOfNums l34).toList == (strOfNums p1).toList))).bind fun b105 => (match b105 with | true => some (Ctl.ret false) | false => some (Ctl.go ()))))) : Option (Ctl (Unit) (Bool))).bind fun | Ctl.go () => ((fRuns_L1 N l45 l67 N 0 : Option (Ctl (Unit) (Bool))).bind fun | Ctl.go () => ((kWorks N ).bind fun b333 => some b333) | Ctl.ret r => some r) | Ctl.ret r => some r)))) | Ctl.ret r => some r)
set_option linter.unusedVariables false in
def fRuns_R (r : Bool) (w0 : World) (v : Value) (w : World) : Prop := v = .bool r ∧ St [] w0 w []
set_option maxRecDepth 100000 in
set_option maxHeartbeats 4000000 in
theorem fRuns_ok (N : Nat) (p0 : List Int) (p1 : List Int) (A0 : Option Addr) (c0 : Nat) (A1 : Option Addr) (c1 : Nat) (r : Bool) (hF : fRuns N p0 p1 = some r) (w0 : World) (hv0 : Vw [] .i32 w0 A0 c0 p0) (hv1 : Vw [] .u8 w0 A1 c1 p1) (hcd : MirB [] w0) :
  Calls Tryd.prog 4 #[.slice A0 p0.length c0, .slice A1 p1.length c1] w0 fun e w => ∃ v, e = .returned v ∧ fRuns_R r w0 v w := by
 have hS0 := (St.start w0).pool0
 unfold fRuns at hF
 refine calls_of Tryd.func4 rfl ⟨((.slice A0 p0.length c0) :: (.slice A1 p1.length c1) :: un 107 ([])).toArray, []⟩ (by kernel_rfl) ?_
 refine gx_seq (fun K1 hK2 => ?_)
 refine gx_region ?_
 refine gx_k (.bool false) w0 ?_
 refine gx_nil ?_
 refine gx_thenN ?_
 refine hK2 _ _ ?_
 obtain ⟨c6, hE7, hO8⟩ := bind_in hF
 refine gx_cut (fun a w => selfA (fun u5 => ⟨((.slice A0 p0.length c0) :: (.slice A1 p1.length c1) :: undef :: undef :: (u5 4) :: un 6 (dd u5 11 9 (un 89 ([])))).toArray, []⟩) a ∧ Ctl.go () = c6 ∧ St [] w0 w [poolE ([]) w0]) ?_ ?_
 ·refine gx_seq (fun K9 hK10 => ?_)
  refine gx_region ?_
  refine gx_k (.slice A0 p0.length c0) w0 (gx_k (.int .i64 ((p0.length : Nat) : Int)) w0 ?_)
  rcases if_in hE7 with ⟨h11, hE7⟩ | ⟨h11, hE7⟩
  ·refine gx_v (.bool true) w0 (run_boolE (decide_eq_true h11) (by kernel_rfl)) ?_
   refine gx_k (.bool true) w0 (gx_o (gx_o (gx_o (gx_k (.bool true) w0 ?_))))
   refine gx_nil ?_
   refine gx_thenN ?_
   refine hK10 _ _ ?_
   refine gx_yes (by kernel_rfl) ?_
   refine gx_seq (fun K12 hK13 => ?_)
   refine gx_region ?_
   have hP14 : St _ _ w0 ([] ++ [poolE ([]) w0]) := hS0
   obtain ⟨b16, hc15, hE7⟩ := bind_in hE7
   try dsimp only at hE7
   refine gx_c (kWorks_R b16 w0) (kWorks_ok N  _ hc15 w0 (MirB.atL hcd hP14)) ?_
   rintro _ w17 ⟨rfl, hT19⟩
   have hS18 : St _ _ w17 [poolE ([]) w0] := hS0.take _ hT19
   refine gx_k (.bool b16) w17 ?_
   refine gx_nil ?_
   refine gx_thenN ?_
   refine hK13 _ _ ?_
   refine gx_ret ?_
   refine gx_thenR ?_
   obtain rfl := Option.some.inj hE7
   try dsimp only at hO8
   obtain rfl := Option.some.inj hO8
   exact gx_fin (.bool b16) (by kernel_rfl) (by kernel_rfl) ⟨_, rfl, rfl, (hS18.pick [] rfl rfl)⟩
  ·refine gx_v (.bool false) w0 (run_boolE (decide_eq_false h11) (by kernel_rfl)) ?_
   refine gx_k (.bool false) w0 (gx_k (.slice A1 p1.length c1) w0 (gx_k (.int .i64 ((p1.length : Nat) : Int)) w0 ?_))
   rcases if_in hE7 with ⟨h20, hE7⟩ | ⟨h20, hE7⟩
   ·refine gx_v (.bool true) w0 (run_boolE (decide_eq_true h20) (by kernel_rfl)) ?_
    refine gx_k (.bool true) w0 ?_
    refine gx_nil ?_
    refine gx_thenN ?_
    refine hK10 _ _ ?_
    refine gx_yes (by kernel_rfl) ?_
    refine gx_seq (fun K21 hK22 => ?_)
    refine gx_region ?_
    have hP23 : St _ _ w0 ([] ++ [poolE ([]) w0]) := hS0
    obtain ⟨b25, hc24, hE7⟩ := bind_in hE7
    try dsimp only at hE7
    refine gx_c (kWorks_R b25 w0) (kWorks_ok N  _ hc24 w0 (MirB.atL hcd hP23)) ?_
    rintro _ w26 ⟨rfl, hT28⟩
    have hS27 : St _ _ w26 [poolE ([]) w0] := hS0.take _ hT28
    refine gx_k (.bool b25) w26 ?_
    refine gx_nil ?_
    refine gx_thenN ?_
    refine hK22 _ _ ?_
    refine gx_ret ?_
    refine gx_thenR ?_
    obtain rfl := Option.some.inj hE7
    try dsimp only at hO8
    obtain rfl := Option.some.inj hO8
    exact gx_fin (.bool b25) (by kernel_rfl) (by kernel_rfl) ⟨_, rfl, rfl, (hS27.pick [] rfl rfl)⟩
   ·refine gx_v (.bool false) w0 (run_boolE (decide_eq_false h20) (by kernel_rfl)) ?_
    refine gx_k (.bool false) w0 ?_
    refine gx_nil ?_
    refine gx_thenN ?_
    refine hK10 _ _ ?_
    refine gx_no (by kernel_rfl) ?_
    refine gx_pass ?_
    refine gx_thenN ?_
    exact ⟨selfA_i (by kernel_rfl), (Option.some.inj hE7), hS0⟩
 ·rintro _ w3 ⟨hq339, rfl, hS4⟩
  obtain ⟨u5, rfl⟩ := selfA_u hq339
  try dsimp only at hO8
  refine gx_seq (fun K29 hK30 => ?_)
  refine gx_region ?_
  refine gx_k (.slice none 0 0) w3 ?_
  refine gx_nil ?_
  refine gx_thenN ?_
  refine hK30 _ _ ?_
  refine gx_seq (fun K31 hK32 => ?_)
  refine gx_region ?_
  refine gx_k (.slice none 0 0) w3 (gx_k (.slice A1 p1.length c1) w3 ?_)
  have hS33 : St _ _ w3 [poolE ([]) w0, rowE .u8 5 none 0 ([])] := hS4.nilrow .u8 5
  obtain ⟨l34, ha35, hO8⟩ := bind_in hO8
  obtain ⟨ha35, hq36⟩ := apx_in ha35
  refine gx_r (st_append rfl (by kernel_rfl) (by kernel_rfl) hS33 1 rfl (hS33.view hv1) hv1.nn ha35 (by kernel_rfl) (by kernel_rfl)) ?_
  rintro _ w39 ⟨A37, c38, rfl, hS40⟩
  rw [← hq36] at hS40 ⊢
  have hS40 : St _ _ w39 [poolE ([]) w0, rowE .u8 5 A37 c38 l34] := hS40
  refine gx_k (.slice A37 l34.length c38) w39 ?_
  refine gx_nil ?_
  refine gx_thenN ?_
  refine hK32 _ _ ?_
  refine gx_seq (fun K41 hK42 => ?_)
  refine gx_region ?_
  refine gx_k (.slice A0 p0.length c0) w39 (gx_k (.slice A37 l34.length c38) w39 ?_)
  have hP43 : St _ _ w39 ([] ++ [poolE ([]) w0, rowE .u8 5 A37 c38 l34]) := hS40
  obtain ⟨⟨l45, x50⟩, hc44, hO8⟩ := bind_in hO8
  try dsimp only at hO8
  refine gx_c (pRuns_R (l45, x50) w39) (pRuns_ok N p0 l34 A0 c0 A37 c38 _ hc44 w39 (hP43.vwA hv0) (hP43.vwB 1 rfl) (MirB.atL hcd hP43)) ?_
  rintro _ w52 ⟨A46, c47, vs48, ft51, rfl, hT54, hf49⟩
  have hS53 : St _ _ w52 [poolE ([]) w0, rowE .u8 5 A37 c38 l34, rowG 35 4 (.slice A46 l45.length c47) l45.length vs48, poolE ft51 w52] := hS40.take _ hT54
  obtain ⟨ft55, W56, hS57, hT58, hU59⟩ := hS53.merge 3 0 rfl rfl (by decide)
  have hS57 : St _ _ w52 [poolE ft55 W56, rowE .u8 5 A37 c38 l34, rowG 35 4 (.slice A46 l45.length c47) l45.length vs48] := hS57
  have hT58 : Turn [] w0 w0 ([]) W56 ft55 := hT58
  have hf62 : (fEach encitemiseRun vs48 l45).rd W56 ft55 := hU59 _ hf49
  refine gx_k (.tuple #[.slice A46 l45.length c47, .int .i64 x50]) w52 (gx_k (.slice A46 l45.length c47) w52 (gx_k (.int .i64 x50) w52 (gx_k (.slice A46 l45.length c47) w52 (gx_k (.int .i64 x50) w52 ?_))))
  refine gx_nil ?_
  refine gx_thenN ?_
  refine hK42 _ _ ?_
  refine gx_seq (fun K63 hK64 => ?_)
  refine gx_region ?_
  refine gx_k (.slice A0 p0.length c0) w52 (gx_k (.slice A1 p1.length c1) w52 ?_)
  have hP65 : St _ _ w52 ([] ++ [poolE ft55 W56, rowE .u8 5 A37 c38 l34, rowG 35 4 (.slice A46 l45.length c47) l45.length vs48]) := hS57
  obtain ⟨⟨l67, x72⟩, hc66, hO8⟩ := bind_in hO8
  try dsimp only at hO8
  refine gx_c (rRuns_R (l67, x72) w52) (rRuns_ok N p0 p1 A0 c0 A1 c1 _ hc66 w52 (hP65.vwA hv0) (hP65.vwA hv1)) ?_
  rintro _ w74 ⟨A68, c69, vs70, ft73, rfl, hT76, hf71⟩
  have hS75 : St _ _ w74 [poolE ft55 W56, rowE .u8 5 A37 c38 l34, rowG 35 4 (.slice A46 l45.length c47) l45.length vs48, rowG 36 4 (.slice A68 l67.length c69) l67.length vs70, poolE ft73 w74] := hS57.take _ hT76
  obtain ⟨ft77, W78, hS79, hT80, hU81⟩ := hS75.merge 4 0 rfl rfl (by decide)
  have hS79 : St _ _ w74 [poolE ft77 W78, rowE .u8 5 A37 c38 l34, rowG 35 4 (.slice A46 l45.length c47) l45.length vs48, rowG 36 4 (.slice A68 l67.length c69) l67.length vs70] := hS79
  have hT80 : Turn [] w0 W56 ft55 W78 ft77 := hT80
  have hf84 : (fEach enccalamusref14Run vs70 l67).rd W78 ft77 := hU81 _ hf71
  refine gx_k (.tuple #[.slice A68 l67.length c69, .int .i64 x72]) w74 (gx_k (.slice A68 l67.length c69) w74 (gx_k (.int .i64 x72) w74 (gx_k (.slice A68 l67.length c69) w74 (gx_k (.int .i64 x72) w74 ?_))))
  refine gx_nil ?_
  refine gx_thenN ?_
  refine hK64 _ _ ?_
  obtain ⟨c88, hE89, hO90⟩ := bind_in hO8
  refine gx_cut (fun a w => selfA (fun u87 => ⟨(dd u87 0 2 (undef :: undef :: dd u87 4 2 ((.slice A46 l45.length c47) :: (.int .i64 x50) :: (.slice A68 l67.length c69) :: (.int .i64 x72) :: undef :: dd u5 11 9 ((.slice none 0 0) :: dd u87 21 7 ((.int .i64 x50) :: dd u87 29 5 ((.int .i64 x72) :: dd u87 35 17 (un 57 ([])))))))).toArray, []⟩) a ∧ Ctl.go () = c88 ∧ St [] w0 w [poolE ft77 W78, rowG 35 4 (.slice A46 l45.length c47) l45.length vs48, rowG 36 4 (.slice A68 l67.length c69) l67.length vs70]) ?_ ?_
  ·refine gx_seq (fun K91 hK92 => ?_)
   refine gx_region ?_
   refine gx_k (.int .i64 x50) w74 (gx_k (.int .i64 x72) w74 ?_)
   obtain ⟨c97, hE98, hO99⟩ := bind_in hE89
   refine gx_part (l1 := [_, _, _, _, _, _, _, _]) (fun a w => ∃ (b96 : Bool), selfA (fun u95 => ⟨((u95 0) :: (.slice A1 p1.length c1) :: undef :: undef :: (u5 4) :: (.slice A37 l34.length c38) :: (.slice A46 l45.length c47) :: (.int .i64 x50) :: (.slice A68 l67.length c69) :: (.int .i64 x72) :: undef :: dd u5 11 9 ((.slice none 0 0) :: dd u95 21 7 ((.int .i64 x50) :: dd u95 29 5 ((.int .i64 x72) :: (.int .i64 x50) :: (.int .i64 x72) :: dd u95 37 7 ((.bool b96) :: un 64 ([])))))).toArray, []⟩) a ∧ b96 = c97 ∧ St [] w0 w [poolE ft77 W78, rowE .u8 5 A37 c38 l34, rowG 35 4 (.slice A46 l45.length c47) l45.length vs48, rowG 36 4 (.slice A68 l67.length c69) l67.length vs70]) rfl ?_ ?_
   ·rcases if_in hE98 with ⟨h101, hE98⟩ | ⟨h101, hE98⟩
    ·refine gx_v (.bool true) w74 (run_boolE (ne_yes h101) (by kernel_rfl)) ?_
     refine gx_k (.bool true) w74 (gx_o (gx_o (gx_o (gx_o (gx_o (gx_k (.bool true) w74 ?_))))))
     refine gx_nil ?_
     refine gx_thenN ?_
     exact ⟨true, selfA_i (by kernel_rfl), (Option.some.inj hE98), hS79⟩
    ·refine gx_v (.bool false) w74 (run_boolE (ne_no h101) (by kernel_rfl)) ?_
     refine gx_k (.bool false) w74 (gx_k (.slice A46 l45.length c47) w74 (gx_k (.int .i64 ((l45.length : Nat) : Int)) w74 (gx_k (.slice A68 l67.length c69) w74 (gx_k (.int .i64 ((l67.length : Nat) : Int)) w74 ?_))))
     rcases if_in hE98 with ⟨h102, hE98⟩ | ⟨h102, hE98⟩
     ·refine gx_v (.bool true) w74 (run_boolE (ne_yes h102) (by kernel_rfl)) ?_
      refine gx_k (.bool true) w74 ?_
      refine gx_nil ?_
      refine gx_thenN ?_
      exact ⟨true, selfA_i (by kernel_rfl), (Option.some.inj hE98), hS79⟩
     ·refine gx_v (.bool false) w74 (run_boolE (ne_no h102) (by kernel_rfl)) ?_
      refine gx_k (.bool false) w74 ?_
      refine gx_nil ?_
      refine gx_thenN ?_
      exact ⟨false, selfA_i (by kernel_rfl), (Option.some.inj hE98), hS79⟩
   ·rintro _ w93 ⟨b96, hq100, rfl, hS94⟩
    obtain ⟨u95, rfl⟩ := selfA_u hq100
    try dsimp only at hO99
    refine gx_k (.bool b96) w93 ?_
    cases b96 with
    | true =>
     try dsimp only at hO99
     refine gx_o (gx_o (gx_o (gx_o (gx_o (gx_k (.bool true) w93 ?_)))))
     refine gx_nil ?_
     refine gx_thenN ?_
     refine hK92 _ _ ?_
     refine gx_yes (by kernel_rfl) ?_
     refine gx_seq (fun K103 hK104 => ?_)
     refine gx_region ?_
     refine gx_k (.bool false) w93 ?_
     refine gx_nil ?_
     refine gx_thenN ?_
     refine hK104 _ _ ?_
     refine gx_ret ?_
     refine gx_thenR ?_
     obtain rfl := Option.some.inj hO99
     try dsimp only at hO90
     obtain rfl := Option.some.inj hO90
     exact gx_fin (.bool false) (by kernel_rfl) (by kernel_rfl) ⟨_, rfl, rfl, (hS94.pick [] rfl rfl)⟩
    | false =>
     try dsimp only at hO99
     refine gx_k (.slice A37 l34.length c38) w93 ?_
     refine gx_v (.string (strOfNums l34)) w93 (run_conv rfl (by kernel_rfl) (conv_b _ _ _ (hS94.row 1 rfl).1)) ?_
     refine gx_k (.slice A1 p1.length c1) w93 ?_
     refine gx_v (.string (strOfNums p1)) w93 (run_conv rfl (by kernel_rfl) (conv_b _ _ _ (hS94.view hv1))) ?_
     obtain ⟨b105, h106, hO99⟩ := bind_in hO99
     refine gx_v (.bool b105) w93 (run_boolE (Option.some.inj h106) (by kernel_rfl)) ?_
     refine gx_k (.bool b105) w93 ?_
     refine gx_nil ?_
     refine gx_thenN ?_
     refine hK92 _ _ ?_
     cases b105 with
     | true =>
      try dsimp only at hO99
      refine gx_yes (by kernel_rfl) ?_
      refine gx_seq (fun K107 hK108 => ?_)
      refine gx_region ?_
      refine gx_k (.bool false) w93 ?_
      refine gx_nil ?_
      refine gx_thenN ?_
      refine hK108 _ _ ?_
      refine gx_ret ?_
      refine gx_thenR ?_
      obtain rfl := Option.some.inj hO99
      try dsimp only at hO90
      obtain rfl := Option.some.inj hO90
      exact gx_fin (.bool false) (by kernel_rfl) (by kernel_rfl) ⟨_, rfl, rfl, (hS94.pick [] rfl rfl)⟩
     | false =>
      try dsimp only at hO99
      refine gx_no (by kernel_rfl) ?_
      refine gx_pass ?_
      refine gx_thenN ?_
      exact ⟨selfA_i (by kernel_rfl), (Option.some.inj hO99), (hS94.pick [0, 2, 3] rfl rfl)⟩
  ·rintro _ w85 ⟨hq338, rfl, hS86⟩
   obtain ⟨u87, rfl⟩ := selfA_u hq338
   try dsimp only at hO90
   obtain ⟨c112, hE113, hO114⟩ := bind_in hO90
   refine gx_cut (fun a w => selfA (fun u111 => ⟨(dd u87 0 2 (undef :: undef :: (u111 4) :: (u87 5) :: (u111 6) :: (.int .i64 x50) :: (u111 8) :: (.int .i64 x72) :: (u111 10) :: dd u5 11 9 ((.slice none 0 0) :: dd u87 21 7 ((.int .i64 x50) :: dd u87 29 5 ((.int .i64 x72) :: dd u87 35 17 (dd u111 52 56 (undef :: []))))))).toArray, []⟩) a ∧ Ctl.go () = c112 ∧ St [] w0 w [poolE ft77 W78]) ?_ ?_
   ·refine gx_seq (fun K115 hK116 => ?_)
    refine gx_region ?_
    refine gx_k (.int .i64 0) w85 ?_
    refine gx_nil ?_
    refine gx_thenN ?_
    refine hK116 _ _ ?_
    refine gx_block ?_
    refine gx_loop (fun k a w => ∃ (x120 : Int), selfA (fun u119 => ⟨(dd u87 0 2 (undef :: undef :: (u119 4) :: (u87 5) :: (.slice A46 l45.length c47) :: (.int .i64 x50) :: (.slice A68 l67.length c69) :: (.int .i64 x72) :: (.int .i64 x120) :: dd u5 11 9 ((.slice none 0 0) :: dd u87 21 7 ((.int .i64 x50) :: dd u87 29 5 ((.int .i64 x72) :: dd u87 35 17 (dd u119 52 56 (undef :: []))))))).toArray, []⟩) a ∧ fRuns_L1 N l45 l67 k x120 = some c112 ∧ St [] w0 w [poolE ft77 W78, rowG 35 4 (.slice A46 l45.length c47) l45.length vs48, rowG 36 4 (.slice A68 l67.length c69) l67.length vs70]) N ?_ ?_
    ·exact ⟨0, selfA_i (by kernel_rfl), hE113, hS86⟩
    ·rintro k121 _ w117 ⟨x120, hq328, hL122, hS118⟩
     obtain ⟨u119, rfl⟩ := selfA_u hq328
     cases k121 with
     | zero => cases hL122
     | succ k121 =>
      first | rw [fRuns_L1] at hL122 | unfold fRuns_L1 at hL122
      refine gx_seq (fun K123 hK124 => ?_)
      refine gx_seq (fun K125 hK126 => ?_)
      refine gx_region ?_
      refine gx_k (.int .i64 x120) w117 (gx_k (.slice A46 l45.length c47) w117 (gx_k (.int .i64 ((l45.length : Nat) : Int)) w117 ?_))
      rcases if_in hL122 with ⟨h127, hL122⟩ | ⟨h127, hL122⟩
      ·refine gx_v (.bool true) w117 (run_boolE (decide_eq_true h127) (by kernel_rfl)) ?_
       refine gx_nil ?_
       refine gx_thenN ?_
       refine hK126 _ _ ?_
       refine gx_yes (by kernel_rfl) ?_
       refine gx_pass ?_
       refine gx_thenN ?_
       refine hK124 _ _ ?_
       refine gx_seq (fun K128 hK129 => ?_)
       refine gx_block ?_
       refine gx_seq (fun K130 hK131 => ?_)
       refine gd_start (fun w => St [] w0 w [poolE ft77 W78, rowG 35 4 (.slice A46 l45.length c47) l45.length vs48, rowG 36 4 (.slice A68 l67.length c69) l67.length vs70]) 50 #[false, false, false, false, false, false, false, false, false, false, false, false, false, false, false, false, false, false, false, false, false, false, false, false, false, false, false, false, false, false, false, false, false, false, false, false, false, false, false, false, false, false, false, false, false, false, false, false, false, false] (by kernel_rfl) (by kernel_rfl) ?_
       have hS133 := hS118.drew
       generalize w117.drew = w132 at hS133 ⊢
       refine gv1 0 58 (.slice A46 l45.length c47) rfl hS133 ?_
       refine gv1 1 59 (.int .i64 x120) rfl hS133 ?_
       obtain ⟨x134, hx135, hL122⟩ := bind_in hL122
       obtain ⟨g136, o137, e138, hA139, he140, h141, ha142⟩ := elem_at (e := encitemiseRun) (rowG_lies (e := encitemiseRun) rfl (hS133.get 1 rfl)) (hT80.pool hf62) hx135 (by decide)
       obtain ⟨e143, e144, rfl, h145, h146⟩ := h141
       obtain rfl := h145
       obtain ⟨e147, e148, rfl, h149, h150⟩ := h146
       obtain rfl := h149
       obtain ⟨e151, e152, rfl, h153, h154⟩ := h150
       obtain rfl := h153
       obtain rfl := h154
       have ha142 : ∀ w', Lies w' A46 vs48 → w'.rangeAt g136 o137 [.int .i64 x134.1, .int .i64 x134.2.1, .int .u8 x134.2.2.1, .int .u8 x134.2.2.2] := ha142
       refine gu1 2 60 (.pointer (some ⟨g136, o137, none⟩)) rfl hS133 (fun w hSw => run_ixaddrN (E := 35) (s := 4) (k := .i64) (c := c47) rfl (by kernel_rfl) (by kernel_rfl) (by kernel_rfl) (fun _ => by kernel_rfl) (ixg_in hx135).1 (ixg_in hx135).2.1 hA139) ?_
       refine gv1 3 61 (.pointer (some ⟨g136, o137, none⟩)) rfl hS133 ?_
       refine gu1 4 62 (.int .i64 x134.1) rfl hS133 (fun w hSw => run_loadN1 0 rfl (by kernel_rfl) (fun _ => by kernel_rfl) (ha142 _ (rowG_lies (e := encitemiseRun) rfl (hSw.get 1 rfl))) rfl) ?_
       refine gv1 5 63 (.slice A68 l67.length c69) rfl hS133 ?_
       refine gv1 6 64 (.int .i64 x120) rfl hS133 ?_
       obtain ⟨x155, hx156, hL122⟩ := bind_in hL122
       obtain ⟨g157, o158, e159, hA160, he161, h162, ha163⟩ := elem_at (e := enccalamusref14Run) (rowG_lies (e := enccalamusref14Run) rfl (hS133.get 2 rfl)) hf84 hx156 (by decide)
       obtain ⟨e164, e165, rfl, h166, h167⟩ := h162
       obtain rfl := h166
       obtain ⟨e168, e169, rfl, h170, h171⟩ := h167
       obtain rfl := h170
       obtain ⟨e172, e173, rfl, h174, h175⟩ := h171
       obtain rfl := h174
       obtain rfl := h175
       have ha163 : ∀ w', Lies w' A68 vs70 → w'.rangeAt g157 o158 [.int .i64 x155.1, .int .i64 x155.2.1, .int .u8 x155.2.2.1, .int .u8 x155.2.2.2] := ha163
       refine gu1 7 65 (.pointer (some ⟨g157, o158, none⟩)) rfl hS133 (fun w hSw => run_ixaddrN (E := 36) (s := 4) (k := .i64) (c := c69) rfl (by kernel_rfl) (by kernel_rfl) (by kernel_rfl) (fun _ => by kernel_rfl) (ixg_in hx156).1 (ixg_in hx156).2.1 hA160) ?_
       refine gv1 8 66 (.pointer (some ⟨g157, o158, none⟩)) rfl hS133 ?_
       refine gu1 9 67 (.int .i64 x155.1) rfl hS133 (fun w hSw => run_loadN1 0 rfl (by kernel_rfl) (fun _ => by kernel_rfl) (ha163 _ (rowG_lies (e := enccalamusref14Run) rfl (hSw.get 2 rfl))) rfl) ?_
       obtain ⟨c180, hE181, hO182⟩ := bind_in hL122
       refine gd_mid (fun a w => ∃ (b179 : Bool), selfA (fun u178 => ⟨(dd u87 0 2 (undef :: undef :: (u119 4) :: (u87 5) :: (.slice A46 l45.length c47) :: (.int .i64 x50) :: (.slice A68 l67.length c69) :: (.int .i64 x72) :: (.int .i64 x120) :: dd u5 11 9 ((.slice none 0 0) :: dd u87 21 7 ((.int .i64 x50) :: dd u87 29 5 ((.int .i64 x72) :: dd u87 35 17 ((.int .i64 x120) :: (u178 53) :: (.int .i64 ((l45.length : Nat) : Int)) :: (.bool true) :: dd u119 56 2 ((u178 58) :: (.int .i64 x120) :: dd u178 60 2 ((.int .i64 x134.1) :: (u178 63) :: (.int .i64 x120) :: dd u178 65 2 ((.int .i64 x155.1) :: dd u178 68 13 ((.bool b179) :: dd u119 82 26 (undef :: []))))))))))).toArray, []⟩) a ∧ b179 = c180 ∧ St [] w0 w [poolE ft77 W78, rowG 35 4 (.slice A46 l45.length c47) l45.length vs48, rowG 36 4 (.slice A68 l67.length c69) l67.length vs70]) 26 #[true, true, true, true, true, true, true, true, true, true, true, true, true, true, true, true, true, true, true, true, true, true, true, true, false, false, false, false, false, false, false, false, false, false, false, false, false, false, false, false, false, false, false, false, false, false, false, false, false, false] ?_ ?_
       ·rintro _ w176 ⟨b179, hq183, rfl, hS177⟩
        obtain ⟨u178, rfl⟩ := selfA_u hq183
        try dsimp only at hO182
        obtain ⟨c233, hE234, hO235⟩ := bind_in hO182
        refine gd_mid (fun a w => ∃ (b232 : Bool), selfA (fun u231 => ⟨(dd u87 0 2 (undef :: undef :: (u119 4) :: (u87 5) :: (.slice A46 l45.length c47) :: (.int .i64 x50) :: (.slice A68 l67.length c69) :: (.int .i64 x72) :: (.int .i64 x120) :: dd u5 11 9 ((.slice none 0 0) :: dd u87 21 7 ((.int .i64 x50) :: dd u87 29 5 ((.int .i64 x72) :: dd u87 35 17 ((.int .i64 x120) :: (u178 53) :: (.int .i64 ((l45.length : Nat) : Int)) :: (.bool true) :: dd u119 56 2 ((u178 58) :: (.int .i64 x120) :: dd u178 60 2 ((.int .i64 x134.1) :: (u178 63) :: (.int .i64 x120) :: dd u178 65 2 ((.int .i64 x155.1) :: dd u178 68 13 ((.bool b179) :: dd u231 82 12 ((.bool b232) :: dd u119 95 13 (undef :: [])))))))))))).toArray, []⟩) a ∧ b232 = c233 ∧ St [] w0 w [poolE ft77 W78, rowG 35 4 (.slice A46 l45.length c47) l45.length vs48, rowG 36 4 (.slice A68 l67.length c69) l67.length vs70]) 13 #[true, true, true, true, true, true, true, true, true, true, true, true, true, true, true, true, true, true, true, true, true, true, true, true, true, true, true, true, true, true, true, true, true, true, true, true, true, false, false, false, false, false, false, false, false, false, false, false, false, false] ?_ ?_
        ·rintro _ w229 ⟨b232, hq236, rfl, hS230⟩
         obtain ⟨u231, rfl⟩ := selfA_u hq236
         try dsimp only at hO235
         refine gv1 37 95 (.bool b232) rfl hS230 ?_
         cases b232 with
         | true =>
          try dsimp only at hO235
          refine gz1 38 96 rfl hS230 ?_
          refine gz1 39 97 rfl hS230 ?_
          refine gz1 40 98 rfl hS230 ?_
          refine gz1 41 99 rfl hS230 ?_
          refine gz1 42 100 rfl hS230 ?_
          refine gz1 43 101 rfl hS230 ?_
          refine gz1 44 102 rfl hS230 ?_
          refine gz1 45 103 rfl hS230 ?_
          refine gz1 46 104 rfl hS230 ?_
          refine gz1 47 105 rfl hS230 ?_
          refine gz1 48 106 rfl hS230 ?_
          refine gv1 49 107 (.bool true) rfl hS230 ?_
          refine gd_done (by kernel_rfl) ?_
          refine gx_thenN ?_
          refine hK131 _ _ ?_
          refine gx_yes (by kernel_rfl) ?_
          refine gx_seq (fun K281 hK282 => ?_)
          refine gx_region ?_
          refine gx_k (.bool false) w229 ?_
          refine gx_nil ?_
          refine gx_thenN ?_
          refine hK282 _ _ ?_
          refine gx_ret ?_
          refine gx_blkR ?_
          refine gx_thenR ?_
          refine gx_thenR ?_
          refine gx_blkR ?_
          refine gx_thenR ?_
          obtain rfl := Option.some.inj hO235
          try dsimp only at hO114
          obtain rfl := Option.some.inj hO114
          exact gx_fin (.bool false) (by kernel_rfl) (by kernel_rfl) ⟨_, rfl, rfl, (hS230.pick [] rfl rfl)⟩
         | false =>
          try dsimp only at hO235
          refine gv1 38 96 (.slice A46 l45.length c47) rfl hS230 ?_
          refine gv1 39 97 (.int .i64 x120) rfl hS230 ?_
          obtain ⟨x283, hx284, hO235⟩ := bind_in hO235
          obtain ⟨g285, o286, e287, hA288, he289, h290, ha291⟩ := elem_at (e := encitemiseRun) (rowG_lies (e := encitemiseRun) rfl (hS230.get 1 rfl)) (hT80.pool hf62) hx284 (by decide)
          obtain ⟨e292, e293, rfl, h294, h295⟩ := h290
          obtain rfl := h294
          obtain ⟨e296, e297, rfl, h298, h299⟩ := h295
          obtain rfl := h298
          obtain ⟨e300, e301, rfl, h302, h303⟩ := h299
          obtain rfl := h302
          obtain rfl := h303
          have ha291 : ∀ w', Lies w' A46 vs48 → w'.rangeAt g285 o286 [.int .i64 x283.1, .int .i64 x283.2.1, .int .u8 x283.2.2.1, .int .u8 x283.2.2.2] := ha291
          refine gu1 40 98 (.pointer (some ⟨g285, o286, none⟩)) rfl hS230 (fun w hSw => run_ixaddrN (E := 35) (s := 4) (k := .i64) (c := c47) rfl (by kernel_rfl) (by kernel_rfl) (by kernel_rfl) (fun _ => by kernel_rfl) (ixg_in hx284).1 (ixg_in hx284).2.1 hA288) ?_
          refine gv1 41 99 (.pointer (some ⟨g285, o286 + 3, none⟩)) rfl hS230 ?_
          refine gu1 42 100 (.int .u8 x283.2.2.2) rfl hS230 (fun w hSw => run_loadN1 3 rfl (by kernel_rfl) (fun _ => by kernel_rfl) (ha291 _ (rowG_lies (e := encitemiseRun) rfl (hSw.get 1 rfl))) rfl) ?_
          refine gv1 43 101 (.slice A68 l67.length c69) rfl hS230 ?_
          refine gv1 44 102 (.int .i64 x120) rfl hS230 ?_
          obtain ⟨x304, hx305, hO235⟩ := bind_in hO235
          obtain ⟨g306, o307, e308, hA309, he310, h311, ha312⟩ := elem_at (e := enccalamusref14Run) (rowG_lies (e := enccalamusref14Run) rfl (hS230.get 2 rfl)) hf84 hx305 (by decide)
          obtain ⟨e313, e314, rfl, h315, h316⟩ := h311
          obtain rfl := h315
          obtain ⟨e317, e318, rfl, h319, h320⟩ := h316
          obtain rfl := h319
          obtain ⟨e321, e322, rfl, h323, h324⟩ := h320
          obtain rfl := h323
          obtain rfl := h324
          have ha312 : ∀ w', Lies w' A68 vs70 → w'.rangeAt g306 o307 [.int .i64 x304.1, .int .i64 x304.2.1, .int .u8 x304.2.2.1, .int .u8 x304.2.2.2] := ha312
          refine gu1 45 103 (.pointer (some ⟨g306, o307, none⟩)) rfl hS230 (fun w hSw => run_ixaddrN (E := 36) (s := 4) (k := .i64) (c := c69) rfl (by kernel_rfl) (by kernel_rfl) (by kernel_rfl) (fun _ => by kernel_rfl) (ixg_in hx305).1 (ixg_in hx305).2.1 hA309) ?_
          refine gv1 46 104 (.pointer (some ⟨g306, o307 + 3, none⟩)) rfl hS230 ?_
          refine gu1 47 105 (.int .u8 x304.2.2.2) rfl hS230 (fun w hSw => run_loadN1 3 rfl (by kernel_rfl) (fun _ => by kernel_rfl) (ha312 _ (rowG_lies (e := enccalamusref14Run) rfl (hSw.get 2 rfl))) rfl) ?_
          rcases if_in hO235 with ⟨h325, hO235⟩ | ⟨h325, hO235⟩
          ·refine gu1 48 106 (.bool true) rfl hS230 (fun w hSw => run_boolE (ne_yes h325) (by kernel_rfl)) ?_
           refine gv1 49 107 (.bool true) rfl hS230 ?_
           refine gd_done (by kernel_rfl) ?_
           refine gx_thenN ?_
           refine hK131 _ _ ?_
           refine gx_yes (by kernel_rfl) ?_
           refine gx_seq (fun K326 hK327 => ?_)
           refine gx_region ?_
           refine gx_k (.bool false) w229 ?_
           refine gx_nil ?_
           refine gx_thenN ?_
           refine hK327 _ _ ?_
           refine gx_ret ?_
           refine gx_blkR ?_
           refine gx_thenR ?_
           refine gx_thenR ?_
           refine gx_blkR ?_
           refine gx_thenR ?_
           obtain rfl := Option.some.inj hO235
           try dsimp only at hO114
           obtain rfl := Option.some.inj hO114
           exact gx_fin (.bool false) (by kernel_rfl) (by kernel_rfl) ⟨_, rfl, rfl, (hS230.pick [] rfl rfl)⟩
          ·refine gu1 48 106 (.bool false) rfl hS230 (fun w hSw => run_boolE (ne_no h325) (by kernel_rfl)) ?_
           refine gv1 49 107 (.bool false) rfl hS230 ?_
           refine gd_done (by kernel_rfl) ?_
           refine gx_thenN ?_
           refine hK131 _ _ ?_
           refine gx_no (by kernel_rfl) ?_
           refine gx_pass ?_
           refine gx_blkN ?_
           refine gx_thenN ?_
           refine hK129 _ _ ?_
           refine gx_region ?_
           refine gx_k (.int .i64 x120) w229 (gx_k (.int .i64 (IntKind.i64.wrap (x120 + 1))) w229 (gx_k (.int .i64 (IntKind.i64.wrap (x120 + 1))) w229 ?_))
           refine gx_nil ?_
           refine gx_thenN ?_
           exact ⟨k121, Nat.lt_succ_self k121, (IntKind.i64.wrap (x120 + 1)), selfA_i (by kernel_rfl), hO235, hS230⟩
        ·intro hK237
         refine gv1 24 82 (.bool b179) rfl hS177 ?_
         cases b179 with
         | true =>
          try dsimp only at hE234
          refine gz1 25 83 rfl hS177 ?_
          refine gz1 26 84 rfl hS177 ?_
          refine gz1 27 85 rfl hS177 ?_
          refine gz1 28 86 rfl hS177 ?_
          refine gz1 29 87 rfl hS177 ?_
          refine gz1 30 88 rfl hS177 ?_
          refine gz1 31 89 rfl hS177 ?_
          refine gz1 32 90 rfl hS177 ?_
          refine gz1 33 91 rfl hS177 ?_
          refine gz1 34 92 rfl hS177 ?_
          refine gz1 35 93 rfl hS177 ?_
          refine gv1 36 94 (.bool true) rfl hS177 ?_
          exact gd_to hK237 (by kernel_rfl) ⟨true, selfA_i (by kernel_rfl), (Option.some.inj hE234), hS177⟩
         | false =>
          try dsimp only at hE234
          refine gv1 25 83 (.slice A46 l45.length c47) rfl hS177 ?_
          refine gv1 26 84 (.int .i64 x120) rfl hS177 ?_
          obtain ⟨x238, hx239, hE234⟩ := bind_in hE234
          obtain ⟨g240, o241, e242, hA243, he244, h245, ha246⟩ := elem_at (e := encitemiseRun) (rowG_lies (e := encitemiseRun) rfl (hS177.get 1 rfl)) (hT80.pool hf62) hx239 (by decide)
          obtain ⟨e247, e248, rfl, h249, h250⟩ := h245
          obtain rfl := h249
          obtain ⟨e251, e252, rfl, h253, h254⟩ := h250
          obtain rfl := h253
          obtain ⟨e255, e256, rfl, h257, h258⟩ := h254
          obtain rfl := h257
          obtain rfl := h258
          have ha246 : ∀ w', Lies w' A46 vs48 → w'.rangeAt g240 o241 [.int .i64 x238.1, .int .i64 x238.2.1, .int .u8 x238.2.2.1, .int .u8 x238.2.2.2] := ha246
          refine gu1 27 85 (.pointer (some ⟨g240, o241, none⟩)) rfl hS177 (fun w hSw => run_ixaddrN (E := 35) (s := 4) (k := .i64) (c := c47) rfl (by kernel_rfl) (by kernel_rfl) (by kernel_rfl) (fun _ => by kernel_rfl) (ixg_in hx239).1 (ixg_in hx239).2.1 hA243) ?_
          refine gv1 28 86 (.pointer (some ⟨g240, o241 + 2, none⟩)) rfl hS177 ?_
          refine gu1 29 87 (.int .u8 x238.2.2.1) rfl hS177 (fun w hSw => run_loadN1 2 rfl (by kernel_rfl) (fun _ => by kernel_rfl) (ha246 _ (rowG_lies (e := encitemiseRun) rfl (hSw.get 1 rfl))) rfl) ?_
          refine gv1 30 88 (.slice A68 l67.length c69) rfl hS177 ?_
          refine gv1 31 89 (.int .i64 x120) rfl hS177 ?_
          obtain ⟨x259, hx260, hE234⟩ := bind_in hE234
          obtain ⟨g261, o262, e263, hA264, he265, h266, ha267⟩ := elem_at (e := enccalamusref14Run) (rowG_lies (e := enccalamusref14Run) rfl (hS177.get 2 rfl)) hf84 hx260 (by decide)
          obtain ⟨e268, e269, rfl, h270, h271⟩ := h266
          obtain rfl := h270
          obtain ⟨e272, e273, rfl, h274, h275⟩ := h271
          obtain rfl := h274
          obtain ⟨e276, e277, rfl, h278, h279⟩ := h275
          obtain rfl := h278
          obtain rfl := h279
          have ha267 : ∀ w', Lies w' A68 vs70 → w'.rangeAt g261 o262 [.int .i64 x259.1, .int .i64 x259.2.1, .int .u8 x259.2.2.1, .int .u8 x259.2.2.2] := ha267
          refine gu1 32 90 (.pointer (some ⟨g261, o262, none⟩)) rfl hS177 (fun w hSw => run_ixaddrN (E := 36) (s := 4) (k := .i64) (c := c69) rfl (by kernel_rfl) (by kernel_rfl) (by kernel_rfl) (fun _ => by kernel_rfl) (ixg_in hx260).1 (ixg_in hx260).2.1 hA264) ?_
          refine gv1 33 91 (.pointer (some ⟨g261, o262 + 2, none⟩)) rfl hS177 ?_
          refine gu1 34 92 (.int .u8 x259.2.2.1) rfl hS177 (fun w hSw => run_loadN1 2 rfl (by kernel_rfl) (fun _ => by kernel_rfl) (ha267 _ (rowG_lies (e := enccalamusref14Run) rfl (hSw.get 2 rfl))) rfl) ?_
          rcases if_in hE234 with ⟨h280, hE234⟩ | ⟨h280, hE234⟩
          ·refine gu1 35 93 (.bool true) rfl hS177 (fun w hSw => run_boolE (ne_yes h280) (by kernel_rfl)) ?_
           refine gv1 36 94 (.bool true) rfl hS177 ?_
           exact gd_to hK237 (by kernel_rfl) ⟨true, selfA_i (by kernel_rfl), (Option.some.inj hE234), hS177⟩
          ·refine gu1 35 93 (.bool false) rfl hS177 (fun w hSw => run_boolE (ne_no h280) (by kernel_rfl)) ?_
           refine gv1 36 94 (.bool false) rfl hS177 ?_
           exact gd_to hK237 (by kernel_rfl) ⟨false, selfA_i (by kernel_rfl), (Option.some.inj hE234), hS177⟩
       ·intro hK184
        rcases if_in hE181 with ⟨h185, hE181⟩ | ⟨h185, hE181⟩
        ·refine gu1 10 68 (.bool true) rfl hS133 (fun w hSw => run_boolE (ne_yes h185) (by kernel_rfl)) ?_
         refine gv1 11 69 (.bool true) rfl hS133 ?_
         refine gz1 12 70 rfl hS133 ?_
         refine gz1 13 71 rfl hS133 ?_
         refine gz1 14 72 rfl hS133 ?_
         refine gz1 15 73 rfl hS133 ?_
         refine gz1 16 74 rfl hS133 ?_
         refine gz1 17 75 rfl hS133 ?_
         refine gz1 18 76 rfl hS133 ?_
         refine gz1 19 77 rfl hS133 ?_
         refine gz1 20 78 rfl hS133 ?_
         refine gz1 21 79 rfl hS133 ?_
         refine gz1 22 80 rfl hS133 ?_
         refine gv1 23 81 (.bool true) rfl hS133 ?_
         exact gd_to hK184 (by kernel_rfl) ⟨true, selfA_i (by kernel_rfl), (Option.some.inj hE181), hS133⟩
        ·refine gu1 10 68 (.bool false) rfl hS133 (fun w hSw => run_boolE (ne_no h185) (by kernel_rfl)) ?_
         refine gv1 11 69 (.bool false) rfl hS133 ?_
         refine gv1 12 70 (.slice A46 l45.length c47) rfl hS133 ?_
         refine gv1 13 71 (.int .i64 x120) rfl hS133 ?_
         obtain ⟨x186, hx187, hE181⟩ := bind_in hE181
         obtain ⟨g188, o189, e190, hA191, he192, h193, ha194⟩ := elem_at (e := encitemiseRun) (rowG_lies (e := encitemiseRun) rfl (hS133.get 1 rfl)) (hT80.pool hf62) hx187 (by decide)
         obtain ⟨e195, e196, rfl, h197, h198⟩ := h193
         obtain rfl := h197
         obtain ⟨e199, e200, rfl, h201, h202⟩ := h198
         obtain rfl := h201
         obtain ⟨e203, e204, rfl, h205, h206⟩ := h202
         obtain rfl := h205
         obtain rfl := h206
         have ha194 : ∀ w', Lies w' A46 vs48 → w'.rangeAt g188 o189 [.int .i64 x186.1, .int .i64 x186.2.1, .int .u8 x186.2.2.1, .int .u8 x186.2.2.2] := ha194
         refine gu1 14 72 (.pointer (some ⟨g188, o189, none⟩)) rfl hS133 (fun w hSw => run_ixaddrN (E := 35) (s := 4) (k := .i64) (c := c47) rfl (by kernel_rfl) (by kernel_rfl) (by kernel_rfl) (fun _ => by kernel_rfl) (ixg_in hx187).1 (ixg_in hx187).2.1 hA191) ?_
         refine gv1 15 73 (.pointer (some ⟨g188, o189 + 1, none⟩)) rfl hS133 ?_
         refine gu1 16 74 (.int .i64 x186.2.1) rfl hS133 (fun w hSw => run_loadN1 1 rfl (by kernel_rfl) (fun _ => by kernel_rfl) (ha194 _ (rowG_lies (e := encitemiseRun) rfl (hSw.get 1 rfl))) rfl) ?_
         refine gv1 17 75 (.slice A68 l67.length c69) rfl hS133 ?_
         refine gv1 18 76 (.int .i64 x120) rfl hS133 ?_
         obtain ⟨x207, hx208, hE181⟩ := bind_in hE181
         obtain ⟨g209, o210, e211, hA212, he213, h214, ha215⟩ := elem_at (e := enccalamusref14Run) (rowG_lies (e := enccalamusref14Run) rfl (hS133.get 2 rfl)) hf84 hx208 (by decide)
         obtain ⟨e216, e217, rfl, h218, h219⟩ := h214
         obtain rfl := h218
         obtain ⟨e220, e221, rfl, h222, h223⟩ := h219
         obtain rfl := h222
         obtain ⟨e224, e225, rfl, h226, h227⟩ := h223
         obtain rfl := h226
         obtain rfl := h227
         have ha215 : ∀ w', Lies w' A68 vs70 → w'.rangeAt g209 o210 [.int .i64 x207.1, .int .i64 x207.2.1, .int .u8 x207.2.2.1, .int .u8 x207.2.2.2] := ha215
         refine gu1 19 77 (.pointer (some ⟨g209, o210, none⟩)) rfl hS133 (fun w hSw => run_ixaddrN (E := 36) (s := 4) (k := .i64) (c := c69) rfl (by kernel_rfl) (by kernel_rfl) (by kernel_rfl) (fun _ => by kernel_rfl) (ixg_in hx208).1 (ixg_in hx208).2.1 hA212) ?_
         refine gv1 20 78 (.pointer (some ⟨g209, o210 + 1, none⟩)) rfl hS133 ?_
         refine gu1 21 79 (.int .i64 x207.2.1) rfl hS133 (fun w hSw => run_loadN1 1 rfl (by kernel_rfl) (fun _ => by kernel_rfl) (ha215 _ (rowG_lies (e := enccalamusref14Run) rfl (hSw.get 2 rfl))) rfl) ?_
         rcases if_in hE181 with ⟨h228, hE181⟩ | ⟨h228, hE181⟩
         ·refine gu1 22 80 (.bool true) rfl hS133 (fun w hSw => run_boolE (ne_yes h228) (by kernel_rfl)) ?_
          refine gv1 23 81 (.bool true) rfl hS133 ?_
          exact gd_to hK184 (by kernel_rfl) ⟨true, selfA_i (by kernel_rfl), (Option.some.inj hE181), hS133⟩
         ·refine gu1 22 80 (.bool false) rfl hS133 (fun w hSw => run_boolE (ne_no h228) (by kernel_rfl)) ?_
          refine gv1 23 81 (.bool false) rfl hS133 ?_
          exact gd_to hK184 (by kernel_rfl) ⟨false, selfA_i (by kernel_rfl), (Option.some.inj hE181), hS133⟩
      ·refine gx_v (.bool false) w117 (run_boolE (decide_eq_false h127) (by kernel_rfl)) ?_
       refine gx_nil ?_
       refine gx_thenN ?_
       refine hK126 _ _ ?_
       refine gx_no (by kernel_rfl) ?_
       refine gx_exit ?_
       refine gx_thenE ?_
       refine gx_thenE ?_
       refine gx_blkE ?_
       refine gx_thenN ?_
       exact ⟨selfA_i (by kernel_rfl), (Option.some.inj hL122), (hS118.pick [0] rfl rfl)⟩
   ·rintro _ w109 ⟨hq337, rfl, hS110⟩
    obtain ⟨u111, rfl⟩ := selfA_u hq337
    try dsimp only at hO114
    refine gx_seq (fun K329 hK330 => ?_)
    refine gx_region ?_
    have hP331 : St _ _ w109 ([] ++ [poolE ft77 W78]) := hS110
    obtain ⟨b333, hc332, hO114⟩ := bind_in hO114
    try dsimp only at hO114
    refine gx_c (kWorks_R b333 w109) (kWorks_ok N  _ hc332 w109 (MirB.atL hcd hP331)) ?_
    rintro _ w334 ⟨rfl, hT336⟩
    have hS335 : St _ _ w334 [poolE ft77 W78] := hS110.take _ hT336
    refine gx_k (.bool b333) w334 ?_
    refine gx_nil ?_
    refine gx_thenN ?_
    refine hK330 _ _ ?_
    refine gx_ret ?_
    obtain rfl := Option.some.inj hO114
    exact gx_fin (.bool b333) (by kernel_rfl) (by kernel_rfl) ⟨_, rfl, rfl, (hS335.pick [] rfl rfl)⟩
end Go.Proofs.YtkcmemldhbifdaaDoor
