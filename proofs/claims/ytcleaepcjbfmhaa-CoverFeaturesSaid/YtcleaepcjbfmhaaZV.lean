/-
  CoverFeatures, walked.
-/
import Derived.Test.YtcleaepcjbfmhaaZU
import Derived.Test.YtcleaepcjbfmhaaT6
import Derived.Test.YtcleaepcjbfmhaaTq
namespace Go.Proofs.Ytcleaepcjbfmhaa
open Go Go.RowKit
set_option linter.unusedVariables false

def fCov_L1 (N : Nat) (l32 : List ((Int × Int × Int × Int) × List Int)) (l54 : List ((Int × Int × Int × Int) × List Int)) : Nat → Int → Option (Ctl (Unit) (Bool))
 | 0, _ => none
 | k98+1, x97 => (if x97 < ((l32.length : Nat) : Int) then ((ixg l32 x97).bind fun x111 => ((ixg l54 x97).bind fun x140 => ((neTag (x111.1.1, x111.1.2.1, x111.1.2.2.1, x111.1.2.2.2) (x140.1.1, x140.1.2.1, x140.1.2.2.1, x140.1.2.2.2)).bind fun b169 => (match b169 with | true => some (Ctl.ret false) | false => ((ixg l32 x97).bind fun x173 => ((ixg l54 x97).bind fun x202 => ((kSameI N x173.2 x202.2).bind fun b233 => (match b233 with | true => fCov_L1 N l32 l54 k98 (IntKind.i64.wrap (x97 + 1)) | false => some (Ctl.ret false))))))))) else some (Ctl.go ()))
def fCov (N : Nat) (p0 : List Int) (p1 : Int) (p2 : Int) : Option (Bool) :=
 (if ((p0.length : Nat) : Int) > 3000 then ((fWorks N ).bind fun b12 => some b12) else ((qOpen N p0).bind fun (l21, b25) => ((qFeats N l21 b25 p1 p2).bind fun (l32, x37, _b31) => ((rFeats N p0 p1 p2).bind fun (l54, x59) => (((if x37 ≠ x59 then some (Ctl.ret false) else (if ((l32.length : Nat) : Int) ≠ ((l54.length : Nat) : Int) then some (Ctl.ret false) else some (Ctl.go ()))) : Option (Ctl (Unit) (Bool))).bind fun | Ctl.go () => ((fCov_L1 N l32 l54 N 0 : Option (Ctl (Unit) (Bool))).bind fun | Ctl.go () => ((fWorks N ).bind fun b244 => some b244) | Ctl.ret r => some r) | Ctl.ret r => some r)))))

set_option linter.unusedVariables false in
def fCov_R (r : Bool) (w0 : World) (v : Value) (w : World) : Prop := v = .bool r ∧ St [] w0 w []

set_option maxRecDepth 100000 in
set_option maxHeartbeats 4000000 in
theorem fCov_ok (N : Nat) (p0 : List Int) (p1 : Int) (p2 : Int) (A0 : Option Addr) (c0 : Nat) (r : Bool) (hF : fCov N p0 p1 p2 = some r) (w0 : World) (hv0 : Vw [] .u8 w0 A0 c0 p0) :
  Calls Try.prog 3 #[.slice A0 p0.length c0, .int .i64 p1, .int .i64 p2] w0 fun e w => ∃ v, e = .returned v ∧ fCov_R r w0 v w := by
 have hS0 := (St.start w0).pool0
 unfold fCov at hF
 refine calls_of Try.func3 rfl ⟨((.slice A0 p0.length c0) :: (.int .i64 p1) :: (.int .i64 p2) :: un 70 ([])).toArray, []⟩ (by kernel_rfl) ?_
 refine gx_seq (fun K1 hK2 => ?_)
 refine gx_region ?_
 refine gx_k (.bool false) w0 ?_
 refine gx_nil ?_
 refine gx_thenN ?_
 refine hK2 _ _ ?_
 refine gx_seq (fun K3 hK4 => ?_)
 refine gx_seq (fun K5 hK6 => ?_)
 refine gx_region ?_
 refine gx_k (.slice A0 p0.length c0) w0 (gx_k (.int .i64 ((p0.length : Nat) : Int)) w0 ?_)
 rcases if_in hF with ⟨h7, hF⟩ | ⟨h7, hF⟩
 ·refine gx_v (.bool true) w0 (run_boolE (decide_eq_true h7) (by kernel_rfl)) ?_
  refine gx_nil ?_
  refine gx_thenN ?_
  refine hK6 _ _ ?_
  refine gx_yes (by kernel_rfl) ?_
  refine gx_seq (fun K8 hK9 => ?_)
  refine gx_region ?_
  have hP10 : St _ _ w0 ([] ++ [poolE ([]) w0]) := hS0
  obtain ⟨b12, hc11, hF⟩ := bind_in hF
  try dsimp only at hF
  refine gx_c (fWorks_R b12 w0) (fWorks_ok N  _ hc11 w0 ) ?_
  rintro _ w13 ⟨rfl, hT15⟩
  have hS14 : St _ _ w13 [poolE ([]) w0] := hS0.take _ hT15
  refine gx_k (.bool b12) w13 ?_
  refine gx_nil ?_
  refine gx_thenN ?_
  refine hK9 _ _ ?_
  refine gx_ret ?_
  refine gx_thenR ?_
  obtain rfl := Option.some.inj hF
  exact gx_fin (.bool b12) (by kernel_rfl) (by kernel_rfl) ⟨_, rfl, rfl, (hS14.pick [] rfl rfl)⟩
 ·refine gx_v (.bool false) w0 (run_boolE (decide_eq_false h7) (by kernel_rfl)) ?_
  refine gx_nil ?_
  refine gx_thenN ?_
  refine hK6 _ _ ?_
  refine gx_no (by kernel_rfl) ?_
  refine gx_pass ?_
  refine gx_thenN ?_
  refine hK4 _ _ ?_
  refine gx_seq (fun K16 hK17 => ?_)
  refine gx_region ?_
  refine gx_k (.slice A0 p0.length c0) w0 ?_
  have hP18 : St _ _ w0 ([] ++ [poolE ([]) w0]) := hS0
  obtain ⟨⟨l21, b25⟩, hc19, hF⟩ := bind_in hF
  try dsimp only at hF
  refine gx_c (qOpen_R (l21, b25) w0) (qOpen_ok N p0 A0 c0 _ hc19 w0 (hP18.vwA hv0)) ?_
  rintro _ w26 ⟨g20, A22, c23, g24, rfl, hT28⟩
  have hS27 : St _ _ w26 [poolE ([]) w0, boxE g20 [.pointer (some ⟨g24, 0, none⟩), .slice A22 l21.length c23] 56, rowE .u8 5 A22 c23 l21, boxE g24 [.bool b25] 53] := hS0.take _ hT28
  refine gx_k (.int .i64 p1) w26 (gx_k (.int .i64 p2) w26 ?_)
  have hP29 : St _ _ w26 ([boxE g20 [.pointer (some ⟨g24, 0, none⟩), .slice A22 l21.length c23] 56, boxE g24 [.bool b25] 53] ++ [poolE ([]) w0, rowE .u8 5 A22 c23 l21]) := hS27.pick [1, 3, 0, 2] rfl rfl
  obtain ⟨⟨l32, x37, b31⟩, hc30, hF⟩ := bind_in hF
  try dsimp only at hF
  refine gx_c (qFeats_R l21 b25 p1 p2 g20 A22 c23 g24 (l32, x37, b31) w26) (qFeats_ok N l21 b25 p1 p2 g20 A22 c23 g24 _ hc30 w26 (hP29.vwB 1 rfl) hP29.part) ?_
  rintro _ w39 ⟨A33, c34, vs35, ft38, rfl, hT41, hf36⟩
  have hS40 : St _ _ w39 [poolE ([]) w0, rowE .u8 5 A22 c23 l21, boxE g20 [.pointer (some ⟨g24, 0, none⟩), .slice A22 l21.length c23] 56, boxE g24 [.bool b31] 53, rowG 35 5 (.slice A33 l32.length c34) l32.length vs35, poolE ft38 w39] := hP29.lendN _ hT41
  obtain ⟨ft42, W43, hS44, hT45, hU46⟩ := hS40.merge 5 0 rfl rfl (by decide)
  have hS44 : St _ _ w39 [poolE ft42 W43, rowE .u8 5 A22 c23 l21, boxE g20 [.pointer (some ⟨g24, 0, none⟩), .slice A22 l21.length c23] 56, boxE g24 [.bool b31] 53, rowG 35 5 (.slice A33 l32.length c34) l32.length vs35] := hS44
  have hT45 : Turn [] w0 w0 ([]) W43 ft42 := hT45
  have hf49 : (fEach (pairE encapiTag (rowOf (intE .i64))) vs35 l32).rd W43 ft42 := hU46 _ hf36
  refine gx_k (.tuple #[.slice A33 l32.length c34, .int .i64 x37]) w39 (gx_k (.slice A33 l32.length c34) w39 (gx_k (.int .i64 x37) w39 (gx_k (.slice A33 l32.length c34) w39 (gx_k (.int .i64 x37) w39 ?_))))
  refine gx_nil ?_
  refine gx_thenN ?_
  refine hK17 _ _ ?_
  refine gx_seq (fun K50 hK51 => ?_)
  refine gx_region ?_
  refine gx_k (.slice A0 p0.length c0) w39 (gx_k (.int .i64 p1) w39 (gx_k (.int .i64 p2) w39 ?_))
  have hP52 : St _ _ w39 ([] ++ [poolE ft42 W43, rowE .u8 5 A22 c23 l21, boxE g20 [.pointer (some ⟨g24, 0, none⟩), .slice A22 l21.length c23] 56, boxE g24 [.bool b31] 53, rowG 35 5 (.slice A33 l32.length c34) l32.length vs35]) := hS44
  obtain ⟨⟨l54, x59⟩, hc53, hF⟩ := bind_in hF
  try dsimp only at hF
  refine gx_c (rFeats_R (l54, x59) w39) (rFeats_ok N p0 p1 p2 A0 c0 _ hc53 w39 (hP52.vwA hv0)) ?_
  rintro _ w61 ⟨A55, c56, vs57, ft60, rfl, hT63, hf58⟩
  have hS62 : St _ _ w61 [poolE ft42 W43, rowE .u8 5 A22 c23 l21, boxE g20 [.pointer (some ⟨g24, 0, none⟩), .slice A22 l21.length c23] 56, boxE g24 [.bool b31] 53, rowG 35 5 (.slice A33 l32.length c34) l32.length vs35, rowG 35 5 (.slice A55 l54.length c56) l54.length vs57, poolE ft60 w61] := hS44.take _ hT63
  obtain ⟨ft64, W65, hS66, hT67, hU68⟩ := hS62.merge 6 0 rfl rfl (by decide)
  have hS66 : St _ _ w61 [poolE ft64 W65, rowE .u8 5 A22 c23 l21, boxE g20 [.pointer (some ⟨g24, 0, none⟩), .slice A22 l21.length c23] 56, boxE g24 [.bool b31] 53, rowG 35 5 (.slice A33 l32.length c34) l32.length vs35, rowG 35 5 (.slice A55 l54.length c56) l54.length vs57] := hS66
  have hT67 : Turn [] w0 W43 ft42 W65 ft64 := hT67
  have hf71 : (fEach (pairE encapiTag (rowOf (intE .i64))) vs57 l54).rd W65 ft64 := hU68 _ hf58
  refine gx_k (.tuple #[.slice A55 l54.length c56, .int .i64 x59]) w61 (gx_k (.slice A55 l54.length c56) w61 (gx_k (.int .i64 x59) w61 (gx_k (.slice A55 l54.length c56) w61 (gx_k (.int .i64 x59) w61 ?_))))
  refine gx_nil ?_
  refine gx_thenN ?_
  refine hK51 _ _ ?_
  obtain ⟨c75, hE76, hO77⟩ := bind_in hF
  refine gx_cut (fun a w => selfA (fun u74 => ⟨((u74 0) :: (.int .i64 p1) :: (.int .i64 p2) :: un 3 ((u74 6) :: (.slice A33 l32.length c34) :: (.int .i64 x37) :: (.slice A55 l54.length c56) :: (.int .i64 x59) :: undef :: (u74 12) :: (.int .i64 ((p0.length : Nat) : Int)) :: (.bool false) :: undef :: dd u74 16 2 ((.pointer (some ⟨g20, 0, none⟩)) :: (.int .i64 p1) :: (.int .i64 p2) :: dd u74 21 2 ((.int .i64 x37) :: dd u74 24 2 ((.int .i64 p1) :: (.int .i64 p2) :: dd u74 28 2 ((.int .i64 x59) :: dd u74 31 10 (un 32 ([])))))))).toArray, []⟩) a ∧ Ctl.go () = c75 ∧ St [] w0 w [poolE ft64 W65, rowE .u8 5 A22 c23 l21, boxE g20 [.pointer (some ⟨g24, 0, none⟩), .slice A22 l21.length c23] 56, boxE g24 [.bool b31] 53, rowG 35 5 (.slice A33 l32.length c34) l32.length vs35, rowG 35 5 (.slice A55 l54.length c56) l54.length vs57]) ?_ ?_
  ·refine gx_seq (fun K78 hK79 => ?_)
   refine gx_region ?_
   refine gx_k (.int .i64 x37) w61 (gx_k (.int .i64 x59) w61 ?_)
   rcases if_in hE76 with ⟨h80, hE76⟩ | ⟨h80, hE76⟩
   ·refine gx_v (.bool true) w61 (run_boolE (ne_yes h80) (by kernel_rfl)) ?_
    refine gx_k (.bool true) w61 (gx_o (gx_o (gx_o (gx_o (gx_o (gx_k (.bool true) w61 ?_))))))
    refine gx_nil ?_
    refine gx_thenN ?_
    refine hK79 _ _ ?_
    refine gx_yes (by kernel_rfl) ?_
    refine gx_seq (fun K81 hK82 => ?_)
    refine gx_region ?_
    refine gx_k (.bool false) w61 ?_
    refine gx_nil ?_
    refine gx_thenN ?_
    refine hK82 _ _ ?_
    refine gx_ret ?_
    refine gx_thenR ?_
    obtain rfl := Option.some.inj hE76
    try dsimp only at hO77
    obtain rfl := Option.some.inj hO77
    exact gx_fin (.bool false) (by kernel_rfl) (by kernel_rfl) ⟨_, rfl, rfl, (hS66.pick [] rfl rfl)⟩
   ·refine gx_v (.bool false) w61 (run_boolE (ne_no h80) (by kernel_rfl)) ?_
    refine gx_k (.bool false) w61 (gx_k (.slice A33 l32.length c34) w61 (gx_k (.int .i64 ((l32.length : Nat) : Int)) w61 (gx_k (.slice A55 l54.length c56) w61 (gx_k (.int .i64 ((l54.length : Nat) : Int)) w61 ?_))))
    rcases if_in hE76 with ⟨h83, hE76⟩ | ⟨h83, hE76⟩
    ·refine gx_v (.bool true) w61 (run_boolE (ne_yes h83) (by kernel_rfl)) ?_
     refine gx_k (.bool true) w61 ?_
     refine gx_nil ?_
     refine gx_thenN ?_
     refine hK79 _ _ ?_
     refine gx_yes (by kernel_rfl) ?_
     refine gx_seq (fun K84 hK85 => ?_)
     refine gx_region ?_
     refine gx_k (.bool false) w61 ?_
     refine gx_nil ?_
     refine gx_thenN ?_
     refine hK85 _ _ ?_
     refine gx_ret ?_
     refine gx_thenR ?_
     obtain rfl := Option.some.inj hE76
     try dsimp only at hO77
     obtain rfl := Option.some.inj hO77
     exact gx_fin (.bool false) (by kernel_rfl) (by kernel_rfl) ⟨_, rfl, rfl, (hS66.pick [] rfl rfl)⟩
    ·refine gx_v (.bool false) w61 (run_boolE (ne_no h83) (by kernel_rfl)) ?_
     refine gx_k (.bool false) w61 ?_
     refine gx_nil ?_
     refine gx_thenN ?_
     refine hK79 _ _ ?_
     refine gx_no (by kernel_rfl) ?_
     refine gx_pass ?_
     refine gx_thenN ?_
     exact ⟨selfA_i (by kernel_rfl), (Option.some.inj hE76), hS66⟩
  ·rintro _ w72 ⟨hq249, rfl, hS73⟩
   obtain ⟨u74, rfl⟩ := selfA_u hq249
   try dsimp only at hO77
   obtain ⟨c89, hE90, hO91⟩ := bind_in hO77
   refine gx_cut (fun a w => selfA (fun u88 => ⟨((u74 0) :: (.int .i64 p1) :: (.int .i64 p2) :: un 3 (dd u88 6 2 ((.int .i64 x37) :: (u88 9) :: (.int .i64 x59) :: (u88 11) :: (u74 12) :: (.int .i64 ((p0.length : Nat) : Int)) :: (.bool false) :: undef :: dd u74 16 2 ((.pointer (some ⟨g20, 0, none⟩)) :: (.int .i64 p1) :: (.int .i64 p2) :: dd u74 21 2 ((.int .i64 x37) :: dd u74 24 2 ((.int .i64 p1) :: (.int .i64 p2) :: dd u74 28 2 ((.int .i64 x59) :: dd u74 31 10 (dd u88 41 31 (undef :: []))))))))).toArray, []⟩) a ∧ Ctl.go () = c89 ∧ St [] w0 w [poolE ft64 W65, rowE .u8 5 A22 c23 l21, boxE g20 [.pointer (some ⟨g24, 0, none⟩), .slice A22 l21.length c23] 56, boxE g24 [.bool b31] 53]) ?_ ?_
   ·refine gx_seq (fun K92 hK93 => ?_)
    refine gx_region ?_
    refine gx_k (.int .i64 0) w72 ?_
    refine gx_nil ?_
    refine gx_thenN ?_
    refine hK93 _ _ ?_
    refine gx_block ?_
    refine gx_loop (fun k a w => ∃ (x97 : Int), selfA (fun u96 => ⟨((u74 0) :: (.int .i64 p1) :: (.int .i64 p2) :: un 3 ((u96 6) :: (.slice A33 l32.length c34) :: (.int .i64 x37) :: (.slice A55 l54.length c56) :: (.int .i64 x59) :: (.int .i64 x97) :: (u74 12) :: (.int .i64 ((p0.length : Nat) : Int)) :: (.bool false) :: undef :: dd u74 16 2 ((.pointer (some ⟨g20, 0, none⟩)) :: (.int .i64 p1) :: (.int .i64 p2) :: dd u74 21 2 ((.int .i64 x37) :: dd u74 24 2 ((.int .i64 p1) :: (.int .i64 p2) :: dd u74 28 2 ((.int .i64 x59) :: dd u74 31 10 (dd u96 41 31 (undef :: [])))))))).toArray, []⟩) a ∧ fCov_L1 N l32 l54 k x97 = some c89 ∧ St [] w0 w [poolE ft64 W65, rowE .u8 5 A22 c23 l21, boxE g20 [.pointer (some ⟨g24, 0, none⟩), .slice A22 l21.length c23] 56, boxE g24 [.bool b31] 53, rowG 35 5 (.slice A33 l32.length c34) l32.length vs35, rowG 35 5 (.slice A55 l54.length c56) l54.length vs57]) N ?_ ?_
    ·exact ⟨0, selfA_i (by kernel_rfl), hE90, hS73⟩
    ·rintro k98 _ w94 ⟨x97, hq239, hL99, hS95⟩
     obtain ⟨u96, rfl⟩ := selfA_u hq239
     cases k98 with
     | zero => cases hL99
     | succ k98 =>
      first | rw [fCov_L1] at hL99 | unfold fCov_L1 at hL99
      refine gx_seq (fun K100 hK101 => ?_)
      refine gx_seq (fun K102 hK103 => ?_)
      refine gx_region ?_
      refine gx_k (.int .i64 x97) w94 (gx_k (.slice A33 l32.length c34) w94 (gx_k (.int .i64 ((l32.length : Nat) : Int)) w94 ?_))
      rcases if_in hL99 with ⟨h104, hL99⟩ | ⟨h104, hL99⟩
      ·refine gx_v (.bool true) w94 (run_boolE (decide_eq_true h104) (by kernel_rfl)) ?_
       refine gx_nil ?_
       refine gx_thenN ?_
       refine hK103 _ _ ?_
       refine gx_yes (by kernel_rfl) ?_
       refine gx_pass ?_
       refine gx_thenN ?_
       refine hK101 _ _ ?_
       refine gx_seq (fun K105 hK106 => ?_)
       refine gx_block ?_
       refine gx_seq (fun K107 hK108 => ?_)
       refine gd_start (fun w => St [] w0 w [poolE ft64 W65, rowE .u8 5 A22 c23 l21, boxE g20 [.pointer (some ⟨g24, 0, none⟩), .slice A22 l21.length c23] 56, boxE g24 [.bool b31] 53, rowG 35 5 (.slice A33 l32.length c34) l32.length vs35, rowG 35 5 (.slice A55 l54.length c56) l54.length vs57]) 25 #[false, false, false, false, false, false, false, false, false, false, false, false, false, false, false, false, false, false, false, false, false, false, false, false, false] (by kernel_rfl) (by kernel_rfl) ?_
       have hS110 := hS95.drew
       generalize w94.drew = w109 at hS110 ⊢
       refine gd1 0 { dst := some 47, op := _, type := _, pos := _, after := _, guard := _ } (.slice A33 l32.length c34) rfl hS110 (fun w hSw => by kernel_rfl) ?_
       refine gd1 1 { dst := some 48, op := _, type := _, pos := _, after := _, guard := _ } (.int .i64 x97) rfl hS110 (fun w hSw => by kernel_rfl) ?_
       obtain ⟨x111, hx112, hL99⟩ := bind_in hL99
       obtain ⟨g113, o114, e115, hA116, he117, h118, ha119⟩ := elem_at (e := (pairE encapiTag (rowOf (intE .i64)))) (rowG_lies (e := (pairE encapiTag (rowOf (intE .i64)))) rfl (hS110.get 4 rfl)) (hT67.pool hf49) hx112 (by decide)
       obtain ⟨e120, e121, rfl, h122, h123⟩ := h118
       obtain ⟨e124, e125, rfl, h126, h127⟩ := h122
       obtain rfl := h126
       obtain ⟨e128, e129, rfl, h130, h131⟩ := h127
       obtain rfl := h130
       obtain ⟨e132, e133, rfl, h134, h135⟩ := h131
       obtain rfl := h134
       obtain rfl := h135
       obtain ⟨A136, c137, vs138, rfl, hf139⟩ := h123
       have ha119 : ∀ w', Lies w' A33 vs35 → w'.rangeAt g113 o114 [.int .u8 x111.1.1, .int .u8 x111.1.2.1, .int .u8 x111.1.2.2.1, .int .u8 x111.1.2.2.2, .slice A136 ((x111.2).length) c137] := ha119
       refine gd1 2 { dst := some 49, op := _, type := _, pos := _, after := _, guard := _ } (.pointer (some ⟨g113, o114, none⟩)) rfl hS110 (fun w hSw => run_ixaddrN (E := 35) (s := 5) (k := .i64) (c := c34) rfl (by kernel_rfl) (by kernel_rfl) (by kernel_rfl) (fun _ => by kernel_rfl) (ixg_in hx112).1 (ixg_in hx112).2.1 hA116) ?_
       refine gd1 3 { dst := some 50, op := _, type := _, pos := _, after := _, guard := _ } (.pointer (some ⟨g113, o114, none⟩)) rfl hS110 (fun w hSw => by kernel_rfl) ?_
       refine gd1 4 { dst := some 51, op := _, type := _, pos := _, after := _, guard := _ } (.agg #[.int .u8 x111.1.1, .int .u8 x111.1.2.1, .int .u8 x111.1.2.2.1, .int .u8 x111.1.2.2.2]) rfl hS110 (fun w hSw => run_loadNG (d := _) (ec := [.int .u8 x111.1.1, .int .u8 x111.1.2.1, .int .u8 x111.1.2.2.1, .int .u8 x111.1.2.2.2]) rfl (by kernel_rfl) (range_sub (ha119 _ (rowG_lies (e := (pairE encapiTag (rowOf (intE .i64)))) rfl (hSw.get 4 rfl))) 0 4) rfl rfl (by kernel_rfl)) ?_
       refine gd1 5 { dst := some 52, op := _, type := _, pos := _, after := _, guard := _ } (.slice A55 l54.length c56) rfl hS110 (fun w hSw => by kernel_rfl) ?_
       refine gd1 6 { dst := some 53, op := _, type := _, pos := _, after := _, guard := _ } (.int .i64 x97) rfl hS110 (fun w hSw => by kernel_rfl) ?_
       obtain ⟨x140, hx141, hL99⟩ := bind_in hL99
       obtain ⟨g142, o143, e144, hA145, he146, h147, ha148⟩ := elem_at (e := (pairE encapiTag (rowOf (intE .i64)))) (rowG_lies (e := (pairE encapiTag (rowOf (intE .i64)))) rfl (hS110.get 5 rfl)) hf71 hx141 (by decide)
       obtain ⟨e149, e150, rfl, h151, h152⟩ := h147
       obtain ⟨e153, e154, rfl, h155, h156⟩ := h151
       obtain rfl := h155
       obtain ⟨e157, e158, rfl, h159, h160⟩ := h156
       obtain rfl := h159
       obtain ⟨e161, e162, rfl, h163, h164⟩ := h160
       obtain rfl := h163
       obtain rfl := h164
       obtain ⟨A165, c166, vs167, rfl, hf168⟩ := h152
       have ha148 : ∀ w', Lies w' A55 vs57 → w'.rangeAt g142 o143 [.int .u8 x140.1.1, .int .u8 x140.1.2.1, .int .u8 x140.1.2.2.1, .int .u8 x140.1.2.2.2, .slice A165 ((x140.2).length) c166] := ha148
       refine gd1 7 { dst := some 54, op := _, type := _, pos := _, after := _, guard := _ } (.pointer (some ⟨g142, o143, none⟩)) rfl hS110 (fun w hSw => run_ixaddrN (E := 35) (s := 5) (k := .i64) (c := c56) rfl (by kernel_rfl) (by kernel_rfl) (by kernel_rfl) (fun _ => by kernel_rfl) (ixg_in hx141).1 (ixg_in hx141).2.1 hA145) ?_
       refine gd1 8 { dst := some 55, op := _, type := _, pos := _, after := _, guard := _ } (.pointer (some ⟨g142, o143, none⟩)) rfl hS110 (fun w hSw => by kernel_rfl) ?_
       refine gd1 9 { dst := some 56, op := _, type := _, pos := _, after := _, guard := _ } (.agg #[.int .u8 x140.1.1, .int .u8 x140.1.2.1, .int .u8 x140.1.2.2.1, .int .u8 x140.1.2.2.2]) rfl hS110 (fun w hSw => run_loadNG (d := _) (ec := [.int .u8 x140.1.1, .int .u8 x140.1.2.1, .int .u8 x140.1.2.2.1, .int .u8 x140.1.2.2.2]) rfl (by kernel_rfl) (range_sub (ha148 _ (rowG_lies (e := (pairE encapiTag (rowOf (intE .i64)))) rfl (hSw.get 5 rfl))) 0 4) rfl rfl (by kernel_rfl)) ?_
       obtain ⟨b169, h170, hL99⟩ := bind_in hL99
       refine gd1 10 { dst := some 57, op := _, type := _, pos := _, after := _, guard := _ } (.bool b169) rfl hS110 (fun w hSw => run_neTag' (x := (x111.1.1, x111.1.2.1, x111.1.2.2.1, x111.1.2.2.2)) (y := (x140.1.1, x140.1.2.1, x140.1.2.2.1, x140.1.2.2.2)) rfl (by kernel_rfl) (by kernel_rfl) h170) ?_
       refine gd1 11 { dst := some 58, op := _, type := _, pos := _, after := _, guard := _ } (.bool b169) rfl hS110 (fun w hSw => by kernel_rfl) ?_
       cases b169 with
       | true =>
        try dsimp only at hL99
        refine gd0 12 { dst := some 59, op := _, type := _, pos := _, after := _, guard := _ } rfl hS110 ?_
        refine gd0 13 { dst := some 60, op := _, type := _, pos := _, after := _, guard := _ } rfl hS110 ?_
        refine gd0 14 { dst := some 61, op := _, type := _, pos := _, after := _, guard := _ } rfl hS110 ?_
        refine gd0 15 { dst := some 62, op := _, type := _, pos := _, after := _, guard := _ } rfl hS110 ?_
        refine gd0 16 { dst := some 63, op := _, type := _, pos := _, after := _, guard := _ } rfl hS110 ?_
        refine gd0 17 { dst := some 64, op := _, type := _, pos := _, after := _, guard := _ } rfl hS110 ?_
        refine gd0 18 { dst := some 65, op := _, type := _, pos := _, after := _, guard := _ } rfl hS110 ?_
        refine gd0 19 { dst := some 66, op := _, type := _, pos := _, after := _, guard := _ } rfl hS110 ?_
        refine gd0 20 { dst := some 67, op := _, type := _, pos := _, after := _, guard := _ } rfl hS110 ?_
        refine gd0 21 { dst := some 68, op := _, type := _, pos := _, after := _, guard := _ } rfl hS110 ?_
        refine gd0 22 { dst := some 69, op := _, type := _, pos := _, after := _, guard := _ } rfl hS110 ?_
        refine gd0 23 { dst := some 70, op := _, type := _, pos := _, after := _, guard := _ } rfl hS110 ?_
        refine gd1 24 { dst := some 71, op := _, type := _, pos := _, after := _, guard := _ } (.bool true) rfl hS110 (fun w hSw => by kernel_rfl) ?_
        refine gd_done (by kernel_rfl) ?_
        refine gx_thenN ?_
        refine hK108 _ _ ?_
        refine gx_yes (by kernel_rfl) ?_
        refine gx_seq (fun K171 hK172 => ?_)
        refine gx_region ?_
        refine gx_k (.bool false) w109 ?_
        refine gx_nil ?_
        refine gx_thenN ?_
        refine hK172 _ _ ?_
        refine gx_ret ?_
        refine gx_blkR ?_
        refine gx_thenR ?_
        refine gx_thenR ?_
        refine gx_blkR ?_
        refine gx_thenR ?_
        obtain rfl := Option.some.inj hL99
        try dsimp only at hO91
        obtain rfl := Option.some.inj hO91
        exact gx_fin (.bool false) (by kernel_rfl) (by kernel_rfl) ⟨_, rfl, rfl, (hS110.pick [] rfl rfl)⟩
       | false =>
        try dsimp only at hL99
        refine gd1 12 { dst := some 59, op := _, type := _, pos := _, after := _, guard := _ } (.slice A33 l32.length c34) rfl hS110 (fun w hSw => by kernel_rfl) ?_
        refine gd1 13 { dst := some 60, op := _, type := _, pos := _, after := _, guard := _ } (.int .i64 x97) rfl hS110 (fun w hSw => by kernel_rfl) ?_
        obtain ⟨x173, hx174, hL99⟩ := bind_in hL99
        obtain ⟨g175, o176, e177, hA178, he179, h180, ha181⟩ := elem_at (e := (pairE encapiTag (rowOf (intE .i64)))) (rowG_lies (e := (pairE encapiTag (rowOf (intE .i64)))) rfl (hS110.get 4 rfl)) (hT67.pool hf49) hx174 (by decide)
        obtain ⟨e182, e183, rfl, h184, h185⟩ := h180
        obtain ⟨e186, e187, rfl, h188, h189⟩ := h184
        obtain rfl := h188
        obtain ⟨e190, e191, rfl, h192, h193⟩ := h189
        obtain rfl := h192
        obtain ⟨e194, e195, rfl, h196, h197⟩ := h193
        obtain rfl := h196
        obtain rfl := h197
        obtain ⟨A198, c199, vs200, rfl, hf201⟩ := h185
        have ha181 : ∀ w', Lies w' A33 vs35 → w'.rangeAt g175 o176 [.int .u8 x173.1.1, .int .u8 x173.1.2.1, .int .u8 x173.1.2.2.1, .int .u8 x173.1.2.2.2, .slice A198 ((x173.2).length) c199] := ha181
        refine gd1 14 { dst := some 61, op := _, type := _, pos := _, after := _, guard := _ } (.pointer (some ⟨g175, o176, none⟩)) rfl hS110 (fun w hSw => run_ixaddrN (E := 35) (s := 5) (k := .i64) (c := c34) rfl (by kernel_rfl) (by kernel_rfl) (by kernel_rfl) (fun _ => by kernel_rfl) (ixg_in hx174).1 (ixg_in hx174).2.1 hA178) ?_
        refine gd1 15 { dst := some 62, op := _, type := _, pos := _, after := _, guard := _ } (.pointer (some ⟨g175, o176 + 4, none⟩)) rfl hS110 (fun w hSw => by kernel_rfl) ?_
        refine gd1 16 { dst := some 63, op := _, type := _, pos := _, after := _, guard := _ } (.slice A198 ((x173.2).length) c199) rfl hS110 (fun w hSw => run_loadN1 4 rfl (by kernel_rfl) (fun _ => by kernel_rfl) (ha181 _ (rowG_lies (e := (pairE encapiTag (rowOf (intE .i64)))) rfl (hSw.get 4 rfl))) rfl) ?_
        refine gd1 17 { dst := some 64, op := _, type := _, pos := _, after := _, guard := _ } (.slice A55 l54.length c56) rfl hS110 (fun w hSw => by kernel_rfl) ?_
        refine gd1 18 { dst := some 65, op := _, type := _, pos := _, after := _, guard := _ } (.int .i64 x97) rfl hS110 (fun w hSw => by kernel_rfl) ?_
        obtain ⟨x202, hx203, hL99⟩ := bind_in hL99
        obtain ⟨g204, o205, e206, hA207, he208, h209, ha210⟩ := elem_at (e := (pairE encapiTag (rowOf (intE .i64)))) (rowG_lies (e := (pairE encapiTag (rowOf (intE .i64)))) rfl (hS110.get 5 rfl)) hf71 hx203 (by decide)
        obtain ⟨e211, e212, rfl, h213, h214⟩ := h209
        obtain ⟨e215, e216, rfl, h217, h218⟩ := h213
        obtain rfl := h217
        obtain ⟨e219, e220, rfl, h221, h222⟩ := h218
        obtain rfl := h221
        obtain ⟨e223, e224, rfl, h225, h226⟩ := h222
        obtain rfl := h225
        obtain rfl := h226
        obtain ⟨A227, c228, vs229, rfl, hf230⟩ := h214
        have ha210 : ∀ w', Lies w' A55 vs57 → w'.rangeAt g204 o205 [.int .u8 x202.1.1, .int .u8 x202.1.2.1, .int .u8 x202.1.2.2.1, .int .u8 x202.1.2.2.2, .slice A227 ((x202.2).length) c228] := ha210
        refine gd1 19 { dst := some 66, op := _, type := _, pos := _, after := _, guard := _ } (.pointer (some ⟨g204, o205, none⟩)) rfl hS110 (fun w hSw => run_ixaddrN (E := 35) (s := 5) (k := .i64) (c := c56) rfl (by kernel_rfl) (by kernel_rfl) (by kernel_rfl) (fun _ => by kernel_rfl) (ixg_in hx203).1 (ixg_in hx203).2.1 hA207) ?_
        refine gd1 20 { dst := some 67, op := _, type := _, pos := _, after := _, guard := _ } (.pointer (some ⟨g204, o205 + 4, none⟩)) rfl hS110 (fun w hSw => by kernel_rfl) ?_
        refine gd1 21 { dst := some 68, op := _, type := _, pos := _, after := _, guard := _ } (.slice A227 ((x202.2).length) c228) rfl hS110 (fun w hSw => run_loadN1 4 rfl (by kernel_rfl) (fun _ => by kernel_rfl) (ha210 _ (rowG_lies (e := (pairE encapiTag (rowOf (intE .i64)))) rfl (hSw.get 5 rfl))) rfl) ?_
        have hP231 : St _ _ w109 ([] ++ [poolE ft64 W65, rowE .u8 5 A22 c23 l21, boxE g20 [.pointer (some ⟨g24, 0, none⟩), .slice A22 l21.length c23] 56, boxE g24 [.bool b31] 53, rowG 35 5 (.slice A33 l32.length c34) l32.length vs35, rowG 35 5 (.slice A55 l54.length c56) l54.length vs57]) := hS110
        obtain ⟨b233, hc232, hL99⟩ := bind_in hL99
        try dsimp only at hL99
        refine gdC 22 { dst := some 69, op := _, type := _, pos := _, after := _, guard := _ } (kSameI_R b233 w109) rfl (by kernel_rfl) (kSameI_ok N x173.2 x202.2 A198 c199 A227 c228 _ hc232 w109 (St.vwF (hP231.offPA 0 rfl) (hS110.now 0 rfl hf201)) (St.vwF (hP231.offPA 0 rfl) (hS110.now 0 rfl hf230))) ?_
        rintro _ w234 ⟨rfl, hT236⟩
        have hS235 : St _ _ w234 [poolE ft64 W65, rowE .u8 5 A22 c23 l21, boxE g20 [.pointer (some ⟨g24, 0, none⟩), .slice A22 l21.length c23] 56, boxE g24 [.bool b31] 53, rowG 35 5 (.slice A33 l32.length c34) l32.length vs35, rowG 35 5 (.slice A55 l54.length c56) l54.length vs57] := hS110.take _ hT236
        refine ⟨hS235, ?_⟩
        cases b233 with
        | true =>
         try dsimp only at hL99
         refine gd1 23 { dst := some 70, op := _, type := _, pos := _, after := _, guard := _ } (.bool false) rfl hS235 (fun w hSw => by kernel_rfl) ?_
         refine gd1 24 { dst := some 71, op := _, type := _, pos := _, after := _, guard := _ } (.bool false) rfl hS235 (fun w hSw => by kernel_rfl) ?_
         refine gd_done (by kernel_rfl) ?_
         refine gx_thenN ?_
         refine hK108 _ _ ?_
         refine gx_no (by kernel_rfl) ?_
         refine gx_pass ?_
         refine gx_blkN ?_
         refine gx_thenN ?_
         refine hK106 _ _ ?_
         refine gx_region ?_
         refine gx_k (.int .i64 x97) w234 (gx_k (.int .i64 (IntKind.i64.wrap (x97 + 1))) w234 (gx_k (.int .i64 (IntKind.i64.wrap (x97 + 1))) w234 ?_))
         refine gx_nil ?_
         refine gx_thenN ?_
         exact ⟨k98, Nat.lt_succ_self k98, (IntKind.i64.wrap (x97 + 1)), selfA_i (by kernel_rfl), hL99, hS235⟩
        | false =>
         try dsimp only at hL99
         refine gd1 23 { dst := some 70, op := _, type := _, pos := _, after := _, guard := _ } (.bool true) rfl hS235 (fun w hSw => by kernel_rfl) ?_
         refine gd1 24 { dst := some 71, op := _, type := _, pos := _, after := _, guard := _ } (.bool true) rfl hS235 (fun w hSw => by kernel_rfl) ?_
         refine gd_done (by kernel_rfl) ?_
         refine gx_thenN ?_
         refine hK108 _ _ ?_
         refine gx_yes (by kernel_rfl) ?_
         refine gx_seq (fun K237 hK238 => ?_)
         refine gx_region ?_
         refine gx_k (.bool false) w234 ?_
         refine gx_nil ?_
         refine gx_thenN ?_
         refine hK238 _ _ ?_
         refine gx_ret ?_
         refine gx_blkR ?_
         refine gx_thenR ?_
         refine gx_thenR ?_
         refine gx_blkR ?_
         refine gx_thenR ?_
         obtain rfl := Option.some.inj hL99
         try dsimp only at hO91
         obtain rfl := Option.some.inj hO91
         exact gx_fin (.bool false) (by kernel_rfl) (by kernel_rfl) ⟨_, rfl, rfl, (hS235.pick [] rfl rfl)⟩
      ·refine gx_v (.bool false) w94 (run_boolE (decide_eq_false h104) (by kernel_rfl)) ?_
       refine gx_nil ?_
       refine gx_thenN ?_
       refine hK103 _ _ ?_
       refine gx_no (by kernel_rfl) ?_
       refine gx_exit ?_
       refine gx_thenE ?_
       refine gx_thenE ?_
       refine gx_blkE ?_
       refine gx_thenN ?_
       exact ⟨selfA_i (by kernel_rfl), (Option.some.inj hL99), (hS95.pick [0, 1, 2, 3] rfl rfl)⟩
   ·rintro _ w86 ⟨hq248, rfl, hS87⟩
    obtain ⟨u88, rfl⟩ := selfA_u hq248
    try dsimp only at hO91
    refine gx_seq (fun K240 hK241 => ?_)
    refine gx_region ?_
    have hP242 : St _ _ w86 ([] ++ [poolE ft64 W65, rowE .u8 5 A22 c23 l21, boxE g20 [.pointer (some ⟨g24, 0, none⟩), .slice A22 l21.length c23] 56, boxE g24 [.bool b31] 53]) := hS87
    obtain ⟨b244, hc243, hO91⟩ := bind_in hO91
    try dsimp only at hO91
    refine gx_c (fWorks_R b244 w86) (fWorks_ok N  _ hc243 w86 ) ?_
    rintro _ w245 ⟨rfl, hT247⟩
    have hS246 : St _ _ w245 [poolE ft64 W65, rowE .u8 5 A22 c23 l21, boxE g20 [.pointer (some ⟨g24, 0, none⟩), .slice A22 l21.length c23] 56, boxE g24 [.bool b31] 53] := hS87.take _ hT247
    refine gx_k (.bool b244) w245 ?_
    refine gx_nil ?_
    refine gx_thenN ?_
    refine hK241 _ _ ?_
    refine gx_ret ?_
    obtain rfl := Option.some.inj hO91
    exact gx_fin (.bool b244) (by kernel_rfl) (by kernel_rfl) ⟨_, rfl, rfl, (hS246.pick [] rfl rfl)⟩

end Go.Proofs.Ytcleaepcjbfmhaa
