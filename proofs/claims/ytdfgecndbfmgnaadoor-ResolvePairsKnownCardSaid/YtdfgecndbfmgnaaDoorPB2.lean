/-
  The program, walked.
-/
import Derived.Test.YtdfgecndbfmgnaaDoorPB1
import Derived.Test.YtdfgecndbfmgnaaDoorSp
namespace Go.Proofs.YtdfgecndbfmgnaaDoor
open Go Go.RowKit
set_option linter.unusedVariables false

def pPrs (N : Nat) (p0 : List Int) (p1 : List Int) : Option (List (Int × Int)) :=
 ((cutx p0 (0 : Int) (if ((p1.length : Nat) : Int) < ((p0.length : Nat) : Int) then ((p1.length : Nat) : Int) else ((p0.length : Nat) : Int))).bind fun l5 => ((pPaired N l5 p1).bind fun l13 => ((kSort N l13).bind fun l39 => some l39)))

set_option linter.unusedVariables false in
def pPrs_R (r : List (Int × Int)) (w0 : World) (v : Value) (w : World) : Prop := ∃ (A0' : Option Addr) (c0' : Nat) (vs0' : List Value) (ft' : List Nat), v = .slice A0' r.length c0' ∧ St [] w0 w [rowG 30 2 (.slice A0' r.length c0') r.length vs0', poolE ft' w] ∧ (fEach (pairE (intE .i64) (intE .i64)) vs0' r).rd w ft'

set_option maxRecDepth 100000 in
set_option maxHeartbeats 4000000 in
theorem pPrs_ok (N : Nat) (p0 : List Int) (p1 : List Int) (A0 : Option Addr) (c0 : Nat) (A1 : Option Addr) (c1 : Nat) (r : List (Int × Int)) (hF : pPrs N p0 p1 = some r) (w0 : World) (hv0 : Vw [] .i32 w0 A0 c0 p0) (hv1 : Vw [] .u8 w0 A1 c1 p1) (hcd : MirW w0) :
  Calls Tryd.prog 6 #[.slice A0 p0.length c0, .slice A1 p1.length c1] w0 fun e w => ∃ v, e = .returned v ∧ pPrs_R r w0 v w := by
 have hS0 := (St.start w0).pool0
 unfold pPrs at hF
 refine calls_of Tryd.func6 rfl ⟨((.slice A0 p0.length c0) :: (.slice A1 p1.length c1) :: un 16 ([])).toArray, []⟩ (by kernel_rfl) ?_
 refine gx_seq (fun K1 hK2 => ?_)
 refine gx_region ?_
 refine gx_k (.slice none 0 0) w0 ?_
 refine gx_nil ?_
 refine gx_thenN ?_
 refine hK2 _ _ ?_
 refine gx_seq (fun K3 hK4 => ?_)
 refine gx_region ?_
 refine gx_k (.slice A0 p0.length c0) w0 (gx_k (.slice A0 p0.length c0) w0 (gx_k (.int .i64 ((p0.length : Nat) : Int)) w0 (gx_k (.slice A1 p1.length c1) w0 (gx_k (.int .i64 ((p1.length : Nat) : Int)) w0 ?_))))
 refine gx_v (.int .i64 (if ((p1.length : Nat) : Int) < ((p0.length : Nat) : Int) then ((p1.length : Nat) : Int) else ((p0.length : Nat) : Int))) w0 (run_min2 rfl (by kernel_rfl) (by kernel_rfl)) ?_
 obtain ⟨l5, hx6, hF⟩ := bind_in hF
 obtain ⟨A7, c8, hA9⟩ := cut_is A0 (Int.toNat (0 : Int)) (Int.toNat (if ((p1.length : Nat) : Int) < ((p0.length : Nat) : Int) then ((p1.length : Nat) : Int) else ((p0.length : Nat) : Int))) c0
 rw [← cutx_len hx6] at hA9
 have hv10 := Vw.cut hv0 hx6 hA9
 refine gx_v (.slice A7 l5.length c8) w0 (run_cut (TE := 21) (n := p0.length) (l := Int.toNat (0 : Int)) (h := Int.toNat (if ((p1.length : Nat) : Int) < ((p0.length : Nat) : Int) then ((p1.length : Nat) : Int) else ((p0.length : Nat) : Int))) none (some (.int .i64 (if ((p1.length : Nat) : Int) < ((p0.length : Nat) : Int) then ((p1.length : Nat) : Int) else ((p0.length : Nat) : Int)))) rfl (by kernel_rfl) (by kernel_rfl) (by kernel_rfl) (by kernel_rfl) (fun _ => by kernel_rfl) (bnd_h (cutx_in hx6).2.1 (Int.le_trans (cutx_in hx6).2.2.1 (by exact_mod_cast num_room (hS0.view hv0)))) hA9) ?_
 refine gx_k (.slice A1 p1.length c1) w0 ?_
 have hP11 : St _ _ w0 ([] ++ [poolE ([]) w0]) := hS0
 obtain ⟨l13, hc12, hF⟩ := bind_in hF
 try dsimp only at hF
 refine gx_c (pPaired_R l13 w0) (pPaired_ok N l5 p1 A7 c8 A1 c1 _ hc12 w0 (hP11.vwA hv10) (hP11.vwA hv1) (MirW.at hcd hS0.below)) ?_
 rintro _ w19 ⟨A14, c15, vs16, ft18, rfl, hT21, hf17⟩
 have hS20 : St _ _ w19 [poolE ([]) w0, rowG 30 2 (.slice A14 l13.length c15) l13.length vs16, poolE ft18 w19] := hS0.take _ hT21
 obtain ⟨ft22, W23, hS24, hT25, hU26⟩ := hS20.merge 2 0 rfl rfl (by decide)
 have hS24 : St _ _ w19 [poolE ft22 W23, rowG 30 2 (.slice A14 l13.length c15) l13.length vs16] := hS24
 have hT25 : Turn [] w0 w0 ([]) W23 ft22 := hT25
 have hf29 : (fEach (pairE (intE .i64) (intE .i64)) vs16 l13).rd W23 ft22 := hU26 _ hf17
 refine gx_k (.slice A14 l13.length c15) w19 ?_
 refine gx_nil ?_
 refine gx_thenN ?_
 refine hK4 _ _ ?_
 refine gx_seq (fun K30 hK31 => ?_)
 refine gx_region ?_
 refine gx_k (.slice A14 l13.length c15) w19 ?_
 have hP32 : St _ _ w19 ([rowG 30 2 (.slice A14 l13.length c15) l13.length vs16] ++ [poolE ft22 W23]) := hS24.pick [1, 0] rfl rfl
 obtain ⟨l39, hc33, hF⟩ := bind_in hF
 refine gx_c (kSort_R A14 c15 l13.length vs16 l39 w19) (kSort_ok N A14 c15 l13.length vs16 l13 _ rfl hc33 w19 _ _ (hS24.now 0 rfl hf29) hP32.part) ?_
 rintro _ w34 ⟨rfl, hn37, hT36⟩
 have hS35 : St _ _ w34 [poolE ft22 W23, rowG 30 2 (.slice A14 l13.length c15) l13.length (cellsP l39)] := hP32.lendN _ hT36
 have hf38 : (fEach (pairE (intE .i64) (intE .i64)) (cellsP l39) l39).rd W23 ft22 := each_of_P l39
 refine gx_nil ?_
 refine gx_thenN ?_
 refine hK31 _ _ ?_
 refine gx_seq (fun K40 hK41 => ?_)
 refine gx_region ?_
 refine gx_k (.slice A14 l13.length c15) w34 (gx_k (.slice A14 l13.length c15) w34 ?_)
 refine gx_nil ?_
 refine gx_thenN ?_
 refine hK41 _ _ ?_
 refine gx_ret ?_
 have hS42 : St _ _ w34 [poolE ft22 W23, rowG 30 2 (.slice A14 l39.length c15) l39.length (cellsP l39)] := hS35.len (e := (pairE (intE .i64) (intE .i64))) 1 rfl hn37
 have hS43 : St _ _ w34 [poolE ft22 w34, rowG 30 2 (.slice A14 l39.length c15) l39.length (cellsP l39)] := hS42.renew 0 rfl
 obtain rfl := Option.some.inj hF
 exact gx_fin (.slice A14 l13.length c15) (by kernel_rfl) (by kernel_rfl) ⟨_, rfl, A14, c15, (cellsP l39), ft22, by rw [← hn37] <;> kernel_rfl, (hS43.pick [1, 0] rfl rfl), (hS42.now 0 rfl hf38)⟩

end Go.Proofs.YtdfgecndbfmgnaaDoor
