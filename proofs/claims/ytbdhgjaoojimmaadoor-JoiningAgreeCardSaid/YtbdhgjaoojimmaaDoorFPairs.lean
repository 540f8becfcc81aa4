/-
  JoiningPairs, walked.
-/
import Derived.Test.YtbdhgjaoojimmaaDoorF0
import Derived.Test.YtbdhgjaoojimmaaDoorR0
namespace Go.Proofs.YtbdhgjaoojimmaaDoor
open Go Go.RowKit
set_option linter.unusedVariables false

def fPairs (N : Nat) (p0 : Int) (p1 : Int) : Option (Bool) :=
 ((pJoins N p0 p1).bind fun b7 => ((rJoins N p0 p1).bind fun b13 => (match b7 with | true => (match b13 with | true => ((kWorks N ).bind fun b19 => some b19) | false => some false) | false => (match b13 with | true => some false | false => ((kWorks N ).bind fun b25 => some b25)))))

set_option linter.unusedVariables false in
def fPairs_R (r : Bool) (w0 : World) (v : Value) (w : World) : Prop := v = .bool r ∧ St [] w0 w []

set_option maxRecDepth 100000 in
set_option maxHeartbeats 4000000 in
theorem fPairs_ok (N : Nat) (p0 : Int) (p1 : Int)  (r : Bool) (hF : fPairs N p0 p1 = some r) (w0 : World) (hcd : MirB [] w0) :
  Calls Tryd.prog 4 #[.int .i32 p0, .int .i32 p1] w0 fun e w => ∃ v, e = .returned v ∧ fPairs_R r w0 v w := by
 have hS0 := St.start w0
 unfold fPairs at hF
 refine calls_of Tryd.func4 rfl ⟨((.int .i32 p0) :: (.int .i32 p1) :: un 13 ([])).toArray, []⟩ (by kernel_rfl) ?_
 refine gx_seq (fun K1 hK2 => ?_)
 refine gx_region ?_
 refine gx_k (.bool false) w0 ?_
 refine gx_nil ?_
 refine gx_thenN ?_
 refine hK2 _ _ ?_
 refine gx_seq (fun K3 hK4 => ?_)
 refine gx_region ?_
 refine gx_k (.int .i32 p0) w0 (gx_k (.int .i32 p1) w0 ?_)
 have hP5 : St _ _ w0 ([] ++ []) := hS0
 obtain ⟨b7, hc6, hF⟩ := bind_in hF
 try dsimp only at hF
 refine gx_c (pJoins_R b7 w0) (pJoins_ok N p0 p1 _ hc6 w0 ) ?_
 rintro _ w8 ⟨rfl, hT10⟩
 have hS9 : St _ _ w8 [] := hS0.take _ hT10
 refine gx_k (.int .i32 p0) w8 (gx_k (.int .i32 p1) w8 ?_)
 have hP11 : St _ _ w8 ([] ++ []) := hS9
 obtain ⟨b13, hc12, hF⟩ := bind_in hF
 try dsimp only at hF
 refine gx_c (rJoins_R b13 w8) (rJoins_ok N p0 p1 _ hc12 w8 ) ?_
 rintro _ w14 ⟨rfl, hT16⟩
 have hS15 : St _ _ w14 [] := hS9.take _ hT16
 cases b7 with
 | true =>
  try dsimp only at hF
  cases b13 with
  | true =>
   try dsimp only at hF
   refine gx_k (.bool true) w14 (gx_k (.bool true) w14 ?_)
   have hP17 : St _ _ w14 ([] ++ []) := hS15
   obtain ⟨b19, hc18, hF⟩ := bind_in hF
   try dsimp only at hF
   refine gx_c (kWorks_R b19 w14) (kWorks_ok N  _ hc18 w14 (MirB.atL hcd hP17)) ?_
   rintro _ w20 ⟨rfl, hT22⟩
   have hS21 : St _ _ w20 [] := hS15.take _ hT22
   refine gx_k (.bool b19) w20 (gx_k (.bool b19) w20 ?_)
   refine gx_nil ?_
   refine gx_thenN ?_
   refine hK4 _ _ ?_
   refine gx_ret ?_
   obtain rfl := Option.some.inj hF
   exact gx_fin (.bool b19) (by kernel_rfl) (by kernel_rfl) ⟨_, rfl, rfl, hS21⟩
  | false =>
   try dsimp only at hF
   refine gx_k (.bool false) w14 (gx_k (.bool false) w14 (gx_o (gx_k (.bool false) w14 (gx_k (.bool false) w14 ?_))))
   refine gx_nil ?_
   refine gx_thenN ?_
   refine hK4 _ _ ?_
   refine gx_ret ?_
   obtain rfl := Option.some.inj hF
   exact gx_fin (.bool false) (by kernel_rfl) (by kernel_rfl) ⟨_, rfl, rfl, hS15⟩
 | false =>
  try dsimp only at hF
  cases b13 with
  | true =>
   try dsimp only at hF
   refine gx_k (.bool false) w14 (gx_k (.bool false) w14 (gx_o (gx_k (.bool false) w14 (gx_k (.bool false) w14 ?_))))
   refine gx_nil ?_
   refine gx_thenN ?_
   refine hK4 _ _ ?_
   refine gx_ret ?_
   obtain rfl := Option.some.inj hF
   exact gx_fin (.bool false) (by kernel_rfl) (by kernel_rfl) ⟨_, rfl, rfl, hS15⟩
  | false =>
   try dsimp only at hF
   refine gx_k (.bool true) w14 (gx_k (.bool true) w14 ?_)
   have hP23 : St _ _ w14 ([] ++ []) := hS15
   obtain ⟨b25, hc24, hF⟩ := bind_in hF
   try dsimp only at hF
   refine gx_c (kWorks_R b25 w14) (kWorks_ok N  _ hc24 w14 (MirB.atL hcd hP23)) ?_
   rintro _ w26 ⟨rfl, hT28⟩
   have hS27 : St _ _ w26 [] := hS15.take _ hT28
   refine gx_k (.bool b25) w26 (gx_k (.bool b25) w26 ?_)
   refine gx_nil ?_
   refine gx_thenN ?_
   refine hK4 _ _ ?_
   refine gx_ret ?_
   obtain rfl := Option.some.inj hF
   exact gx_fin (.bool b25) (by kernel_rfl) (by kernel_rfl) ⟨_, rfl, rfl, hS27⟩

end Go.Proofs.YtbdhgjaoojimmaaDoor
