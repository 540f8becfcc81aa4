/-
  The program, walked.
-/
import Derived.Test.YtjndolnjhbgflaaP1
namespace Go.Proofs.Ytjndolnjhbgflaa
open Go Go.RowKit
set_option linter.unusedVariables false

def pSeqs (N : Nat) (p0 : List Int) (p1 : List Int) (p2 : Int) : Option (List (List Int × Int × Int × Int) × Int) :=
 (if ((p0.length : Nat) : Int) > 65536 then some ([], 3) else (if ((p1.length : Nat) : Int) ≠ ((p0.length : Nat) : Int) then some ([], 2) else ((pTextOf N p0 p1 p2).bind fun (x26, l27, l30) => ((pSeqsT N p0 p1 x26 l27 l30).bind fun l38 => some (l38, 0)))))

set_option linter.unusedVariables false in
def pSeqs_R (r : List (List Int × Int × Int × Int) × Int) (w0 : World) (v : Value) (w : World) : Prop := ∃ (A0' : Option Addr) (c0' : Nat) (ads0' : List (Option Addr × Nat)), v = .tuple #[.slice A0' r.1.length c0', .int .i64 r.2] ∧ St [] w0 w [rowO oembedSeq 36 A0' r.1.length c0' ads0' r.1]

set_option maxRecDepth 100000 in
set_option maxHeartbeats 4000000 in
theorem pSeqs_ok (N : Nat) (p0 : List Int) (p1 : List Int) (p2 : Int) (A0 : Option Addr) (c0 : Nat) (A1 : Option Addr) (c1 : Nat) (r : List (List Int × Int × Int × Int) × Int) (hF : pSeqs N p0 p1 p2 = some r) (w0 : World) (hv0 : Vw [] .u8 w0 A0 c0 p0) (hv1 : Vw [] .u8 w0 A1 c1 p1) :
  Calls Try.prog 10 #[.slice A0 p0.length c0, .slice A1 p1.length c1, .int .u8 p2] w0 fun e w => ∃ v, e = .returned v ∧ pSeqs_R r w0 v w := by
 have hS0 := (St.start w0).pool0
 unfold pSeqs at hF
 refine calls_of Try.func10 rfl ⟨((.slice A0 p0.length c0) :: (.slice A1 p1.length c1) :: (.int .u8 p2) :: un 18 ([])).toArray, []⟩ (by kernel_rfl) ?_
 refine gx_seq (fun K1 hK2 => ?_)
 refine gx_region ?_
 refine gx_k (.slice none 0 0) w0 (gx_k (.int .i64 0) w0 ?_)
 refine gx_nil ?_
 refine gx_thenN ?_
 refine hK2 _ _ ?_
 refine gx_seq (fun K3 hK4 => ?_)
 refine gx_seq (fun K5 hK6 => ?_)
 refine gx_region ?_
 refine gx_k (.slice A0 p0.length c0) w0 (gx_k (.int .i64 ((p0.length : Nat) : Int)) w0 ?_)
 rcases if_in hF with ⟨h7, hF⟩ | ⟨h7, hF⟩
 ·refine gx_v (.bool true) w0 (run_boolE (decide_eq_true h7) (by kernel_rfl)) ?_
  refine gx_nil ?_
  refine gx_thenN ?_
  refine hK6 _ _ ?_
  refine gx_yes (by kernel_rfl) ?_
  refine gx_seq (fun K8 hK9 => ?_)
  refine gx_region ?_
  refine gx_k (.slice none 0 0) w0 (gx_k (.int .i64 3) w0 ?_)
  refine gx_nil ?_
  refine gx_thenN ?_
  refine hK9 _ _ ?_
  refine gx_ret ?_
  refine gx_thenR ?_
  have hS10 : St _ _ w0 [poolE ([]) w0, rowO oembedSeq 36 none 0 0 ([]) ([])] := hS0.nilO oembedSeq 36
  have hS11 : St _ _ w0 [poolE ([]) w0, rowO oembedSeq 36 none (([] : List Int).length) 0 ([]) ([])] := hS10.relenO 1 rfl (rfl : 0 = ([] : List (List Int × Int × Int × Int)).length)
  obtain rfl := Option.some.inj hF
  exact gx_fin (.tuple #[.slice none 0 0, .int .i64 3]) (by kernel_rfl) (by kernel_rfl) ⟨_, rfl, none, 0, ([]), by kernel_rfl, (hS11.pick [1] rfl rfl)⟩
 ·refine gx_v (.bool false) w0 (run_boolE (decide_eq_false h7) (by kernel_rfl)) ?_
  refine gx_nil ?_
  refine gx_thenN ?_
  refine hK6 _ _ ?_
  refine gx_no (by kernel_rfl) ?_
  refine gx_pass ?_
  refine gx_thenN ?_
  refine hK4 _ _ ?_
  refine gx_seq (fun K12 hK13 => ?_)
  refine gx_seq (fun K14 hK15 => ?_)
  refine gx_region ?_
  refine gx_k (.slice A1 p1.length c1) w0 (gx_k (.int .i64 ((p1.length : Nat) : Int)) w0 (gx_k (.slice A0 p0.length c0) w0 (gx_k (.int .i64 ((p0.length : Nat) : Int)) w0 ?_)))
  rcases if_in hF with ⟨h16, hF⟩ | ⟨h16, hF⟩
  ·refine gx_v (.bool true) w0 (run_boolE (ne_yes h16) (by kernel_rfl)) ?_
   refine gx_nil ?_
   refine gx_thenN ?_
   refine hK15 _ _ ?_
   refine gx_yes (by kernel_rfl) ?_
   refine gx_seq (fun K17 hK18 => ?_)
   refine gx_region ?_
   refine gx_k (.slice none 0 0) w0 (gx_k (.int .i64 2) w0 ?_)
   refine gx_nil ?_
   refine gx_thenN ?_
   refine hK18 _ _ ?_
   refine gx_ret ?_
   refine gx_thenR ?_
   have hS19 : St _ _ w0 [poolE ([]) w0, rowO oembedSeq 36 none 0 0 ([]) ([])] := hS0.nilO oembedSeq 36
   have hS20 : St _ _ w0 [poolE ([]) w0, rowO oembedSeq 36 none (([] : List Int).length) 0 ([]) ([])] := hS19.relenO 1 rfl (rfl : 0 = ([] : List (List Int × Int × Int × Int)).length)
   obtain rfl := Option.some.inj hF
   exact gx_fin (.tuple #[.slice none 0 0, .int .i64 2]) (by kernel_rfl) (by kernel_rfl) ⟨_, rfl, none, 0, ([]), by kernel_rfl, (hS20.pick [1] rfl rfl)⟩
  ·refine gx_v (.bool false) w0 (run_boolE (ne_no h16) (by kernel_rfl)) ?_
   refine gx_nil ?_
   refine gx_thenN ?_
   refine hK15 _ _ ?_
   refine gx_no (by kernel_rfl) ?_
   refine gx_pass ?_
   refine gx_thenN ?_
   refine hK13 _ _ ?_
   refine gx_seq (fun K21 hK22 => ?_)
   refine gx_region ?_
   refine gx_k (.slice A0 p0.length c0) w0 (gx_k (.slice A1 p1.length c1) w0 (gx_k (.int .u8 p2) w0 ?_))
   have hP23 : St _ _ w0 ([] ++ [poolE ([]) w0]) := hS0
   obtain ⟨⟨x26, l27, l30⟩, hc24, hF⟩ := bind_in hF
   try dsimp only at hF
   refine gx_c (pTextOf_R p0 p1 p2 A0 c0 A1 c1 (x26, l27, l30) w0) (pTextOf_ok N p0 p1 p2 A0 c0 A1 c1 _ hc24 w0 (hP23.vwA hv0) (hP23.vwA hv1)) ?_
   rintro _ w33 ⟨g25, A28, c29, A31, c32, rfl, hT35⟩
   have hS34 : St _ _ w33 [poolE ([]) w0, boxE g25 [.slice A0 p0.length c0, .slice A1 p1.length c1, .int .u8 x26, .slice A28 l27.length c29, .slice A31 l30.length c32] 67, rowE .i64 3 A28 c29 l27, rowE .i64 3 A31 c32 l30] := hS0.take _ hT35
   have hP36 : St _ _ w33 ([boxE g25 [.slice A0 p0.length c0, .slice A1 p1.length c1, .int .u8 x26, .slice A28 l27.length c29, .slice A31 l30.length c32] 67] ++ [poolE ([]) w0, rowE .i64 3 A28 c29 l27, rowE .i64 3 A31 c32 l30]) := hS34.pick [1, 0, 2, 3] rfl rfl
   obtain ⟨l38, hc37, hF⟩ := bind_in hF
   try dsimp only at hF
   refine gx_c (pSeqsT_R p0 p1 x26 l27 l30 g25 A0 c0 A1 c1 A28 c29 A31 c32 l38 w33) (pSeqsT_ok N p0 p1 x26 l27 l30 g25 A0 c0 A1 c1 A28 c29 A31 c32 _ hc37 w33 (hP36.vwA hv0) (hP36.vwA hv1) (hP36.vwB 1 rfl) (hP36.vwB 2 rfl) hP36.part) ?_
   rintro _ w42 ⟨A39, c40, ads41, rfl, hT44⟩
   have hS43 : St _ _ w42 [poolE ([]) w0, rowE .i64 3 A28 c29 l27, rowE .i64 3 A31 c32 l30, boxE g25 [.slice A0 p0.length c0, .slice A1 p1.length c1, .int .u8 x26, .slice A28 l27.length c29, .slice A31 l30.length c32] 67, rowO oembedSeq 36 A39 l38.length c40 ads41 l38] := hP36.lendN _ hT44
   refine gx_k (.slice A39 l38.length c40) w42 (gx_k (.int .i64 0) w42 ?_)
   refine gx_nil ?_
   refine gx_thenN ?_
   refine hK22 _ _ ?_
   refine gx_ret ?_
   obtain rfl := Option.some.inj hF
   exact gx_fin (.tuple #[.slice A39 l38.length c40, .int .i64 0]) (by kernel_rfl) (by kernel_rfl) ⟨_, rfl, A39, c40, ads41, rfl, (hS43.pick [4] rfl rfl)⟩

end Go.Proofs.Ytjndolnjhbgflaa
