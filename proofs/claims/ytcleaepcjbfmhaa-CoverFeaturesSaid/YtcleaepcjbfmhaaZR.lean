/-
  Readers, walked.
-/
import Derived.Test.YtcleaepcjbfmhaaZG
namespace Go.Proofs.Ytcleaepcjbfmhaa
open Go Go.RowKit
set_option linter.unusedVariables false

theorem bTog_ok (g gs : Nat) (A : Option Addr) (n c : Nat) (T : Nat) (w : World) (hr : w.heap[g]? = some (.cells [.pointer (some ⟨gs, 0, none⟩), .slice A n c].toArray T (0, 0))) :
    Calls Try.prog 40 #[.pointer (some ⟨g, 0, none⟩)] w fun e w' => ∃ v, e = .returned v ∧ (v = .pointer (some ⟨gs, 0, none⟩) ∧ w = w') := by
  have hc : w.cell? ⟨g, 0, none⟩ = some (.pointer (some ⟨gs, 0, none⟩)) := by rw [cell_of_row w g 0 _ _ _ hr]; rfl
  go_enter Try.func40, Try.ntmps40
  go_wp2_with fail
  go_ret
  exact ⟨_, rfl, rfl, rfl⟩

def qCloneS (_N : Nat) (p0 : List Int) : Option (List Int) :=
  ((apx ([]) p0).bind fun l11 => some l11)

def qCloneS_R (r : List Int) (w0 : World) (v : Value) (w : World) : Prop := ∃ (A0' : Option Addr) (c0' : Nat), v = .slice A0' r.length c0' ∧ St [] w0 w [rowE .u8 5 A0' c0' r]

set_option maxRecDepth 100000 in
set_option maxHeartbeats 4000000 in
theorem qCloneS_ok (N : Nat) (p0 : List Int) (a0 : Addr) (c0 : Nat) (r : List Int) (hF : qCloneS N p0 = some r) (w0 : World) (hv0 : Vw [] .u8 w0 (some a0) c0 p0) :
    Calls Try.prog 18 #[.slice (some a0) p0.length c0] w0 fun e w => ∃ v, e = .returned v ∧ qCloneS_R r w0 v w := by
  have hS0 := St.start w0
  unfold qCloneS at hF
  refine calls_of Try.func18 rfl ⟨((.slice (some a0) p0.length c0) :: un 7 ([])).toArray, []⟩ (by kernel_rfl) ?_
  refine gx_seq (fun K1 hK2 => ?_)
  refine gx_region ?_
  refine gx_val (.slice none 0 0) w0 (by kernel_rfl) (by kernel_rfl) ?_
  refine gx_nil ?_
  refine gx_thenN ?_
  refine hK2 _ _ ?_
  refine gx_seq (fun K3 hK4 => ?_)
  refine gx_seq (fun K5 hK6 => ?_)
  refine gx_region ?_
  refine gx_val (.slice (some a0) p0.length c0) w0 (by kernel_rfl) (by kernel_rfl) ?_
  refine gx_val (.bool false) w0 (by kernel_rfl) (by kernel_rfl) ?_
  refine gx_nil ?_
  refine gx_thenN ?_
  refine hK6 _ _ ?_
  refine gx_no (by kernel_rfl) ?_
  refine gx_pass ?_
  refine gx_thenN ?_
  refine hK4 _ _ ?_
  refine gx_seq (fun K7 hK8 => ?_)
  refine gx_region ?_
  refine gx_R (by kernel_rfl) (st_made .u8 5 [] hS0 (by show 0 ≤ 1000000000; decide) (by kernel_rfl)) ?_
  rintro _ w9 ⟨rfl, hS10⟩
  have hS10 : St _ _ w9 [rowE .u8 5 (some ⟨w0.heap.size, 0, none⟩) 0 ([])] := hS10
  refine gx_val (.slice (some a0) p0.length c0) w9 (by kernel_rfl) (by kernel_rfl) ?_
  obtain ⟨l11, ha12, hF⟩ := bind_in hF
  obtain ⟨ha12, hq13⟩ := apx_in ha12
  refine gx_R (by kernel_rfl) (st_append rfl (by kernel_rfl) (by kernel_rfl) hS10 0 rfl (hS10.view hv0) hv0.nn ha12 (by kernel_rfl) (by kernel_rfl)) ?_
  rintro _ w16 ⟨A14, c15, rfl, hS17⟩
  rw [← hq13] at hS17 ⊢
  have hS17 : St _ _ w16 [rowE .u8 5 A14 c15 l11] := hS17
  refine gx_val (.slice A14 l11.length c15) w16 (by kernel_rfl) (by kernel_rfl) ?_
  refine gx_nil ?_
  refine gx_thenN ?_
  refine hK8 _ _ ?_
  refine gx_ret ?_
  obtain rfl := Option.some.inj hF
  exact gx_fin (.slice A14 l11.length c15) (by kernel_rfl) (by kernel_rfl) ⟨_, rfl, A14, c15, rfl, hS17⟩

def qCloneN (_N : Nat) : Option (List Int) :=
  some ([])

def qCloneN_R (r : List Int) (w0 : World) (v : Value) (w : World) : Prop := ∃ (A0' : Option Addr) (c0' : Nat), v = .slice A0' r.length c0' ∧ St [] w0 w [rowE .u8 5 A0' c0' r]

set_option maxRecDepth 100000 in
set_option maxHeartbeats 4000000 in
theorem qCloneN_ok (N : Nat)  (r : List Int) (hF : qCloneN N = some r) (w0 : World)  :
    Calls Try.prog 18 #[.slice none ((([] : List Int)).length) 0] w0 fun e w => ∃ v, e = .returned v ∧ qCloneN_R r w0 v w := by
  have hS0 := St.start w0
  unfold qCloneN at hF
  refine calls_of Try.func18 rfl ⟨((.slice none ((([] : List Int)).length) 0) :: un 7 ([])).toArray, []⟩ (by kernel_rfl) ?_
  refine gx_seq (fun K1 hK2 => ?_)
  refine gx_region ?_
  refine gx_val (.slice none 0 0) w0 (by kernel_rfl) (by kernel_rfl) ?_
  refine gx_nil ?_
  refine gx_thenN ?_
  refine hK2 _ _ ?_
  refine gx_seq (fun K3 hK4 => ?_)
  refine gx_seq (fun K5 hK6 => ?_)
  refine gx_region ?_
  refine gx_val (.slice none ((([] : List Int)).length) 0) w0 (by kernel_rfl) (by kernel_rfl) ?_
  refine gx_val (.bool true) w0 (by kernel_rfl) (by kernel_rfl) ?_
  refine gx_nil ?_
  refine gx_thenN ?_
  refine hK6 _ _ ?_
  refine gx_yes (by kernel_rfl) ?_
  refine gx_seq (fun K7 hK8 => ?_)
  refine gx_region ?_
  refine gx_val (.slice none 0 0) w0 (by kernel_rfl) (by kernel_rfl) ?_
  refine gx_nil ?_
  refine gx_thenN ?_
  refine hK8 _ _ ?_
  refine gx_ret ?_
  refine gx_thenR ?_
  have hS9 : St _ _ w0 [rowE .u8 5 none 0 ([])] := hS0.nilrow .u8 5
  obtain rfl := Option.some.inj hF
  exact gx_fin (.slice none (([] : List Int).length) 0) (by kernel_rfl) (by kernel_rfl) ⟨_, rfl, none, 0, rfl, hS9⟩

def qClone (N : Nat) (p0 : List Int) : Option (List Int) := qCloneS N p0
def qClone_R (r : List Int) (w0 : World) (v : Value) (w : World) : Prop := qCloneS_R r w0 v w
theorem qClone_ok (N : Nat) (p0 : List Int) (A0 : Option Addr) (c0 : Nat) (r : List Int) (hF : qClone N p0 = some r) (w0 : World) (hv0 : Vw [] .u8 w0 A0 c0 p0) :
    Calls Try.prog 18 #[.slice A0 p0.length c0] w0 fun e w => ∃ v, e = .returned v ∧ qClone_R r w0 v w := by
  cases A0 with
  | some a => exact qCloneS_ok N p0 a c0 r hF w0 hv0
  | none =>
    obtain rfl : p0 = [] := List.length_eq_zero_iff.1 (num_nil hv0.num rfl)
    obtain rfl := hv0.nn rfl
    have hr : r = [] := (Option.some.inj hF).symm
    subst hr
    exact qCloneN_ok N [] rfl w0

def qOpen (N : Nat) (p0 : List Int) : Option (List Int × Bool) :=
 ((qClone N p0).bind fun l11 => some (l11, false))

set_option linter.unusedVariables false in
def qOpen_R (r : List Int × Bool) (w0 : World) (v : Value) (w : World) : Prop := ∃ (g0' : Nat) (A0_1' : Option Addr) (c0_1' : Nat) (g0_0' : Nat), v = .pointer (some ⟨g0', 0, none⟩) ∧ St [] w0 w [boxE g0' [.pointer (some ⟨g0_0', 0, none⟩), .slice A0_1' r.1.length c0_1'] 56, rowE .u8 5 A0_1' c0_1' r.1, boxE g0_0' [.bool r.2] 53]

set_option maxRecDepth 100000 in
set_option maxHeartbeats 4000000 in
theorem qOpen_ok (N : Nat) (p0 : List Int) (A0 : Option Addr) (c0 : Nat) (r : List Int × Bool) (hF : qOpen N p0 = some r) (w0 : World) (hv0 : Vw [] .u8 w0 A0 c0 p0) :
  Calls Try.prog 6 #[.slice A0 p0.length c0] w0 fun e w => ∃ v, e = .returned v ∧ qOpen_R r w0 v w := by
 have hS0 := St.start w0
 unfold qOpen at hF
 refine calls_of Try.func6 rfl ⟨((.slice A0 p0.length c0) :: un 8 ([])).toArray, []⟩ (by kernel_rfl) ?_
 refine gx_seq (fun K1 hK2 => ?_)
 refine gx_region ?_
 refine gx_k (.pointer none) w0 ?_
 refine gx_nil ?_
 refine gx_thenN ?_
 refine hK2 _ _ ?_
 refine gx_seq (fun K3 hK4 => ?_)
 refine gx_region ?_
 refine gx_k (.agg #[.bool false]) w0 ?_
 refine gx_r (st_boxed [.bool false] 53 hS0 (by kernel_rfl)) ?_
 rintro _ w5 ⟨rfl, hS6⟩
 have hS6 : St _ _ w5 [boxE w0.heap.size [.bool false] 53] := hS6
 refine gx_k (.slice A0 p0.length c0) w5 ?_
 obtain ⟨l11, hc8, hF⟩ := bind_in hF
 try dsimp only at hF
 refine gx_c (qClone_R  l11 w5) (qClone_ok N p0 A0 c0 _ hc8 w5 (Vw.of (hS6.view hv0) hv0.nn)) ?_
 rintro _ w9 ⟨A12, c13, rfl, hT14⟩
 have hS10 : St _ _ w9 [boxE w0.heap.size [.bool false] 53, rowE .u8 5 A12 c13 l11] := hS6.take _ hT14
 refine gx_k (.agg #[.pointer (some ⟨w0.heap.size, 0, none⟩), .slice A12 l11.length c13]) w9 ?_
 refine gx_r (st_boxed [.pointer (some ⟨w0.heap.size, 0, none⟩), .slice A12 l11.length c13] 56 hS10 (by kernel_rfl)) ?_
 rintro _ w15 ⟨rfl, hS16⟩
 have hS16 : St _ _ w15 [boxE w0.heap.size [.bool false] 53, rowE .u8 5 A12 c13 l11, boxE w9.heap.size [.pointer (some ⟨w0.heap.size, 0, none⟩), .slice A12 l11.length c13] 56] := hS16
 refine gx_k (.pointer (some ⟨w9.heap.size, 0, none⟩)) w15 ?_
 refine gx_nil ?_
 refine gx_thenN ?_
 refine hK4 _ _ ?_
 refine gx_ret ?_
 obtain rfl := Option.some.inj hF
 exact gx_fin (.pointer (some ⟨w9.heap.size, 0, none⟩)) (by kernel_rfl) (by kernel_rfl) ⟨_, rfl, w9.heap.size, A12, c13, w0.heap.size, rfl, (hS16.pick [2, 1, 0] rfl rfl)⟩

def qBad (_N : Nat) (_p0 : List Int) (p0s_0 : Bool) : Option (Bool) :=
 some p0s_0

set_option linter.unusedVariables false in
def qBad_R (p0 : List Int) (p0s_0 : Bool) (g0 : Nat) (A0 : Option Addr) (c0 : Nat) (g0s : Nat) (r : Bool) (w0 : World) (v : Value) (w : World) : Prop := v = .bool r ∧ St (foots [boxE g0 [.pointer (some ⟨g0s, 0, none⟩), .slice A0 p0.length c0] 56, boxE g0s [.bool p0s_0] 53]) w0 w [boxE g0 [.pointer (some ⟨g0s, 0, none⟩), .slice A0 p0.length c0] 56, boxE g0s [.bool p0s_0] 53]

set_option maxRecDepth 100000 in
set_option maxHeartbeats 4000000 in
theorem qBad_ok (N : Nat) (p0 : List Int) (p0s_0 : Bool) (g0 : Nat) (A0 : Option Addr) (c0 : Nat) (g0s : Nat) (r : Bool) (hF : qBad N p0 p0s_0 = some r) (w0 : World) (_hv0 : Vw (foots [boxE g0 [.pointer (some ⟨g0s, 0, none⟩), .slice A0 p0.length c0] 56, boxE g0s [.bool p0s_0] 53]) .u8 w0 A0 c0 p0) (hl : St (foots [boxE g0 [.pointer (some ⟨g0s, 0, none⟩), .slice A0 p0.length c0] 56, boxE g0s [.bool p0s_0] 53]) w0 w0 [boxE g0 [.pointer (some ⟨g0s, 0, none⟩), .slice A0 p0.length c0] 56, boxE g0s [.bool p0s_0] 53]) :
  Calls Try.prog 15 #[.pointer (some ⟨g0, 0, none⟩)] w0 fun e w => ∃ v, e = .returned v ∧ qBad_R p0 p0s_0 g0 A0 c0 g0s r w0 v w := by
 have hS0 := hl
 unfold qBad at hF
 refine calls_of Try.func15 rfl ⟨((.pointer (some ⟨g0, 0, none⟩)) :: un 20 ([])).toArray, []⟩ (by kernel_rfl) ?_
 refine gx_seq (fun K1 hK2 => ?_)
 refine gx_region ?_
 refine gx_k (.bool false) w0 ?_
 refine gx_nil ?_
 refine gx_thenN ?_
 refine hK2 _ _ ?_
 refine gx_seq (fun K3 hK4 => ?_)
 refine gx_region ?_
 refine gx_k (.pointer (some ⟨g0, 0, none⟩)) w0 (gx_k (.bool false) w0 (gx_k (.bool false) w0 (gx_k (.pointer (some ⟨g0, 0, none⟩)) w0 (gx_k (.pointer (some ⟨g0, 0, none⟩)) w0 (gx_k (.pointer (some ⟨g0, 0, none⟩)) w0 ?_)))))
 refine gx_v (.pointer (some ⟨g0s, 0, none⟩)) w0 (run_load1 rfl (by kernel_rfl) (fun _ => by kernel_rfl) (hS0.box 0 rfl 0 rfl)) ?_
 refine gx_k (.bool true) w0 (gx_k (.bool true) w0 (gx_k (.pointer (some ⟨g0, 0, none⟩)) w0 (gx_k (.pointer (some ⟨g0, 0, none⟩)) w0 (gx_k (.pointer (some ⟨g0, 0, none⟩)) w0 ?_))))
 refine gx_v (.pointer (some ⟨g0s, 0, none⟩)) w0 (run_load1 rfl (by kernel_rfl) (fun _ => by kernel_rfl) (hS0.box 0 rfl 0 rfl)) ?_
 refine gx_k (.pointer (some ⟨g0s, 0, none⟩)) w0 (gx_k (.pointer (some ⟨g0s, 0, none⟩)) w0 ?_)
 refine gx_v (.bool p0s_0) w0 (run_load1 rfl (by kernel_rfl) (fun _ => by kernel_rfl) (hS0.box 1 rfl 0 rfl)) ?_
 refine gx_k (.bool p0s_0) w0 (gx_k (.bool p0s_0) w0 (gx_k (.bool p0s_0) w0 ?_))
 refine gx_nil ?_
 refine gx_thenN ?_
 refine hK4 _ _ ?_
 refine gx_ret ?_
 obtain rfl := Option.some.inj hF
 exact gx_fin (.bool p0s_0) (by kernel_rfl) (by kernel_rfl) ⟨_, rfl, rfl, hS0⟩

def qMul64 (_N : Nat) (p0 : Int) (p1 : Int) : Option (Int × Int) :=
 some ((IntKind.u64.wrap ((IntKind.u64.wrap ((IntKind.u64.wrap ((Int.fdiv p0 4294967296) * (Int.fdiv p1 4294967296))) + (Int.fdiv (IntKind.u64.wrap ((IntKind.u64.wrap ((Int.fdiv p0 4294967296) * (iand .u64 p1 4294967295))) + (Int.fdiv (IntKind.u64.wrap ((iand .u64 p0 4294967295) * (iand .u64 p1 4294967295))) 4294967296))) 4294967296))) + (Int.fdiv (IntKind.u64.wrap ((iand .u64 (IntKind.u64.wrap ((IntKind.u64.wrap ((Int.fdiv p0 4294967296) * (iand .u64 p1 4294967295))) + (Int.fdiv (IntKind.u64.wrap ((iand .u64 p0 4294967295) * (iand .u64 p1 4294967295))) 4294967296))) 4294967295) + (IntKind.u64.wrap ((iand .u64 p0 4294967295) * (Int.fdiv p1 4294967296))))) 4294967296))), (IntKind.u64.wrap (p0 * p1)))

set_option linter.unusedVariables false in
def qMul64_R (r : Int × Int) (w0 : World) (v : Value) (w : World) : Prop := v = .tuple #[.int .u64 r.1, .int .u64 r.2] ∧ St [] w0 w []

set_option maxRecDepth 100000 in
set_option maxHeartbeats 4000000 in
theorem qMul64_ok (N : Nat) (p0 : Int) (p1 : Int)  (r : Int × Int) (hF : qMul64 N p0 p1 = some r) (w0 : World)  :
  Calls Try.prog 66 #[.int .u64 p0, .int .u64 p1] w0 fun e w => ∃ v, e = .returned v ∧ qMul64_R r w0 v w := by
 have hS0 := St.start w0
 unfold qMul64 at hF
 refine calls_of Try.func66 rfl ⟨((.int .u64 p0) :: (.int .u64 p1) :: un 49 ([])).toArray, []⟩ (by kernel_rfl) ?_
 refine gx_seq (fun K1 hK2 => ?_)
 refine gx_region ?_
 refine gx_k (.int .u64 0) w0 (gx_k (.int .u64 0) w0 ?_)
 refine gx_nil ?_
 refine gx_thenN ?_
 refine hK2 _ _ ?_
 refine gx_seq (fun K3 hK4 => ?_)
 refine gx_region ?_
 refine gx_k (.int .u64 p0) w0 (gx_k (.int .u64 (iand .u64 p0 4294967295)) w0 (gx_k (.int .u64 (iand .u64 p0 4294967295)) w0 ?_))
 refine gx_nil ?_
 refine gx_thenN ?_
 refine hK4 _ _ ?_
 refine gx_seq (fun K5 hK6 => ?_)
 refine gx_region ?_
 refine gx_k (.int .u64 p0) w0 (gx_k (.int .u64 (Int.fdiv p0 4294967296)) w0 (gx_k (.int .u64 (Int.fdiv p0 4294967296)) w0 ?_))
 refine gx_nil ?_
 refine gx_thenN ?_
 refine hK6 _ _ ?_
 refine gx_seq (fun K7 hK8 => ?_)
 refine gx_region ?_
 refine gx_k (.int .u64 p1) w0 (gx_k (.int .u64 (iand .u64 p1 4294967295)) w0 (gx_k (.int .u64 (iand .u64 p1 4294967295)) w0 ?_))
 refine gx_nil ?_
 refine gx_thenN ?_
 refine hK8 _ _ ?_
 refine gx_seq (fun K9 hK10 => ?_)
 refine gx_region ?_
 refine gx_k (.int .u64 p1) w0 (gx_k (.int .u64 (Int.fdiv p1 4294967296)) w0 (gx_k (.int .u64 (Int.fdiv p1 4294967296)) w0 ?_))
 refine gx_nil ?_
 refine gx_thenN ?_
 refine hK10 _ _ ?_
 refine gx_seq (fun K11 hK12 => ?_)
 refine gx_region ?_
 refine gx_k (.int .u64 (iand .u64 p0 4294967295)) w0 (gx_k (.int .u64 (iand .u64 p1 4294967295)) w0 (gx_k (.int .u64 (IntKind.u64.wrap ((iand .u64 p0 4294967295) * (iand .u64 p1 4294967295)))) w0 (gx_k (.int .u64 (IntKind.u64.wrap ((iand .u64 p0 4294967295) * (iand .u64 p1 4294967295)))) w0 ?_)))
 refine gx_nil ?_
 refine gx_thenN ?_
 refine hK12 _ _ ?_
 refine gx_seq (fun K13 hK14 => ?_)
 refine gx_region ?_
 refine gx_k (.int .u64 (Int.fdiv p0 4294967296)) w0 (gx_k (.int .u64 (iand .u64 p1 4294967295)) w0 (gx_k (.int .u64 (IntKind.u64.wrap ((Int.fdiv p0 4294967296) * (iand .u64 p1 4294967295)))) w0 (gx_k (.int .u64 (IntKind.u64.wrap ((iand .u64 p0 4294967295) * (iand .u64 p1 4294967295)))) w0 (gx_k (.int .u64 (Int.fdiv (IntKind.u64.wrap ((iand .u64 p0 4294967295) * (iand .u64 p1 4294967295))) 4294967296)) w0 (gx_k (.int .u64 (IntKind.u64.wrap ((IntKind.u64.wrap ((Int.fdiv p0 4294967296) * (iand .u64 p1 4294967295))) + (Int.fdiv (IntKind.u64.wrap ((iand .u64 p0 4294967295) * (iand .u64 p1 4294967295))) 4294967296)))) w0 (gx_k (.int .u64 (IntKind.u64.wrap ((IntKind.u64.wrap ((Int.fdiv p0 4294967296) * (iand .u64 p1 4294967295))) + (Int.fdiv (IntKind.u64.wrap ((iand .u64 p0 4294967295) * (iand .u64 p1 4294967295))) 4294967296)))) w0 ?_))))))
 refine gx_nil ?_
 refine gx_thenN ?_
 refine hK14 _ _ ?_
 refine gx_seq (fun K15 hK16 => ?_)
 refine gx_region ?_
 refine gx_k (.int .u64 (IntKind.u64.wrap ((IntKind.u64.wrap ((Int.fdiv p0 4294967296) * (iand .u64 p1 4294967295))) + (Int.fdiv (IntKind.u64.wrap ((iand .u64 p0 4294967295) * (iand .u64 p1 4294967295))) 4294967296)))) w0 (gx_k (.int .u64 (iand .u64 (IntKind.u64.wrap ((IntKind.u64.wrap ((Int.fdiv p0 4294967296) * (iand .u64 p1 4294967295))) + (Int.fdiv (IntKind.u64.wrap ((iand .u64 p0 4294967295) * (iand .u64 p1 4294967295))) 4294967296))) 4294967295)) w0 (gx_k (.int .u64 (iand .u64 (IntKind.u64.wrap ((IntKind.u64.wrap ((Int.fdiv p0 4294967296) * (iand .u64 p1 4294967295))) + (Int.fdiv (IntKind.u64.wrap ((iand .u64 p0 4294967295) * (iand .u64 p1 4294967295))) 4294967296))) 4294967295)) w0 ?_))
 refine gx_nil ?_
 refine gx_thenN ?_
 refine hK16 _ _ ?_
 refine gx_seq (fun K17 hK18 => ?_)
 refine gx_region ?_
 refine gx_k (.int .u64 (IntKind.u64.wrap ((IntKind.u64.wrap ((Int.fdiv p0 4294967296) * (iand .u64 p1 4294967295))) + (Int.fdiv (IntKind.u64.wrap ((iand .u64 p0 4294967295) * (iand .u64 p1 4294967295))) 4294967296)))) w0 (gx_k (.int .u64 (Int.fdiv (IntKind.u64.wrap ((IntKind.u64.wrap ((Int.fdiv p0 4294967296) * (iand .u64 p1 4294967295))) + (Int.fdiv (IntKind.u64.wrap ((iand .u64 p0 4294967295) * (iand .u64 p1 4294967295))) 4294967296))) 4294967296)) w0 (gx_k (.int .u64 (Int.fdiv (IntKind.u64.wrap ((IntKind.u64.wrap ((Int.fdiv p0 4294967296) * (iand .u64 p1 4294967295))) + (Int.fdiv (IntKind.u64.wrap ((iand .u64 p0 4294967295) * (iand .u64 p1 4294967295))) 4294967296))) 4294967296)) w0 ?_))
 refine gx_nil ?_
 refine gx_thenN ?_
 refine hK18 _ _ ?_
 refine gx_seq (fun K19 hK20 => ?_)
 refine gx_region ?_
 refine gx_k (.int .u64 (iand .u64 (IntKind.u64.wrap ((IntKind.u64.wrap ((Int.fdiv p0 4294967296) * (iand .u64 p1 4294967295))) + (Int.fdiv (IntKind.u64.wrap ((iand .u64 p0 4294967295) * (iand .u64 p1 4294967295))) 4294967296))) 4294967295)) w0 (gx_k (.int .u64 (iand .u64 p0 4294967295)) w0 (gx_k (.int .u64 (Int.fdiv p1 4294967296)) w0 (gx_k (.int .u64 (IntKind.u64.wrap ((iand .u64 p0 4294967295) * (Int.fdiv p1 4294967296)))) w0 (gx_k (.int .u64 (IntKind.u64.wrap ((iand .u64 (IntKind.u64.wrap ((IntKind.u64.wrap ((Int.fdiv p0 4294967296) * (iand .u64 p1 4294967295))) + (Int.fdiv (IntKind.u64.wrap ((iand .u64 p0 4294967295) * (iand .u64 p1 4294967295))) 4294967296))) 4294967295) + (IntKind.u64.wrap ((iand .u64 p0 4294967295) * (Int.fdiv p1 4294967296)))))) w0 (gx_k (.int .u64 (IntKind.u64.wrap ((iand .u64 (IntKind.u64.wrap ((IntKind.u64.wrap ((Int.fdiv p0 4294967296) * (iand .u64 p1 4294967295))) + (Int.fdiv (IntKind.u64.wrap ((iand .u64 p0 4294967295) * (iand .u64 p1 4294967295))) 4294967296))) 4294967295) + (IntKind.u64.wrap ((iand .u64 p0 4294967295) * (Int.fdiv p1 4294967296)))))) w0 ?_)))))
 refine gx_nil ?_
 refine gx_thenN ?_
 refine hK20 _ _ ?_
 refine gx_seq (fun K21 hK22 => ?_)
 refine gx_region ?_
 refine gx_k (.int .u64 (Int.fdiv p0 4294967296)) w0 (gx_k (.int .u64 (Int.fdiv p1 4294967296)) w0 (gx_k (.int .u64 (IntKind.u64.wrap ((Int.fdiv p0 4294967296) * (Int.fdiv p1 4294967296)))) w0 (gx_k (.int .u64 (Int.fdiv (IntKind.u64.wrap ((IntKind.u64.wrap ((Int.fdiv p0 4294967296) * (iand .u64 p1 4294967295))) + (Int.fdiv (IntKind.u64.wrap ((iand .u64 p0 4294967295) * (iand .u64 p1 4294967295))) 4294967296))) 4294967296)) w0 (gx_k (.int .u64 (IntKind.u64.wrap ((IntKind.u64.wrap ((Int.fdiv p0 4294967296) * (Int.fdiv p1 4294967296))) + (Int.fdiv (IntKind.u64.wrap ((IntKind.u64.wrap ((Int.fdiv p0 4294967296) * (iand .u64 p1 4294967295))) + (Int.fdiv (IntKind.u64.wrap ((iand .u64 p0 4294967295) * (iand .u64 p1 4294967295))) 4294967296))) 4294967296)))) w0 (gx_k (.int .u64 (IntKind.u64.wrap ((iand .u64 (IntKind.u64.wrap ((IntKind.u64.wrap ((Int.fdiv p0 4294967296) * (iand .u64 p1 4294967295))) + (Int.fdiv (IntKind.u64.wrap ((iand .u64 p0 4294967295) * (iand .u64 p1 4294967295))) 4294967296))) 4294967295) + (IntKind.u64.wrap ((iand .u64 p0 4294967295) * (Int.fdiv p1 4294967296)))))) w0 (gx_k (.int .u64 (Int.fdiv (IntKind.u64.wrap ((iand .u64 (IntKind.u64.wrap ((IntKind.u64.wrap ((Int.fdiv p0 4294967296) * (iand .u64 p1 4294967295))) + (Int.fdiv (IntKind.u64.wrap ((iand .u64 p0 4294967295) * (iand .u64 p1 4294967295))) 4294967296))) 4294967295) + (IntKind.u64.wrap ((iand .u64 p0 4294967295) * (Int.fdiv p1 4294967296))))) 4294967296)) w0 (gx_k (.int .u64 (IntKind.u64.wrap ((IntKind.u64.wrap ((IntKind.u64.wrap ((Int.fdiv p0 4294967296) * (Int.fdiv p1 4294967296))) + (Int.fdiv (IntKind.u64.wrap ((IntKind.u64.wrap ((Int.fdiv p0 4294967296) * (iand .u64 p1 4294967295))) + (Int.fdiv (IntKind.u64.wrap ((iand .u64 p0 4294967295) * (iand .u64 p1 4294967295))) 4294967296))) 4294967296))) + (Int.fdiv (IntKind.u64.wrap ((iand .u64 (IntKind.u64.wrap ((IntKind.u64.wrap ((Int.fdiv p0 4294967296) * (iand .u64 p1 4294967295))) + (Int.fdiv (IntKind.u64.wrap ((iand .u64 p0 4294967295) * (iand .u64 p1 4294967295))) 4294967296))) 4294967295) + (IntKind.u64.wrap ((iand .u64 p0 4294967295) * (Int.fdiv p1 4294967296))))) 4294967296)))) w0 ?_)))))))
 refine gx_k (.int .u64 (IntKind.u64.wrap ((IntKind.u64.wrap ((IntKind.u64.wrap ((Int.fdiv p0 4294967296) * (Int.fdiv p1 4294967296))) + (Int.fdiv (IntKind.u64.wrap ((IntKind.u64.wrap ((Int.fdiv p0 4294967296) * (iand .u64 p1 4294967295))) + (Int.fdiv (IntKind.u64.wrap ((iand .u64 p0 4294967295) * (iand .u64 p1 4294967295))) 4294967296))) 4294967296))) + (Int.fdiv (IntKind.u64.wrap ((iand .u64 (IntKind.u64.wrap ((IntKind.u64.wrap ((Int.fdiv p0 4294967296) * (iand .u64 p1 4294967295))) + (Int.fdiv (IntKind.u64.wrap ((iand .u64 p0 4294967295) * (iand .u64 p1 4294967295))) 4294967296))) 4294967295) + (IntKind.u64.wrap ((iand .u64 p0 4294967295) * (Int.fdiv p1 4294967296))))) 4294967296)))) w0 ?_
 refine gx_nil ?_
 refine gx_thenN ?_
 refine hK22 _ _ ?_
 refine gx_seq (fun K23 hK24 => ?_)
 refine gx_region ?_
 refine gx_k (.int .u64 p0) w0 (gx_k (.int .u64 p1) w0 (gx_k (.int .u64 (IntKind.u64.wrap (p0 * p1))) w0 (gx_k (.int .u64 (IntKind.u64.wrap (p0 * p1))) w0 ?_)))
 refine gx_nil ?_
 refine gx_thenN ?_
 refine hK24 _ _ ?_
 refine gx_ret ?_
 obtain rfl := Option.some.inj hF
 exact gx_fin (.tuple #[.int .u64 (IntKind.u64.wrap ((IntKind.u64.wrap ((IntKind.u64.wrap ((Int.fdiv p0 4294967296) * (Int.fdiv p1 4294967296))) + (Int.fdiv (IntKind.u64.wrap ((IntKind.u64.wrap ((Int.fdiv p0 4294967296) * (iand .u64 p1 4294967295))) + (Int.fdiv (IntKind.u64.wrap ((iand .u64 p0 4294967295) * (iand .u64 p1 4294967295))) 4294967296))) 4294967296))) + (Int.fdiv (IntKind.u64.wrap ((iand .u64 (IntKind.u64.wrap ((IntKind.u64.wrap ((Int.fdiv p0 4294967296) * (iand .u64 p1 4294967295))) + (Int.fdiv (IntKind.u64.wrap ((iand .u64 p0 4294967295) * (iand .u64 p1 4294967295))) 4294967296))) 4294967295) + (IntKind.u64.wrap ((iand .u64 p0 4294967295) * (Int.fdiv p1 4294967296))))) 4294967296))), .int .u64 (IntKind.u64.wrap (p0 * p1))]) (by kernel_rfl) (by kernel_rfl) ⟨_, rfl, rfl, hS0⟩

def qMul32 (_N : Nat) (p0 : Int) (p1 : Int) : Option (Int × Int) :=
 some ((IntKind.u32.wrap (Int.fdiv (IntKind.u64.wrap ((IntKind.u64.wrap p0) * (IntKind.u64.wrap p1))) 4294967296)), (IntKind.u32.wrap (IntKind.u64.wrap ((IntKind.u64.wrap p0) * (IntKind.u64.wrap p1)))))

set_option linter.unusedVariables false in
def qMul32_R (r : Int × Int) (w0 : World) (v : Value) (w : World) : Prop := v = .tuple #[.int .u32 r.1, .int .u32 r.2] ∧ St [] w0 w []

set_option maxRecDepth 100000 in
set_option maxHeartbeats 4000000 in
theorem qMul32_ok (N : Nat) (p0 : Int) (p1 : Int)  (r : Int × Int) (hF : qMul32 N p0 p1 = some r) (w0 : World)  :
  Calls Try.prog 65 #[.int .u32 p0, .int .u32 p1] w0 fun e w => ∃ v, e = .returned v ∧ qMul32_R r w0 v w := by
 have hS0 := St.start w0
 unfold qMul32 at hF
 refine calls_of Try.func65 rfl ⟨((.int .u32 p0) :: (.int .u32 p1) :: un 15 ([])).toArray, []⟩ (by kernel_rfl) ?_
 refine gx_seq (fun K1 hK2 => ?_)
 refine gx_region ?_
 refine gx_k (.int .u32 0) w0 (gx_k (.int .u32 0) w0 ?_)
 refine gx_nil ?_
 refine gx_thenN ?_
 refine hK2 _ _ ?_
 refine gx_seq (fun K3 hK4 => ?_)
 refine gx_region ?_
 refine gx_k (.int .u32 p0) w0 (gx_k (.int .u64 (IntKind.u64.wrap p0)) w0 (gx_k (.int .u32 p1) w0 (gx_k (.int .u64 (IntKind.u64.wrap p1)) w0 (gx_k (.int .u64 (IntKind.u64.wrap ((IntKind.u64.wrap p0) * (IntKind.u64.wrap p1)))) w0 (gx_k (.int .u64 (IntKind.u64.wrap ((IntKind.u64.wrap p0) * (IntKind.u64.wrap p1)))) w0 ?_)))))
 refine gx_nil ?_
 refine gx_thenN ?_
 refine hK4 _ _ ?_
 refine gx_seq (fun K5 hK6 => ?_)
 refine gx_region ?_
 refine gx_k (.int .u64 (IntKind.u64.wrap ((IntKind.u64.wrap p0) * (IntKind.u64.wrap p1)))) w0 (gx_k (.int .u64 (Int.fdiv (IntKind.u64.wrap ((IntKind.u64.wrap p0) * (IntKind.u64.wrap p1))) 4294967296)) w0 (gx_k (.int .u32 (IntKind.u32.wrap (Int.fdiv (IntKind.u64.wrap ((IntKind.u64.wrap p0) * (IntKind.u64.wrap p1))) 4294967296))) w0 (gx_k (.int .u64 (IntKind.u64.wrap ((IntKind.u64.wrap p0) * (IntKind.u64.wrap p1)))) w0 (gx_k (.int .u32 (IntKind.u32.wrap (IntKind.u64.wrap ((IntKind.u64.wrap p0) * (IntKind.u64.wrap p1))))) w0 (gx_k (.int .u32 (IntKind.u32.wrap (Int.fdiv (IntKind.u64.wrap ((IntKind.u64.wrap p0) * (IntKind.u64.wrap p1))) 4294967296))) w0 (gx_k (.int .u32 (IntKind.u32.wrap (IntKind.u64.wrap ((IntKind.u64.wrap p0) * (IntKind.u64.wrap p1))))) w0 ?_))))))
 refine gx_nil ?_
 refine gx_thenN ?_
 refine hK6 _ _ ?_
 refine gx_ret ?_
 obtain rfl := Option.some.inj hF
 exact gx_fin (.tuple #[.int .u32 (IntKind.u32.wrap (Int.fdiv (IntKind.u64.wrap ((IntKind.u64.wrap p0) * (IntKind.u64.wrap p1))) 4294967296)), .int .u32 (IntKind.u32.wrap (IntKind.u64.wrap ((IntKind.u64.wrap p0) * (IntKind.u64.wrap p1))))]) (by kernel_rfl) (by kernel_rfl) ⟨_, rfl, rfl, hS0⟩

def qMul (N : Nat) (p0 : Int) (p1 : Int) : Option (Int × Int) :=
 ((qMul64 N p0 p1).bind fun (x9, x10) => some (x9, x10))

set_option linter.unusedVariables false in
def qMul_R (r : Int × Int) (w0 : World) (v : Value) (w : World) : Prop := v = .tuple #[.int .u64 r.1, .int .u64 r.2] ∧ St [] w0 w []

set_option maxRecDepth 100000 in
set_option maxHeartbeats 4000000 in
theorem qMul_ok (N : Nat) (p0 : Int) (p1 : Int)  (r : Int × Int) (hF : qMul N p0 p1 = some r) (w0 : World)  :
  Calls Try.prog 48 #[.int .u64 p0, .int .u64 p1] w0 fun e w => ∃ v, e = .returned v ∧ qMul_R r w0 v w := by
 have hS0 := St.start w0
 unfold qMul at hF
 refine calls_of Try.func48 rfl ⟨((.int .u64 p0) :: (.int .u64 p1) :: un 28 ([])).toArray, []⟩ (by kernel_rfl) ?_
 refine gx_seq (fun K1 hK2 => ?_)
 refine gx_region ?_
 refine gx_k (.int .u64 0) w0 (gx_k (.int .u64 0) w0 ?_)
 refine gx_nil ?_
 refine gx_thenN ?_
 refine hK2 _ _ ?_
 refine gx_seq (fun K3 hK4 => ?_)
 refine gx_no (by kernel_rfl) ?_
 refine gx_pass ?_
 refine gx_thenN ?_
 refine hK4 _ _ ?_
 refine gx_seq (fun K5 hK6 => ?_)
 refine gx_region ?_
 refine gx_k (.int .u64 p0) w0 (gx_k (.int .u64 p1) w0 ?_)
 have hP7 : St _ _ w0 ([] ++ []) := hS0
 obtain ⟨⟨x9, x10⟩, hc8, hF⟩ := bind_in hF
 try dsimp only at hF
 refine gx_c (qMul64_R (x9, x10) w0) (qMul64_ok N p0 p1 _ hc8 w0 ) ?_
 rintro _ w11 ⟨rfl, hT13⟩
 have hS12 : St _ _ w11 [] := hS0.take _ hT13
 refine gx_k (.tuple #[.int .u64 x9, .int .u64 x10]) w11 (gx_k (.int .u64 x9) w11 (gx_k (.int .u64 x10) w11 (gx_k (.int .u64 x9) w11 (gx_k (.int .u64 x10) w11 ?_))))
 refine gx_nil ?_
 refine gx_thenN ?_
 refine hK6 _ _ ?_
 refine gx_seq (fun K14 hK15 => ?_)
 refine gx_region ?_
 refine gx_k (.int .u64 x9) w11 (gx_k (.int .u64 x10) w11 (gx_k (.int .u64 x9) w11 (gx_k (.int .u64 x10) w11 ?_)))
 refine gx_nil ?_
 refine gx_thenN ?_
 refine hK15 _ _ ?_
 refine gx_ret ?_
 obtain rfl := Option.some.inj hF
 exact gx_fin (.tuple #[.int .u64 x9, .int .u64 x10]) (by kernel_rfl) (by kernel_rfl) ⟨_, rfl, rfl, hS12⟩

def qHas (_N : Nat) (p0 : List Int) (p0s_0 : Bool) (p1 : Int) (p2 : Int) (p3 : Int) : Option (Bool × Bool) :=
 (((if p1 ≥ 0 then (if p2 ≥ 0 then some (true) else some (false)) else some (false)) : Option (Bool)).bind fun b14 => (((match b14 with | true => (if p1 ≤ ((p0.length : Nat) : Int) then some (true) else some (false)) | false => some (false)) : Option (Bool)).bind fun b24 => (match b24 with | true => (if p3 = 0 then none else (if p2 ≤ (IntKind.i64.wrap (Int.tdiv (IntKind.i64.wrap (((p0.length : Nat) : Int) - p1)) p3)) then some (true, p0s_0) else some (false, true))) | false => some (false, true))))

set_option linter.unusedVariables false in
def qHas_R (p0 : List Int) (p0s_0 : Bool) (p1 : Int) (p2 : Int) (p3 : Int) (g0 : Nat) (A0 : Option Addr) (c0 : Nat) (g0s : Nat) (r : Bool × Bool) (w0 : World) (v : Value) (w : World) : Prop := v = .bool r.1 ∧ St (foots [boxE g0 [.pointer (some ⟨g0s, 0, none⟩), .slice A0 p0.length c0] 56, boxE g0s [.bool p0s_0] 53]) w0 w [boxE g0 [.pointer (some ⟨g0s, 0, none⟩), .slice A0 p0.length c0] 56, boxE g0s [.bool r.2] 53]

set_option maxRecDepth 100000 in
set_option maxHeartbeats 4000000 in
theorem qHas_ok (N : Nat) (p0 : List Int) (p0s_0 : Bool) (p1 : Int) (p2 : Int) (p3 : Int) (g0 : Nat) (A0 : Option Addr) (c0 : Nat) (g0s : Nat) (r : Bool × Bool) (hF : qHas N p0 p0s_0 p1 p2 p3 = some r) (w0 : World) (_hv0 : Vw (foots [boxE g0 [.pointer (some ⟨g0s, 0, none⟩), .slice A0 p0.length c0] 56, boxE g0s [.bool p0s_0] 53]) .u8 w0 A0 c0 p0) (hl : St (foots [boxE g0 [.pointer (some ⟨g0s, 0, none⟩), .slice A0 p0.length c0] 56, boxE g0s [.bool p0s_0] 53]) w0 w0 [boxE g0 [.pointer (some ⟨g0s, 0, none⟩), .slice A0 p0.length c0] 56, boxE g0s [.bool p0s_0] 53]) :
  Calls Try.prog 27 #[.pointer (some ⟨g0, 0, none⟩), .int .i64 p1, .int .i64 p2, .int .i64 p3] w0 fun e w => ∃ v, e = .returned v ∧ qHas_R p0 p0s_0 p1 p2 p3 g0 A0 c0 g0s r w0 v w := by
 have hS0 := hl
 unfold qHas at hF
 refine calls_of Try.func27 rfl ⟨((.pointer (some ⟨g0, 0, none⟩)) :: (.int .i64 p1) :: (.int .i64 p2) :: (.int .i64 p3) :: un 39 ([])).toArray, []⟩ (by kernel_rfl) ?_
 refine gx_seq (fun K1 hK2 => ?_)
 refine gx_region ?_
 refine gx_k (.bool false) w0 ?_
 refine gx_nil ?_
 refine gx_thenN ?_
 refine hK2 _ _ ?_
 refine gx_seq (fun K3 hK4 => ?_)
 refine gx_seq (fun K5 hK6 => ?_)
 refine gx_region ?_
 refine gx_k (.pointer (some ⟨g0, 0, none⟩)) w0 (gx_k (.bool false) w0 ?_)
 refine gx_nil ?_
 refine gx_thenN ?_
 refine hK6 _ _ ?_
 refine gx_no (by kernel_rfl) ?_
 refine gx_pass ?_
 refine gx_thenN ?_
 refine hK4 _ _ ?_
 refine gx_seq (fun K7 hK8 => ?_)
 refine gx_seq (fun K9 hK10 => ?_)
 refine gx_region ?_
 refine gx_k (.int .i64 p1) w0 ?_
 obtain ⟨c15, hE16, hO17⟩ := bind_in hF
 refine gx_part (l1 := [_, _, _, _, _]) (fun a w => ∃ (b14 : Bool), selfA (fun u13 => ⟨((.pointer (some ⟨g0, 0, none⟩)) :: (.int .i64 p1) :: (.int .i64 p2) :: (.int .i64 p3) :: un 4 ((.bool false) :: (.pointer (some ⟨g0, 0, none⟩)) :: (.bool false) :: (.int .i64 p1) :: dd u13 12 4 ((.bool b14) :: un 26 ([])))).toArray, []⟩) a ∧ b14 = c15 ∧ St (foots [boxE g0 [.pointer (some ⟨g0s, 0, none⟩), .slice A0 p0.length c0] 56, boxE g0s [.bool p0s_0] 53]) w0 w [boxE g0 [.pointer (some ⟨g0s, 0, none⟩), .slice A0 p0.length c0] 56, boxE g0s [.bool p0s_0] 53]) rfl ?_ ?_
 ·rcases if_in hE16 with ⟨h19, hE16⟩ | ⟨h19, hE16⟩
  ·refine gx_v (.bool true) w0 (run_boolE (decide_eq_true h19) (by kernel_rfl)) ?_
   refine gx_k (.bool true) w0 (gx_k (.int .i64 p2) w0 ?_)
   rcases if_in hE16 with ⟨h20, hE16⟩ | ⟨h20, hE16⟩
   ·refine gx_v (.bool true) w0 (run_boolE (decide_eq_true h20) (by kernel_rfl)) ?_
    refine gx_k (.bool true) w0 ?_
    refine gx_nil ?_
    refine gx_thenN ?_
    exact ⟨true, selfA_i (by kernel_rfl), (Option.some.inj hE16), hS0⟩
   ·refine gx_v (.bool false) w0 (run_boolE (decide_eq_false h20) (by kernel_rfl)) ?_
    refine gx_k (.bool false) w0 ?_
    refine gx_nil ?_
    refine gx_thenN ?_
    exact ⟨false, selfA_i (by kernel_rfl), (Option.some.inj hE16), hS0⟩
  ·refine gx_v (.bool false) w0 (run_boolE (decide_eq_false h19) (by kernel_rfl)) ?_
   refine gx_k (.bool false) w0 (gx_o (gx_o (gx_k (.bool false) w0 ?_)))
   refine gx_nil ?_
   refine gx_thenN ?_
   exact ⟨false, selfA_i (by kernel_rfl), (Option.some.inj hE16), hS0⟩
 ·rintro _ w11 ⟨b14, hq18, rfl, hS12⟩
  obtain ⟨u13, rfl⟩ := selfA_u hq18
  try dsimp only at hO17
  obtain ⟨c25, hE26, hO27⟩ := bind_in hO17
  refine gx_part (l1 := [_, _, _, _, _, _, _, _, _]) (fun a w => ∃ (b24 : Bool), selfA (fun u23 => ⟨((.pointer (some ⟨g0, 0, none⟩)) :: (.int .i64 p1) :: (.int .i64 p2) :: (.int .i64 p3) :: un 4 ((.bool false) :: (.pointer (some ⟨g0, 0, none⟩)) :: (.bool false) :: (.int .i64 p1) :: dd u13 12 4 ((.bool b14) :: dd u23 17 8 ((.bool b24) :: un 17 ([]))))).toArray, []⟩) a ∧ b24 = c25 ∧ St (foots [boxE g0 [.pointer (some ⟨g0s, 0, none⟩), .slice A0 p0.length c0] 56, boxE g0s [.bool p0s_0] 53]) w0 w [boxE g0 [.pointer (some ⟨g0s, 0, none⟩), .slice A0 p0.length c0] 56, boxE g0s [.bool p0s_0] 53]) rfl ?_ ?_
  ·refine gx_k (.bool b14) w11 ?_
   cases b14 with
   | true =>
    try dsimp only at hE26
    refine gx_k (.int .i64 p1) w11 (gx_k (.pointer (some ⟨g0, 0, none⟩)) w11 (gx_k (.pointer (some ⟨g0, 0, none⟩)) w11 (gx_k (.pointer (some ⟨g0, 1, none⟩)) w11 ?_)))
    refine gx_v (.slice A0 p0.length c0) w11 (run_load1 rfl (by kernel_rfl) (fun _ => by kernel_rfl) (hS12.box 0 rfl 1 rfl)) ?_
    refine gx_k (.int .i64 ((p0.length : Nat) : Int)) w11 ?_
    rcases if_in hE26 with ⟨h29, hE26⟩ | ⟨h29, hE26⟩
    ·refine gx_v (.bool true) w11 (run_boolE (decide_eq_true h29) (by kernel_rfl)) ?_
     refine gx_k (.bool true) w11 ?_
     refine gx_nil ?_
     refine gx_thenN ?_
     exact ⟨true, selfA_i (by kernel_rfl), (Option.some.inj hE26), hS12⟩
    ·refine gx_v (.bool false) w11 (run_boolE (decide_eq_false h29) (by kernel_rfl)) ?_
     refine gx_k (.bool false) w11 ?_
     refine gx_nil ?_
     refine gx_thenN ?_
     exact ⟨false, selfA_i (by kernel_rfl), (Option.some.inj hE26), hS12⟩
   | false =>
    try dsimp only at hE26
    refine gx_o (gx_o (gx_o (gx_o (gx_o (gx_o (gx_o (gx_k (.bool false) w11 ?_)))))))
    refine gx_nil ?_
    refine gx_thenN ?_
    exact ⟨false, selfA_i (by kernel_rfl), (Option.some.inj hE26), hS12⟩
  ·rintro _ w21 ⟨b24, hq28, rfl, hS22⟩
   obtain ⟨u23, rfl⟩ := selfA_u hq28
   try dsimp only at hO27
   refine gx_k (.bool b24) w21 ?_
   cases b24 with
   | true =>
    try dsimp only at hO27
    refine gx_k (.int .i64 p2) w21 (gx_k (.pointer (some ⟨g0, 0, none⟩)) w21 (gx_k (.pointer (some ⟨g0, 0, none⟩)) w21 (gx_k (.pointer (some ⟨g0, 1, none⟩)) w21 ?_)))
    refine gx_v (.slice A0 p0.length c0) w21 (run_load1 rfl (by kernel_rfl) (fun _ => by kernel_rfl) (hS22.box 0 rfl 1 rfl)) ?_
    refine gx_k (.int .i64 ((p0.length : Nat) : Int)) w21 (gx_k (.int .i64 p1) w21 (gx_k (.int .i64 (IntKind.i64.wrap (((p0.length : Nat) : Int) - p1))) w21 (gx_k (.int .i64 p3) w21 ?_)))
    rcases if_in hO27 with ⟨h30, hO27⟩ | ⟨h30, hO27⟩
    ·cases hO27
    ·refine gx_v (.int .i64 (IntKind.i64.wrap (Int.tdiv (IntKind.i64.wrap (((p0.length : Nat) : Int) - p1)) p3))) w21 (run_quo (T := 3) rfl (by kernel_rfl) (by kernel_rfl) rfl h30) ?_
     rcases if_in hO27 with ⟨h31, hO27⟩ | ⟨h31, hO27⟩
     ·refine gx_v (.bool true) w21 (run_boolE (decide_eq_true h31) (by kernel_rfl)) ?_
      refine gx_k (.bool true) w21 ?_
      refine gx_nil ?_
      refine gx_thenN ?_
      refine hK10 _ _ ?_
      refine gx_yes (by kernel_rfl) ?_
      refine gx_seq (fun K32 hK33 => ?_)
      refine gx_region ?_
      refine gx_k (.bool true) w21 ?_
      refine gx_nil ?_
      refine gx_thenN ?_
      refine hK33 _ _ ?_
      refine gx_ret ?_
      refine gx_thenR ?_
      obtain rfl := Option.some.inj hO27
      exact gx_fin (.bool true) (by kernel_rfl) (by kernel_rfl) ⟨_, rfl, rfl, hS22⟩
     ·refine gx_v (.bool false) w21 (run_boolE (decide_eq_false h31) (by kernel_rfl)) ?_
      refine gx_k (.bool false) w21 ?_
      refine gx_nil ?_
      refine gx_thenN ?_
      refine hK10 _ _ ?_
      refine gx_no (by kernel_rfl) ?_
      refine gx_pass ?_
      refine gx_thenN ?_
      refine hK8 _ _ ?_
      refine gx_seq (fun K34 hK35 => ?_)
      refine gx_region ?_
      refine gx_k (.pointer (some ⟨g0, 0, none⟩)) w21 ?_
      refine gx_c (fun v w => v = .pointer (some ⟨g0s, 0, none⟩) ∧ w21 = w) (bTog_ok g0 g0s _ _ _ _ w21 (hS22.get 0 rfl)) ?_
      rintro _ _ ⟨rfl, rfl⟩
      refine gx_k (.pointer (some ⟨g0s, 0, none⟩)) w21 (gx_k (.pointer (some ⟨g0s, 0, none⟩)) w21 ?_)
      refine gx_s (st_store (j := 0) (v := (.bool true)) rfl (by kernel_rfl) (by kernel_rfl) rfl (fun _ => by kernel_rfl) hS22 1 rfl (by show 0 < 1; decide)) ?_
      rintro w36 hS37
      have hS37 : St _ _ w36 [boxE g0 [.pointer (some ⟨g0s, 0, none⟩), .slice A0 p0.length c0] 56, boxE g0s [.bool true] 53] := hS37
      refine gx_nil ?_
      refine gx_thenN ?_
      refine hK35 _ _ ?_
      refine gx_seq (fun K38 hK39 => ?_)
      refine gx_region ?_
      refine gx_k (.bool false) w36 ?_
      refine gx_nil ?_
      refine gx_thenN ?_
      refine hK39 _ _ ?_
      refine gx_ret ?_
      obtain rfl := Option.some.inj hO27
      exact gx_fin (.bool false) (by kernel_rfl) (by kernel_rfl) ⟨_, rfl, rfl, hS37⟩
   | false =>
    try dsimp only at hO27
    refine gx_o (gx_o (gx_o (gx_o (gx_o (gx_o (gx_o (gx_o ?_)))))))
    refine gx_o (gx_o (gx_o (gx_k (.bool false) w21 ?_)))
    refine gx_nil ?_
    refine gx_thenN ?_
    refine hK10 _ _ ?_
    refine gx_no (by kernel_rfl) ?_
    refine gx_pass ?_
    refine gx_thenN ?_
    refine hK8 _ _ ?_
    refine gx_seq (fun K40 hK41 => ?_)
    refine gx_region ?_
    refine gx_k (.pointer (some ⟨g0, 0, none⟩)) w21 ?_
    refine gx_c (fun v w => v = .pointer (some ⟨g0s, 0, none⟩) ∧ w21 = w) (bTog_ok g0 g0s _ _ _ _ w21 (hS22.get 0 rfl)) ?_
    rintro _ _ ⟨rfl, rfl⟩
    refine gx_k (.pointer (some ⟨g0s, 0, none⟩)) w21 (gx_k (.pointer (some ⟨g0s, 0, none⟩)) w21 ?_)
    refine gx_s (st_store (j := 0) (v := (.bool true)) rfl (by kernel_rfl) (by kernel_rfl) rfl (fun _ => by kernel_rfl) hS22 1 rfl (by show 0 < 1; decide)) ?_
    rintro w42 hS43
    have hS43 : St _ _ w42 [boxE g0 [.pointer (some ⟨g0s, 0, none⟩), .slice A0 p0.length c0] 56, boxE g0s [.bool true] 53] := hS43
    refine gx_nil ?_
    refine gx_thenN ?_
    refine hK41 _ _ ?_
    refine gx_seq (fun K44 hK45 => ?_)
    refine gx_region ?_
    refine gx_k (.bool false) w42 ?_
    refine gx_nil ?_
    refine gx_thenN ?_
    refine hK45 _ _ ?_
    refine gx_ret ?_
    obtain rfl := Option.some.inj hO27
    exact gx_fin (.bool false) (by kernel_rfl) (by kernel_rfl) ⟨_, rfl, rfl, hS43⟩

def qByte (N : Nat) (p0 : List Int) (p0s_0 : Bool) (p1 : Int) : Option (Int × Bool) :=
 ((qHas N p0 p0s_0 p1 (1 : Int) (1 : Int)).bind fun (b10, b9) => (match b10 with | true => ((ix p0 p1).bind fun x16 => some (x16, b9)) | false => some (0, b9)))

set_option linter.unusedVariables false in
def qByte_R (p0 : List Int) (p0s_0 : Bool) (p1 : Int) (g0 : Nat) (A0 : Option Addr) (c0 : Nat) (g0s : Nat) (r : Int × Bool) (w0 : World) (v : Value) (w : World) : Prop := v = .int .u8 r.1 ∧ St (foots [boxE g0 [.pointer (some ⟨g0s, 0, none⟩), .slice A0 p0.length c0] 56, boxE g0s [.bool p0s_0] 53]) w0 w [boxE g0 [.pointer (some ⟨g0s, 0, none⟩), .slice A0 p0.length c0] 56, boxE g0s [.bool r.2] 53]

set_option maxRecDepth 100000 in
set_option maxHeartbeats 4000000 in
theorem qByte_ok (N : Nat) (p0 : List Int) (p0s_0 : Bool) (p1 : Int) (g0 : Nat) (A0 : Option Addr) (c0 : Nat) (g0s : Nat) (r : Int × Bool) (hF : qByte N p0 p0s_0 p1 = some r) (w0 : World) (hv0 : Vw (foots [boxE g0 [.pointer (some ⟨g0s, 0, none⟩), .slice A0 p0.length c0] 56, boxE g0s [.bool p0s_0] 53]) .u8 w0 A0 c0 p0) (hl : St (foots [boxE g0 [.pointer (some ⟨g0s, 0, none⟩), .slice A0 p0.length c0] 56, boxE g0s [.bool p0s_0] 53]) w0 w0 [boxE g0 [.pointer (some ⟨g0s, 0, none⟩), .slice A0 p0.length c0] 56, boxE g0s [.bool p0s_0] 53]) :
  Calls Try.prog 31 #[.pointer (some ⟨g0, 0, none⟩), .int .i64 p1] w0 fun e w => ∃ v, e = .returned v ∧ qByte_R p0 p0s_0 p1 g0 A0 c0 g0s r w0 v w := by
 have hS0 := hl
 unfold qByte at hF
 refine calls_of Try.func31 rfl ⟨((.pointer (some ⟨g0, 0, none⟩)) :: (.int .i64 p1) :: un 14 ([])).toArray, []⟩ (by kernel_rfl) ?_
 refine gx_seq (fun K1 hK2 => ?_)
 refine gx_region ?_
 refine gx_k (.int .u8 0) w0 ?_
 refine gx_nil ?_
 refine gx_thenN ?_
 refine hK2 _ _ ?_
 refine gx_seq (fun K3 hK4 => ?_)
 refine gx_seq (fun K5 hK6 => ?_)
 refine gx_region ?_
 refine gx_k (.pointer (some ⟨g0, 0, none⟩)) w0 (gx_k (.int .i64 p1) w0 ?_)
 have hP7 : St _ _ w0 ([boxE g0 [.pointer (some ⟨g0s, 0, none⟩), .slice A0 p0.length c0] 56, boxE g0s [.bool p0s_0] 53] ++ []) := hS0
 obtain ⟨⟨b10, b9⟩, hc8, hF⟩ := bind_in hF
 try dsimp only at hF
 refine gx_c (qHas_R p0 p0s_0 p1 (1 : Int) (1 : Int) g0 A0 c0 g0s (b10, b9) w0) (qHas_ok N p0 p0s_0 p1 (1 : Int) (1 : Int) g0 A0 c0 g0s _ hc8 w0 (hP7.vwA hv0) hP7.part) ?_
 rintro _ w11 ⟨rfl, hT13⟩
 have hS12 : St _ _ w11 [boxE g0 [.pointer (some ⟨g0s, 0, none⟩), .slice A0 p0.length c0] 56, boxE g0s [.bool b9] 53] := hP7.lendN _ hT13
 cases b10 with
 | true =>
  try dsimp only at hF
  refine gx_k (.bool false) w11 ?_
  refine gx_nil ?_
  refine gx_thenN ?_
  refine hK6 _ _ ?_
  refine gx_no (by kernel_rfl) ?_
  refine gx_pass ?_
  refine gx_thenN ?_
  refine hK4 _ _ ?_
  refine gx_seq (fun K14 hK15 => ?_)
  refine gx_region ?_
  refine gx_k (.pointer (some ⟨g0, 0, none⟩)) w11 (gx_k (.pointer (some ⟨g0, 0, none⟩)) w11 (gx_k (.pointer (some ⟨g0, 1, none⟩)) w11 ?_))
  refine gx_v (.slice A0 p0.length c0) w11 (run_load1 rfl (by kernel_rfl) (fun _ => by kernel_rfl) (hS12.box 0 rfl 1 rfl)) ?_
  refine gx_k (.int .i64 p1) w11 ?_
  obtain ⟨x16, hx17, hF⟩ := bind_in hF
  refine gx_v (.pointer (Option.map (fun (p : Addr) => p.add (Int.toNat p1 * 1)) A0)) w11 (run_ixaddr (E := 5) (s := 1) (k := .i64) (c := c0) rfl (by kernel_rfl) (by kernel_rfl) (by kernel_rfl) (fun _ => by kernel_rfl) (ix_in hx17).1 (ix_in hx17).2.1 (num_nil (hS12.view hv0))) ?_
  refine gx_v (.int .u8 x16) w11 (run_loadix rfl (by kernel_rfl) (fun _ => by kernel_rfl) (hS12.view hv0) hx17) ?_
  refine gx_k (.int .u8 x16) w11 ?_
  refine gx_nil ?_
  refine gx_thenN ?_
  refine hK15 _ _ ?_
  refine gx_ret ?_
  obtain rfl := Option.some.inj hF
  exact gx_fin (.int .u8 x16) (by kernel_rfl) (by kernel_rfl) ⟨_, rfl, rfl, hS12⟩
 | false =>
  try dsimp only at hF
  refine gx_k (.bool true) w11 ?_
  refine gx_nil ?_
  refine gx_thenN ?_
  refine hK6 _ _ ?_
  refine gx_yes (by kernel_rfl) ?_
  refine gx_seq (fun K18 hK19 => ?_)
  refine gx_region ?_
  refine gx_k (.int .u8 0) w11 ?_
  refine gx_nil ?_
  refine gx_thenN ?_
  refine hK19 _ _ ?_
  refine gx_ret ?_
  refine gx_thenR ?_
  obtain rfl := Option.some.inj hF
  exact gx_fin (.int .u8 0) (by kernel_rfl) (by kernel_rfl) ⟨_, rfl, rfl, hS12⟩

def qWord (N : Nat) (p0 : List Int) (p0s_0 : Bool) (p1 : Int) : Option (Int × Bool) :=
 ((qHas N p0 p0s_0 p1 (1 : Int) (2 : Int)).bind fun (b10, b9) => (match b10 with | true => ((ix p0 p1).bind fun x18 => ((ix p0 (IntKind.i64.wrap (p1 + 1))).bind fun x20 => some ((ior .u16 (IntKind.u16.wrap ((IntKind.u16.wrap x18) * 256)) (IntKind.u16.wrap x20)), b9))) | false => some (0, b9)))

set_option linter.unusedVariables false in
def qWord_R (p0 : List Int) (p0s_0 : Bool) (p1 : Int) (g0 : Nat) (A0 : Option Addr) (c0 : Nat) (g0s : Nat) (r : Int × Bool) (w0 : World) (v : Value) (w : World) : Prop := v = .int .u16 r.1 ∧ St (foots [boxE g0 [.pointer (some ⟨g0s, 0, none⟩), .slice A0 p0.length c0] 56, boxE g0s [.bool p0s_0] 53]) w0 w [boxE g0 [.pointer (some ⟨g0s, 0, none⟩), .slice A0 p0.length c0] 56, boxE g0s [.bool r.2] 53]

set_option maxRecDepth 100000 in
set_option maxHeartbeats 4000000 in
theorem qWord_ok (N : Nat) (p0 : List Int) (p0s_0 : Bool) (p1 : Int) (g0 : Nat) (A0 : Option Addr) (c0 : Nat) (g0s : Nat) (r : Int × Bool) (hF : qWord N p0 p0s_0 p1 = some r) (w0 : World) (hv0 : Vw (foots [boxE g0 [.pointer (some ⟨g0s, 0, none⟩), .slice A0 p0.length c0] 56, boxE g0s [.bool p0s_0] 53]) .u8 w0 A0 c0 p0) (hl : St (foots [boxE g0 [.pointer (some ⟨g0s, 0, none⟩), .slice A0 p0.length c0] 56, boxE g0s [.bool p0s_0] 53]) w0 w0 [boxE g0 [.pointer (some ⟨g0s, 0, none⟩), .slice A0 p0.length c0] 56, boxE g0s [.bool p0s_0] 53]) :
  Calls Try.prog 14 #[.pointer (some ⟨g0, 0, none⟩), .int .i64 p1] w0 fun e w => ∃ v, e = .returned v ∧ qWord_R p0 p0s_0 p1 g0 A0 c0 g0s r w0 v w := by
 have hS0 := hl
 unfold qWord at hF
 refine calls_of Try.func14 rfl ⟨((.pointer (some ⟨g0, 0, none⟩)) :: (.int .i64 p1) :: un 26 ([])).toArray, []⟩ (by kernel_rfl) ?_
 refine gx_seq (fun K1 hK2 => ?_)
 refine gx_region ?_
 refine gx_k (.int .u16 0) w0 ?_
 refine gx_nil ?_
 refine gx_thenN ?_
 refine hK2 _ _ ?_
 refine gx_seq (fun K3 hK4 => ?_)
 refine gx_seq (fun K5 hK6 => ?_)
 refine gx_region ?_
 refine gx_k (.pointer (some ⟨g0, 0, none⟩)) w0 (gx_k (.int .i64 p1) w0 ?_)
 have hP7 : St _ _ w0 ([boxE g0 [.pointer (some ⟨g0s, 0, none⟩), .slice A0 p0.length c0] 56, boxE g0s [.bool p0s_0] 53] ++ []) := hS0
 obtain ⟨⟨b10, b9⟩, hc8, hF⟩ := bind_in hF
 try dsimp only at hF
 refine gx_c (qHas_R p0 p0s_0 p1 (1 : Int) (2 : Int) g0 A0 c0 g0s (b10, b9) w0) (qHas_ok N p0 p0s_0 p1 (1 : Int) (2 : Int) g0 A0 c0 g0s _ hc8 w0 (hP7.vwA hv0) hP7.part) ?_
 rintro _ w11 ⟨rfl, hT13⟩
 have hS12 : St _ _ w11 [boxE g0 [.pointer (some ⟨g0s, 0, none⟩), .slice A0 p0.length c0] 56, boxE g0s [.bool b9] 53] := hP7.lendN _ hT13
 cases b10 with
 | true =>
  try dsimp only at hF
  refine gx_k (.bool false) w11 ?_
  refine gx_nil ?_
  refine gx_thenN ?_
  refine hK6 _ _ ?_
  refine gx_no (by kernel_rfl) ?_
  refine gx_pass ?_
  refine gx_thenN ?_
  refine hK4 _ _ ?_
  refine gx_seq (fun K14 hK15 => ?_)
  refine gd_start (fun w => St (foots [boxE g0 [.pointer (some ⟨g0s, 0, none⟩), .slice A0 p0.length c0] 56, boxE g0s [.bool p0s_0] 53]) w0 w [boxE g0 [.pointer (some ⟨g0s, 0, none⟩), .slice A0 p0.length c0] 56, boxE g0s [.bool b9] 53]) 20 #[false, false, false, false, false, false, false, false, false, false, false, false, false, false, false, false, false, false, false, false] (by kernel_rfl) (by kernel_rfl) ?_
  have hS17 := hS12.drew
  generalize w11.drew = w16 at hS17 ⊢
  refine gd1 0 { dst := some 9, op := _, type := _, pos := _, after := _, guard := _ } (.pointer (some ⟨g0, 0, none⟩)) rfl hS17 (fun w hSw => by kernel_rfl) ?_
  refine gd1 1 { dst := some 10, op := _, type := _, pos := _, after := _, guard := _ } (.pointer (some ⟨g0, 0, none⟩)) rfl hS17 (fun w hSw => by kernel_rfl) ?_
  refine gd1 2 { dst := some 11, op := _, type := _, pos := _, after := _, guard := _ } (.pointer (some ⟨g0, 1, none⟩)) rfl hS17 (fun w hSw => by kernel_rfl) ?_
  refine gd1 3 { dst := some 12, op := _, type := _, pos := _, after := _, guard := _ } (.slice A0 p0.length c0) rfl hS17 (fun w hSw => run_load1 rfl (by kernel_rfl) (fun _ => by kernel_rfl) (hSw.box 0 rfl 1 rfl)) ?_
  refine gd1 4 { dst := some 13, op := _, type := _, pos := _, after := _, guard := _ } (.int .i64 p1) rfl hS17 (fun w hSw => by kernel_rfl) ?_
  obtain ⟨x18, hx19, hF⟩ := bind_in hF
  refine gd1 5 { dst := some 14, op := _, type := _, pos := _, after := _, guard := _ } (.pointer (Option.map (fun (p : Addr) => p.add (Int.toNat p1 * 1)) A0)) rfl hS17 (fun w hSw => run_ixaddr (E := 5) (s := 1) (k := .i64) (c := c0) rfl (by kernel_rfl) (by kernel_rfl) (by kernel_rfl) (fun _ => by kernel_rfl) (ix_in hx19).1 (ix_in hx19).2.1 (num_nil (hS17.view hv0))) ?_
  refine gd1 6 { dst := some 15, op := _, type := _, pos := _, after := _, guard := _ } (.int .u8 x18) rfl hS17 (fun w hSw => run_loadix rfl (by kernel_rfl) (fun _ => by kernel_rfl) (hSw.view hv0) hx19) ?_
  refine gd1 7 { dst := some 16, op := _, type := _, pos := _, after := _, guard := _ } (.int .u16 (IntKind.u16.wrap x18)) rfl hS17 (fun w hSw => by kernel_rfl) ?_
  refine gd1 8 { dst := some 17, op := _, type := _, pos := _, after := _, guard := _ } (.int .u16 (IntKind.u16.wrap ((IntKind.u16.wrap x18) * 256))) rfl hS17 (fun w hSw => by kernel_rfl) ?_
  refine gd1 9 { dst := some 18, op := _, type := _, pos := _, after := _, guard := _ } (.pointer (some ⟨g0, 0, none⟩)) rfl hS17 (fun w hSw => by kernel_rfl) ?_
  refine gd1 10 { dst := some 19, op := _, type := _, pos := _, after := _, guard := _ } (.pointer (some ⟨g0, 0, none⟩)) rfl hS17 (fun w hSw => by kernel_rfl) ?_
  refine gd1 11 { dst := some 20, op := _, type := _, pos := _, after := _, guard := _ } (.pointer (some ⟨g0, 1, none⟩)) rfl hS17 (fun w hSw => by kernel_rfl) ?_
  refine gd1 12 { dst := some 21, op := _, type := _, pos := _, after := _, guard := _ } (.slice A0 p0.length c0) rfl hS17 (fun w hSw => run_load1 rfl (by kernel_rfl) (fun _ => by kernel_rfl) (hSw.box 0 rfl 1 rfl)) ?_
  refine gd1 13 { dst := some 22, op := _, type := _, pos := _, after := _, guard := _ } (.int .i64 p1) rfl hS17 (fun w hSw => by kernel_rfl) ?_
  refine gd1 14 { dst := some 23, op := _, type := _, pos := _, after := _, guard := _ } (.int .i64 (IntKind.i64.wrap (p1 + 1))) rfl hS17 (fun w hSw => by kernel_rfl) ?_
  obtain ⟨x20, hx21, hF⟩ := bind_in hF
  refine gd1 15 { dst := some 24, op := _, type := _, pos := _, after := _, guard := _ } (.pointer (Option.map (fun (p : Addr) => p.add (Int.toNat (IntKind.i64.wrap (p1 + 1)) * 1)) A0)) rfl hS17 (fun w hSw => run_ixaddr (E := 5) (s := 1) (k := .i64) (c := c0) rfl (by kernel_rfl) (by kernel_rfl) (by kernel_rfl) (fun _ => by kernel_rfl) (ix_in hx21).1 (ix_in hx21).2.1 (num_nil (hS17.view hv0))) ?_
  refine gd1 16 { dst := some 25, op := _, type := _, pos := _, after := _, guard := _ } (.int .u8 x20) rfl hS17 (fun w hSw => run_loadix rfl (by kernel_rfl) (fun _ => by kernel_rfl) (hSw.view hv0) hx21) ?_
  refine gd1 17 { dst := some 26, op := _, type := _, pos := _, after := _, guard := _ } (.int .u16 (IntKind.u16.wrap x20)) rfl hS17 (fun w hSw => by kernel_rfl) ?_
  refine gd1 18 { dst := some 27, op := _, type := _, pos := _, after := _, guard := _ } (.int .u16 (ior .u16 (IntKind.u16.wrap ((IntKind.u16.wrap x18) * 256)) (IntKind.u16.wrap x20))) rfl hS17 (fun w hSw => by kernel_rfl) ?_
  refine gd1 19 { dst := some 4, op := _, type := _, pos := _, after := _, guard := _ } (.int .u16 (ior .u16 (IntKind.u16.wrap ((IntKind.u16.wrap x18) * 256)) (IntKind.u16.wrap x20))) rfl hS17 (fun w hSw => by kernel_rfl) ?_
  refine gd_done (by kernel_rfl) ?_
  refine gx_thenN ?_
  refine hK15 _ _ ?_
  refine gx_ret ?_
  obtain rfl := Option.some.inj hF
  exact gx_fin (.int .u16 (ior .u16 (IntKind.u16.wrap ((IntKind.u16.wrap x18) * 256)) (IntKind.u16.wrap x20))) (by kernel_rfl) (by kernel_rfl) ⟨_, rfl, rfl, hS17⟩
 | false =>
  try dsimp only at hF
  refine gx_k (.bool true) w11 ?_
  refine gx_nil ?_
  refine gx_thenN ?_
  refine hK6 _ _ ?_
  refine gx_yes (by kernel_rfl) ?_
  refine gx_seq (fun K22 hK23 => ?_)
  refine gx_region ?_
  refine gx_k (.int .u16 0) w11 ?_
  refine gx_nil ?_
  refine gx_thenN ?_
  refine hK23 _ _ ?_
  refine gx_ret ?_
  refine gx_thenR ?_
  obtain rfl := Option.some.inj hF
  exact gx_fin (.int .u16 0) (by kernel_rfl) (by kernel_rfl) ⟨_, rfl, rfl, hS12⟩

def qWords_L1 (N : Nat) (p0 : List Int) (p1 : Int) (l16 : List Int) : Nat → Bool → (List Int) → Int → Option (Bool × List Int)
 | 0, _, _, _ => none
 | k40+1, b36, l38, x39 => (if x39 < ((l16.length : Nat) : Int) then ((qWord N p0 b36 (IntKind.i64.wrap (p1 + (IntKind.i64.wrap ((2 : Int) * x39))))).bind fun (x54, b53) => ((ix l38 x39).bind fun _x58 => ((setx l38 x39 x54).bind fun l62 => qWords_L1 N p0 p1 l16 k40 b53 l62 (IntKind.i64.wrap (x39 + 1))))) else some ((b36, l38)))
def qWords (N : Nat) (p0 : List Int) (p0s_0 : Bool) (p1 : Int) (p2 : Int) : Option (List Int × Bool) :=
 ((qHas N p0 p0s_0 p1 p2 (2 : Int)).bind fun (b10, b9) => (match b10 with | true => ((mkx p2).bind fun l16 => ((qWords_L1 N p0 p1 l16 N b9 l16 0 : Option (Bool × List Int)).bind fun (b25, l27) => some (l27, b25))) | false => some ([], b9)))

set_option linter.unusedVariables false in
def qWords_R (p0 : List Int) (p0s_0 : Bool) (p1 : Int) (p2 : Int) (g0 : Nat) (A0 : Option Addr) (c0 : Nat) (g0s : Nat) (r : List Int × Bool) (w0 : World) (v : Value) (w : World) : Prop := ∃ (A0' : Option Addr) (c0' : Nat), v = .slice A0' r.1.length c0' ∧ St (foots [boxE g0 [.pointer (some ⟨g0s, 0, none⟩), .slice A0 p0.length c0] 56, boxE g0s [.bool p0s_0] 53]) w0 w [boxE g0 [.pointer (some ⟨g0s, 0, none⟩), .slice A0 p0.length c0] 56, boxE g0s [.bool r.2] 53, rowE .u16 45 A0' c0' r.1]

set_option maxRecDepth 100000 in
set_option maxHeartbeats 4000000 in
theorem qWords_ok (N : Nat) (p0 : List Int) (p0s_0 : Bool) (p1 : Int) (p2 : Int) (g0 : Nat) (A0 : Option Addr) (c0 : Nat) (g0s : Nat) (r : List Int × Bool) (hF : qWords N p0 p0s_0 p1 p2 = some r) (w0 : World) (hv0 : Vw (foots [boxE g0 [.pointer (some ⟨g0s, 0, none⟩), .slice A0 p0.length c0] 56, boxE g0s [.bool p0s_0] 53]) .u8 w0 A0 c0 p0) (hl : St (foots [boxE g0 [.pointer (some ⟨g0s, 0, none⟩), .slice A0 p0.length c0] 56, boxE g0s [.bool p0s_0] 53]) w0 w0 [boxE g0 [.pointer (some ⟨g0s, 0, none⟩), .slice A0 p0.length c0] 56, boxE g0s [.bool p0s_0] 53]) :
  Calls Try.prog 28 #[.pointer (some ⟨g0, 0, none⟩), .int .i64 p1, .int .i64 p2] w0 fun e w => ∃ v, e = .returned v ∧ qWords_R p0 p0s_0 p1 p2 g0 A0 c0 g0s r w0 v w := by
 have hS0 := hl
 unfold qWords at hF
 refine calls_of Try.func28 rfl ⟨((.pointer (some ⟨g0, 0, none⟩)) :: (.int .i64 p1) :: (.int .i64 p2) :: un 29 ([])).toArray, []⟩ (by kernel_rfl) ?_
 refine gx_seq (fun K1 hK2 => ?_)
 refine gx_region ?_
 refine gx_k (.slice none 0 0) w0 ?_
 refine gx_nil ?_
 refine gx_thenN ?_
 refine hK2 _ _ ?_
 refine gx_seq (fun K3 hK4 => ?_)
 refine gx_seq (fun K5 hK6 => ?_)
 refine gx_region ?_
 refine gx_k (.pointer (some ⟨g0, 0, none⟩)) w0 (gx_k (.int .i64 p1) w0 (gx_k (.int .i64 p2) w0 ?_))
 have hP7 : St _ _ w0 ([boxE g0 [.pointer (some ⟨g0s, 0, none⟩), .slice A0 p0.length c0] 56, boxE g0s [.bool p0s_0] 53] ++ []) := hS0
 obtain ⟨⟨b10, b9⟩, hc8, hF⟩ := bind_in hF
 try dsimp only at hF
 refine gx_c (qHas_R p0 p0s_0 p1 p2 (2 : Int) g0 A0 c0 g0s (b10, b9) w0) (qHas_ok N p0 p0s_0 p1 p2 (2 : Int) g0 A0 c0 g0s _ hc8 w0 (hP7.vwA hv0) hP7.part) ?_
 rintro _ w11 ⟨rfl, hT13⟩
 have hS12 : St _ _ w11 [boxE g0 [.pointer (some ⟨g0s, 0, none⟩), .slice A0 p0.length c0] 56, boxE g0s [.bool b9] 53] := hP7.lendN _ hT13
 cases b10 with
 | true =>
  try dsimp only at hF
  refine gx_k (.bool false) w11 ?_
  refine gx_nil ?_
  refine gx_thenN ?_
  refine hK6 _ _ ?_
  refine gx_no (by kernel_rfl) ?_
  refine gx_pass ?_
  refine gx_thenN ?_
  refine hK4 _ _ ?_
  refine gx_seq (fun K14 hK15 => ?_)
  refine gx_region ?_
  refine gx_k (.int .i64 p2) w11 ?_
  obtain ⟨l16, hm17, hF⟩ := bind_in hF
  refine gx_r (st_make (T := 45) (k := .u16) (by_ := 2) rfl (by kernel_rfl) (by kernel_rfl) (by kernel_rfl) (by kernel_rfl) (by kernel_rfl) hS12 hm17) ?_
  rintro _ w18 ⟨A20, c21, rfl, hS19⟩
  have hS19 : St _ _ w18 [boxE g0 [.pointer (some ⟨g0s, 0, none⟩), .slice A0 p0.length c0] 56, boxE g0s [.bool b9] 53, rowE .u16 45 A20 c21 l16] := hS19
  refine gx_k (.slice A20 l16.length c21) w18 ?_
  refine gx_nil ?_
  refine gx_thenN ?_
  refine hK15 _ _ ?_
  obtain ⟨c28, hE29, hO30⟩ := bind_in hF
  refine gx_cut (fun a w => ∃ (b25 : Bool) (l27 : List Int), selfA (fun u24 => ⟨((.pointer (some ⟨g0, 0, none⟩)) :: (.int .i64 p1) :: (.int .i64 p2) :: un 3 ((.slice none 0 0) :: (.slice A20 l16.length c21) :: (u24 8) :: (.pointer (some ⟨g0, 0, none⟩)) :: (.int .i64 p1) :: (.int .i64 p2) :: (.bool true) :: (.bool false) :: (.int .i64 p2) :: dd u24 15 16 (undef :: []))).toArray, []⟩) a ∧ (b25, l27) = c28 ∧ St (foots [boxE g0 [.pointer (some ⟨g0s, 0, none⟩), .slice A0 p0.length c0] 56, boxE g0s [.bool p0s_0] 53]) w0 w [boxE g0 [.pointer (some ⟨g0s, 0, none⟩), .slice A0 p0.length c0] 56, boxE g0s [.bool b25] 53, rowE .u16 45 A20 c21 l27] ∧ l16.length = l27.length) ?_ ?_
  ·refine gx_seq (fun K31 hK32 => ?_)
   refine gx_region ?_
   refine gx_k (.slice A20 l16.length c21) w18 (gx_k (.int .i64 ((l16.length : Nat) : Int)) w18 (gx_k (.int .i64 0) w18 ?_))
   refine gx_nil ?_
   refine gx_thenN ?_
   refine hK32 _ _ ?_
   refine gx_block ?_
   refine gx_loop (fun k a w => ∃ (b36 : Bool) (l38 : List Int) (x39 : Int), selfA (fun u35 => ⟨((.pointer (some ⟨g0, 0, none⟩)) :: (.int .i64 p1) :: (.int .i64 p2) :: un 3 ((.slice none 0 0) :: (.slice A20 l16.length c21) :: (u35 8) :: (.pointer (some ⟨g0, 0, none⟩)) :: (.int .i64 p1) :: (.int .i64 p2) :: (.bool true) :: (.bool false) :: (.int .i64 p2) :: dd u35 15 2 ((.int .i64 ((l16.length : Nat) : Int)) :: (.int .i64 x39) :: dd u35 19 12 (undef :: [])))).toArray, []⟩) a ∧ qWords_L1 N p0 p1 l16 k b36 l38 x39 = some c28 ∧ St (foots [boxE g0 [.pointer (some ⟨g0s, 0, none⟩), .slice A0 p0.length c0] 56, boxE g0s [.bool p0s_0] 53]) w0 w [boxE g0 [.pointer (some ⟨g0s, 0, none⟩), .slice A0 p0.length c0] 56, boxE g0s [.bool b36] 53, rowE .u16 45 A20 c21 l38] ∧ l16.length = l38.length) N ?_ ?_
   ·exact ⟨b9, l16, 0, selfA_i (by kernel_rfl), hE29, hS19, rfl⟩
   ·rintro k40 _ w33 ⟨b36, l38, x39, hq66, hL41, hS34, hn37⟩
    obtain ⟨u35, rfl⟩ := selfA_u hq66
    cases k40 with
    | zero => cases hL41
    | succ k40 =>
     first | rw [qWords_L1] at hL41 | unfold qWords_L1 at hL41
     refine gx_seq (fun K42 hK43 => ?_)
     refine gx_region ?_
     rcases if_in hL41 with ⟨h44, hL41⟩ | ⟨h44, hL41⟩
     ·refine gx_v (.bool true) w33 (run_boolE (decide_eq_true h44) (by kernel_rfl)) ?_
      refine gx_nil ?_
      refine gx_thenN ?_
      refine hK43 _ _ ?_
      refine gx_seq (fun K45 hK46 => ?_)
      refine gx_yes (by kernel_rfl) ?_
      refine gx_pass ?_
      refine gx_thenN ?_
      refine hK46 _ _ ?_
      refine gx_seq (fun K47 hK48 => ?_)
      refine gx_block ?_
      refine gx_seq (fun K49 hK50 => ?_)
      refine gx_region ?_
      refine gx_k (.int .i64 x39) w33 (gx_k (.int .i64 x39) w33 ?_)
      refine gx_nil ?_
      refine gx_thenN ?_
      refine hK50 _ _ ?_
      refine gx_region ?_
      refine gx_k (.slice A20 l16.length c21) w33 (gx_k (.int .i64 x39) w33 (gx_k (.pointer (some ⟨g0, 0, none⟩)) w33 (gx_k (.int .i64 p1) w33 (gx_k (.int .i64 x39) w33 (gx_k (.int .i64 (IntKind.i64.wrap ((2 : Int) * x39))) w33 (gx_k (.int .i64 (IntKind.i64.wrap (p1 + (IntKind.i64.wrap ((2 : Int) * x39))))) w33 ?_))))))
      have hP51 : St _ _ w33 ([boxE g0 [.pointer (some ⟨g0s, 0, none⟩), .slice A0 p0.length c0] 56, boxE g0s [.bool b36] 53] ++ [rowE .u16 45 A20 c21 l38]) := hS34
      obtain ⟨⟨x54, b53⟩, hc52, hL41⟩ := bind_in hL41
      try dsimp only at hL41
      refine gx_c (qWord_R p0 b36 (IntKind.i64.wrap (p1 + (IntKind.i64.wrap ((2 : Int) * x39)))) g0 A0 c0 g0s (x54, b53) w33) (qWord_ok N p0 b36 (IntKind.i64.wrap (p1 + (IntKind.i64.wrap ((2 : Int) * x39)))) g0 A0 c0 g0s _ hc52 w33 (hP51.vwA hv0) hP51.part) ?_
      rintro _ w55 ⟨rfl, hT57⟩
      have hS56 : St _ _ w55 [rowE .u16 45 A20 c21 l38, boxE g0 [.pointer (some ⟨g0s, 0, none⟩), .slice A0 p0.length c0] 56, boxE g0s [.bool b53] 53] := hP51.lendN _ hT57
      obtain ⟨x58, hx59, hL41⟩ := bind_in hL41
      refine gx_v (.pointer (Option.map (fun (p : Addr) => p.add (Int.toNat x39 * 1)) A20)) w55 (run_ixaddr (E := 45) (s := 1) (k := .i64) (c := c21) rfl (by kernel_rfl) (by kernel_rfl) (by kernel_rfl) (fun _ => by kernel_rfl) (ix_in hx59).1 (lt_len hn37 (ix_in hx59).2.1) (nil_len hn37 (num_nil (hS56.row 0 rfl).1))) ?_
      obtain ⟨l62, hx63, hL41⟩ := bind_in hL41
      refine gx_s (st_storeix rfl (by kernel_rfl) (by kernel_rfl) (fun _ => by kernel_rfl) hS56 0 rfl hx63) ?_
      rintro w60 hS61
      have hS61 : St _ _ w60 [rowE .u16 45 A20 c21 l62, boxE g0 [.pointer (some ⟨g0s, 0, none⟩), .slice A0 p0.length c0] 56, boxE g0s [.bool b53] 53] := hS61
      refine gx_nil ?_
      refine gx_blkN ?_
      refine gx_thenN ?_
      refine hK48 _ _ ?_
      refine gx_region ?_
      refine gx_k (.int .i64 (IntKind.i64.wrap (x39 + 1))) w60 (gx_k (.int .i64 (IntKind.i64.wrap (x39 + 1))) w60 ?_)
      refine gx_nil ?_
      refine gx_thenN ?_
      exact ⟨k40, Nat.lt_succ_self k40, b53, l62, (IntKind.i64.wrap (x39 + 1)), selfA_i (by kernel_rfl), hL41, (hS61.pick [1, 2, 0] rfl rfl), (hn37.trans (setx_len hx63).symm)⟩
     ·refine gx_v (.bool false) w33 (run_boolE (decide_eq_false h44) (by kernel_rfl)) ?_
      refine gx_nil ?_
      refine gx_thenN ?_
      refine hK43 _ _ ?_
      refine gx_seq (fun K64 hK65 => ?_)
      refine gx_no (by kernel_rfl) ?_
      refine gx_exit ?_
      refine gx_thenE ?_
      refine gx_thenE ?_
      refine gx_blkE ?_
      refine gx_thenN ?_
      exact ⟨b36, l38, selfA_i (by kernel_rfl), (Option.some.inj hL41), hS34, hn37⟩
  ·rintro _ w22 ⟨b25, l27, hq69, rfl, hS23, hn26⟩
   obtain ⟨u24, rfl⟩ := selfA_u hq69
   try dsimp only at hO30
   refine gx_seq (fun K67 hK68 => ?_)
   refine gx_region ?_
   refine gx_k (.slice A20 l16.length c21) w22 (gx_k (.slice A20 l16.length c21) w22 ?_)
   refine gx_nil ?_
   refine gx_thenN ?_
   refine hK68 _ _ ?_
   refine gx_ret ?_
   obtain rfl := Option.some.inj hO30
   exact gx_fin (.slice A20 l16.length c21) (by kernel_rfl) (by kernel_rfl) ⟨_, rfl, A20, c21, by rw [← hn26] <;> kernel_rfl, hS23⟩
 | false =>
  try dsimp only at hF
  refine gx_k (.bool true) w11 ?_
  refine gx_nil ?_
  refine gx_thenN ?_
  refine hK6 _ _ ?_
  refine gx_yes (by kernel_rfl) ?_
  refine gx_seq (fun K70 hK71 => ?_)
  refine gx_region ?_
  refine gx_k (.slice none 0 0) w11 ?_
  refine gx_nil ?_
  refine gx_thenN ?_
  refine hK71 _ _ ?_
  refine gx_ret ?_
  refine gx_thenR ?_
  have hS72 : St _ _ w11 [boxE g0 [.pointer (some ⟨g0s, 0, none⟩), .slice A0 p0.length c0] 56, boxE g0s [.bool b9] 53, rowE .u16 45 none 0 ([])] := hS12.nilrow .u16 45
  obtain rfl := Option.some.inj hF
  exact gx_fin (.slice none (([] : List Int).length) 0) (by kernel_rfl) (by kernel_rfl) ⟨_, rfl, none, 0, rfl, hS72⟩

end Go.Proofs.Ytcleaepcjbfmhaa
