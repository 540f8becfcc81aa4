/-
 Readers.
-/
import Derived.Test.YtcleaepcjbfmhaaGm
namespace Go.Proofs.Ytcleaepcjbfmhaa
open Go Go.RowKit

theorem bTog_ok (g gs : Nat) (A : Option Addr) (n c : Nat) (T : Nat) (w : World) (hr : w.heap[g]? = some (.cells [.pointer (some ⟨gs, 0, none⟩), .slice A n c].toArray T (0, 0))) :
  Calls Try.prog 40 #[.pointer (some ⟨g, 0, none⟩)] w fun e w' => ∃ v, e = .returned v ∧ (v = .pointer (some ⟨gs, 0, none⟩) ∧ w = w') := by
 have hc : w.cell? ⟨g, 0, none⟩ = some (.pointer (some ⟨gs, 0, none⟩)) := by rw [cell_of_row w g 0 _ _ _ hr]; rfl
 go_enter Try.func40, Try.ntmps40
 go_wp2_with fail
 go_ret
 exact ⟨_, rfl, rfl, rfl⟩

def bBad (_N : Nat) (_p0 : List Int) (q0 : Bool) : Option (Bool × Bool) :=
 some (q0, q0)

def bBad_R (p0 : List Int) (g0 gs0 : Nat) (A0 : Option Addr) (c0 : Nat) (r : Bool × Bool) (w0 : World) (v : Value) (w : World) : Prop := v = .bool r.1 ∧ St [g0, gs0] w0 w [boxE g0 [.pointer (some ⟨gs0, 0, none⟩), .slice A0 p0.length c0] 56, boxE gs0 [.bool r.2] 53]

set_option maxRecDepth 100000 in
set_option maxHeartbeats 4000000 in
theorem bBad_ok (N : Nat) (p0 : List Int) (q0 : Bool) (g0 gs0 : Nat) (A0 : Option Addr) (c0 : Nat) (r : Bool × Bool) (hF : bBad N p0 q0 = some r) (w0 : World) (hr0 : w0.heap[g0]? = some (.cells [.pointer (some ⟨gs0, 0, none⟩), .slice A0 p0.length c0].toArray 56 (0, 0))) (hs0 : w0.heap[gs0]? = some (.cells [.bool q0].toArray 53 (0, 0))) (hne0 : g0 ≠ gs0) (_hv0 : Vw [g0, gs0] .u8 w0 A0 c0 p0) :
  Calls Try.prog 15 #[.pointer (some ⟨g0, 0, none⟩)] w0 fun e w => ∃ v, e = .returned v ∧ bBad_R p0 g0 gs0 A0 c0 r w0 v w := by
 have hS0 := St.lent hr0 hs0 hne0
 unfold bBad at hF
 refine calls_of Try.func15 rfl ⟨((.pointer (some ⟨g0, 0, none⟩)) :: undef :: undef :: undef :: undef :: undef :: undef :: undef :: undef :: undef :: undef :: undef :: undef :: undef :: undef :: undef :: undef :: undef :: undef :: undef :: undef :: []).toArray, []⟩ (by kernel_rfl) ?_
 refine gx_seq (fun K1 hK2 => ?_)
 refine gx_region ?_
 refine gx_k (.bool false) w0 ?_
 refine gx_nil ?_
 refine gx_thenN ?_
 refine hK2 _ _ ?_
 refine gx_seq (fun K3 hK4 => ?_)
 refine gx_region ?_
 refine gx_k (.pointer (some ⟨g0, 0, none⟩)) w0 (gx_k (.bool false) w0 (gx_k (.bool false) w0 (gx_k (.pointer (some ⟨g0, 0, none⟩)) w0 (gx_k (.pointer (some ⟨g0, 0, none⟩)) w0 (gx_k (.pointer (some ⟨g0, 0, none⟩)) w0 ?_)))))
 refine gx_v (.pointer (some ⟨gs0, 0, none⟩)) w0 (run_load1 rfl (by kernel_rfl) (fun _ => by kernel_rfl) (hS0.box 0 rfl 0 rfl)) ?_
 refine gx_k (.bool true) w0 (gx_k (.bool true) w0 (gx_k (.pointer (some ⟨g0, 0, none⟩)) w0 (gx_k (.pointer (some ⟨g0, 0, none⟩)) w0 (gx_k (.pointer (some ⟨g0, 0, none⟩)) w0 ?_))))
 refine gx_v (.pointer (some ⟨gs0, 0, none⟩)) w0 (run_load1 rfl (by kernel_rfl) (fun _ => by kernel_rfl) (hS0.box 0 rfl 0 rfl)) ?_
 refine gx_k (.pointer (some ⟨gs0, 0, none⟩)) w0 (gx_k (.pointer (some ⟨gs0, 0, none⟩)) w0 ?_)
 refine gx_v (.bool q0) w0 (run_load1 rfl (by kernel_rfl) (fun _ => by kernel_rfl) (hS0.box 1 rfl 0 rfl)) ?_
 refine gx_k (.bool q0) w0 (gx_k (.bool q0) w0 (gx_k (.bool q0) w0 ?_))
 refine gx_nil ?_
 refine gx_thenN ?_
 refine hK4 _ _ ?_
 refine gx_ret ?_
 obtain rfl := Option.some.inj hF
 exact gx_fin (.bool q0) (by kernel_rfl) (by kernel_rfl) ⟨_, rfl, rfl, hS0⟩

def bHas (_N : Nat) (p0 : List Int) (q0 : Bool) (p1 : Int) (p2 : Int) (p3 : Int) : Option (Bool × Bool) :=
 (if p1 ≥ 0 then (if p2 ≥ 0 then (if p1 ≤ ((p0.length : Nat) : Int) then (if p3 = 0 then none else (if p2 ≤ (IntKind.i64.wrap (Int.tdiv (IntKind.i64.wrap (((p0.length : Nat) : Int) - p1)) p3)) then some (true, q0) else some (false, true))) else some (false, true)) else some (false, true)) else some (false, true))

def bHas_R (p0 : List Int) (g0 gs0 : Nat) (A0 : Option Addr) (c0 : Nat) (r : Bool × Bool) (w0 : World) (v : Value) (w : World) : Prop := v = .bool r.1 ∧ St [g0, gs0] w0 w [boxE g0 [.pointer (some ⟨gs0, 0, none⟩), .slice A0 p0.length c0] 56, boxE gs0 [.bool r.2] 53]

set_option maxRecDepth 100000 in
set_option maxHeartbeats 4000000 in
theorem bHas_ok (N : Nat) (p0 : List Int) (q0 : Bool) (p1 : Int) (p2 : Int) (p3 : Int) (g0 gs0 : Nat) (A0 : Option Addr) (c0 : Nat) (r : Bool × Bool) (hF : bHas N p0 q0 p1 p2 p3 = some r) (w0 : World) (hr0 : w0.heap[g0]? = some (.cells [.pointer (some ⟨gs0, 0, none⟩), .slice A0 p0.length c0].toArray 56 (0, 0))) (hs0 : w0.heap[gs0]? = some (.cells [.bool q0].toArray 53 (0, 0))) (hne0 : g0 ≠ gs0) (_hv0 : Vw [g0, gs0] .u8 w0 A0 c0 p0) :
  Calls Try.prog 27 #[.pointer (some ⟨g0, 0, none⟩), .int .i64 p1, .int .i64 p2, .int .i64 p3] w0 fun e w => ∃ v, e = .returned v ∧ bHas_R p0 g0 gs0 A0 c0 r w0 v w := by
 have hS0 := St.lent hr0 hs0 hne0
 unfold bHas at hF
 refine calls_of Try.func27 rfl ⟨((.pointer (some ⟨g0, 0, none⟩)) :: (.int .i64 p1) :: (.int .i64 p2) :: (.int .i64 p3) :: undef :: undef :: undef :: undef :: undef :: undef :: undef :: undef :: undef :: undef :: undef :: undef :: undef :: undef :: undef :: undef :: undef :: undef :: undef :: undef :: undef :: undef :: undef :: undef :: undef :: undef :: undef :: undef :: undef :: undef :: undef :: undef :: undef :: undef :: undef :: undef :: undef :: undef :: undef :: []).toArray, []⟩ (by kernel_rfl) ?_
 refine gx_seq (fun K1 hK2 => ?_)
 refine gx_region ?_
 refine gx_k (.bool false) w0 ?_
 refine gx_nil ?_
 refine gx_thenN ?_
 refine hK2 _ _ ?_
 refine gx_seq (fun K3 hK4 => ?_)
 refine gx_seq (fun K5 hK6 => ?_)
 refine gx_region ?_
 refine gx_k (.pointer (some ⟨g0, 0, none⟩)) w0 (gx_k (.bool false) w0 ?_)
 refine gx_nil ?_
 refine gx_thenN ?_
 refine hK6 _ _ ?_
 refine gx_no (by kernel_rfl) ?_
 refine gx_pass ?_
 refine gx_thenN ?_
 refine hK4 _ _ ?_
 refine gx_seq (fun K7 hK8 => ?_)
 refine gx_seq (fun K9 hK10 => ?_)
 refine gx_region ?_
 refine gx_k (.int .i64 p1) w0 ?_
 rcases if_in hF with ⟨h11, hF⟩ | ⟨h11, hF⟩
 ·refine gx_v (.bool true) w0 (run_boolE (decide_eq_true h11) (by kernel_rfl)) ?_
  refine gx_k (.bool true) w0 (gx_k (.int .i64 p2) w0 ?_)
  rcases if_in hF with ⟨h12, hF⟩ | ⟨h12, hF⟩
  ·refine gx_v (.bool true) w0 (run_boolE (decide_eq_true h12) (by kernel_rfl)) ?_
   refine gx_k (.bool true) w0 (gx_k (.bool true) w0 (gx_k (.int .i64 p1) w0 (gx_k (.pointer (some ⟨g0, 0, none⟩)) w0 (gx_k (.pointer (some ⟨g0, 0, none⟩)) w0 (gx_k (.pointer (some ⟨g0, 1, none⟩)) w0 ?_)))))
   refine gx_v (.slice A0 p0.length c0) w0 (run_load1 rfl (by kernel_rfl) (fun _ => by kernel_rfl) (hS0.box 0 rfl 1 rfl)) ?_
   refine gx_k (.int .i64 ((p0.length : Nat) : Int)) w0 ?_
   rcases if_in hF with ⟨h13, hF⟩ | ⟨h13, hF⟩
   ·refine gx_v (.bool true) w0 (run_boolE (decide_eq_true h13) (by kernel_rfl)) ?_
    refine gx_k (.bool true) w0 (gx_k (.bool true) w0 (gx_k (.int .i64 p2) w0 (gx_k (.pointer (some ⟨g0, 0, none⟩)) w0 (gx_k (.pointer (some ⟨g0, 0, none⟩)) w0 (gx_k (.pointer (some ⟨g0, 1, none⟩)) w0 ?_)))))
    refine gx_v (.slice A0 p0.length c0) w0 (run_load1 rfl (by kernel_rfl) (fun _ => by kernel_rfl) (hS0.box 0 rfl 1 rfl)) ?_
    refine gx_k (.int .i64 ((p0.length : Nat) : Int)) w0 (gx_k (.int .i64 p1) w0 (gx_k (.int .i64 (IntKind.i64.wrap (((p0.length : Nat) : Int) - p1))) w0 (gx_k (.int .i64 p3) w0 ?_)))
    rcases if_in hF with ⟨h14, hF⟩ | ⟨h14, hF⟩
    ·cases hF
    ·refine gx_v (.int .i64 (IntKind.i64.wrap (Int.tdiv (IntKind.i64.wrap (((p0.length : Nat) : Int) - p1)) p3))) w0 (run_quo (T := 3) rfl (by kernel_rfl) (by kernel_rfl) rfl h14) ?_
     rcases if_in hF with ⟨h15, hF⟩ | ⟨h15, hF⟩
     ·refine gx_v (.bool true) w0 (run_boolE (decide_eq_true h15) (by kernel_rfl)) ?_
      refine gx_k (.bool true) w0 ?_
      refine gx_nil ?_
      refine gx_thenN ?_
      refine hK10 _ _ ?_
      refine gx_yes (by kernel_rfl) ?_
      refine gx_seq (fun K16 hK17 => ?_)
      refine gx_region ?_
      refine gx_k (.bool true) w0 ?_
      refine gx_nil ?_
      refine gx_thenN ?_
      refine hK17 _ _ ?_
      refine gx_ret ?_
      refine gx_thenR ?_
      obtain rfl := Option.some.inj hF
      exact gx_fin (.bool true) (by kernel_rfl) (by kernel_rfl) ⟨_, rfl, rfl, hS0⟩
     ·refine gx_v (.bool false) w0 (run_boolE (decide_eq_false h15) (by kernel_rfl)) ?_
      refine gx_k (.bool false) w0 ?_
      refine gx_nil ?_
      refine gx_thenN ?_
      refine hK10 _ _ ?_
      refine gx_no (by kernel_rfl) ?_
      refine gx_pass ?_
      refine gx_thenN ?_
      refine hK8 _ _ ?_
      refine gx_seq (fun K18 hK19 => ?_)
      refine gx_region ?_
      refine gx_k (.pointer (some ⟨g0, 0, none⟩)) w0 ?_
      refine gx_c (fun v w => v = .pointer (some ⟨gs0, 0, none⟩) ∧ w0 = w) (bTog_ok g0 gs0 _ _ _ _ w0 (hS0.get 0 rfl)) ?_
      rintro _ _ ⟨rfl, rfl⟩
      refine gx_k (.pointer (some ⟨gs0, 0, none⟩)) w0 (gx_k (.pointer (some ⟨gs0, 0, none⟩)) w0 ?_)
      refine gx_s (st_store (j := 0) (v := (.bool true)) rfl (by kernel_rfl) (by kernel_rfl) rfl (fun _ => by kernel_rfl) hS0 1 rfl (by show 0 < 1; decide)) ?_
      rintro w22 hS23
      have hS23 : St _ _ w22 [boxE g0 [.pointer (some ⟨gs0, 0, none⟩), .slice A0 p0.length c0] 56, boxE gs0 [.bool true] 53] := hS23
      refine gx_nil ?_
      refine gx_thenN ?_
      refine hK19 _ _ ?_
      refine gx_seq (fun K24 hK25 => ?_)
      refine gx_region ?_
      refine gx_k (.bool false) w22 ?_
      refine gx_nil ?_
      refine gx_thenN ?_
      refine hK25 _ _ ?_
      refine gx_ret ?_
      obtain rfl := Option.some.inj hF
      exact gx_fin (.bool false) (by kernel_rfl) (by kernel_rfl) ⟨_, rfl, rfl, hS23⟩
   ·refine gx_v (.bool false) w0 (run_boolE (decide_eq_false h13) (by kernel_rfl)) ?_
    refine gx_k (.bool false) w0 (gx_k (.bool false) w0 (gx_o (gx_o (gx_o (gx_o (gx_o (gx_o ?_)))))))
    refine gx_o (gx_o (gx_o (gx_o (gx_o (gx_k (.bool false) w0 ?_)))))
    refine gx_nil ?_
    refine gx_thenN ?_
    refine hK10 _ _ ?_
    refine gx_no (by kernel_rfl) ?_
    refine gx_pass ?_
    refine gx_thenN ?_
    refine hK8 _ _ ?_
    refine gx_seq (fun K26 hK27 => ?_)
    refine gx_region ?_
    refine gx_k (.pointer (some ⟨g0, 0, none⟩)) w0 ?_
    refine gx_c (fun v w => v = .pointer (some ⟨gs0, 0, none⟩) ∧ w0 = w) (bTog_ok g0 gs0 _ _ _ _ w0 (hS0.get 0 rfl)) ?_
    rintro _ _ ⟨rfl, rfl⟩
    refine gx_k (.pointer (some ⟨gs0, 0, none⟩)) w0 (gx_k (.pointer (some ⟨gs0, 0, none⟩)) w0 ?_)
    refine gx_s (st_store (j := 0) (v := (.bool true)) rfl (by kernel_rfl) (by kernel_rfl) rfl (fun _ => by kernel_rfl) hS0 1 rfl (by show 0 < 1; decide)) ?_
    rintro w30 hS31
    have hS31 : St _ _ w30 [boxE g0 [.pointer (some ⟨gs0, 0, none⟩), .slice A0 p0.length c0] 56, boxE gs0 [.bool true] 53] := hS31
    refine gx_nil ?_
    refine gx_thenN ?_
    refine hK27 _ _ ?_
    refine gx_seq (fun K32 hK33 => ?_)
    refine gx_region ?_
    refine gx_k (.bool false) w30 ?_
    refine gx_nil ?_
    refine gx_thenN ?_
    refine hK33 _ _ ?_
    refine gx_ret ?_
    obtain rfl := Option.some.inj hF
    exact gx_fin (.bool false) (by kernel_rfl) (by kernel_rfl) ⟨_, rfl, rfl, hS31⟩
  ·refine gx_v (.bool false) w0 (run_boolE (decide_eq_false h12) (by kernel_rfl)) ?_
   refine gx_k (.bool false) w0 (gx_k (.bool false) w0 (gx_o (gx_o (gx_o (gx_o (gx_o (gx_o ?_)))))))
   refine gx_o (gx_k (.bool false) w0 (gx_k (.bool false) w0 (gx_o (gx_o (gx_o (gx_o (gx_o ?_)))))))
   refine gx_o (gx_o (gx_o (gx_o (gx_o (gx_o (gx_k (.bool false) w0 ?_))))))
   refine gx_nil ?_
   refine gx_thenN ?_
   refine hK10 _ _ ?_
   refine gx_no (by kernel_rfl) ?_
   refine gx_pass ?_
   refine gx_thenN ?_
   refine hK8 _ _ ?_
   refine gx_seq (fun K34 hK35 => ?_)
   refine gx_region ?_
   refine gx_k (.pointer (some ⟨g0, 0, none⟩)) w0 ?_
   refine gx_c (fun v w => v = .pointer (some ⟨gs0, 0, none⟩) ∧ w0 = w) (bTog_ok g0 gs0 _ _ _ _ w0 (hS0.get 0 rfl)) ?_
   rintro _ _ ⟨rfl, rfl⟩
   refine gx_k (.pointer (some ⟨gs0, 0, none⟩)) w0 (gx_k (.pointer (some ⟨gs0, 0, none⟩)) w0 ?_)
   refine gx_s (st_store (j := 0) (v := (.bool true)) rfl (by kernel_rfl) (by kernel_rfl) rfl (fun _ => by kernel_rfl) hS0 1 rfl (by show 0 < 1; decide)) ?_
   rintro w38 hS39
   have hS39 : St _ _ w38 [boxE g0 [.pointer (some ⟨gs0, 0, none⟩), .slice A0 p0.length c0] 56, boxE gs0 [.bool true] 53] := hS39
   refine gx_nil ?_
   refine gx_thenN ?_
   refine hK35 _ _ ?_
   refine gx_seq (fun K40 hK41 => ?_)
   refine gx_region ?_
   refine gx_k (.bool false) w38 ?_
   refine gx_nil ?_
   refine gx_thenN ?_
   refine hK41 _ _ ?_
   refine gx_ret ?_
   obtain rfl := Option.some.inj hF
   exact gx_fin (.bool false) (by kernel_rfl) (by kernel_rfl) ⟨_, rfl, rfl, hS39⟩
 ·refine gx_v (.bool false) w0 (run_boolE (decide_eq_false h11) (by kernel_rfl)) ?_
  refine gx_k (.bool false) w0 (gx_o (gx_o (gx_k (.bool false) w0 (gx_k (.bool false) w0 (gx_o (gx_o (gx_o ?_)))))))
  refine gx_o (gx_o (gx_o (gx_o (gx_k (.bool false) w0 (gx_k (.bool false) w0 (gx_o (gx_o ?_)))))))
  refine gx_o (gx_o (gx_o (gx_o (gx_o (gx_o (gx_o (gx_o ?_)))))))
  refine gx_o (gx_k (.bool false) w0 ?_)
  refine gx_nil ?_
  refine gx_thenN ?_
  refine hK10 _ _ ?_
  refine gx_no (by kernel_rfl) ?_
  refine gx_pass ?_
  refine gx_thenN ?_
  refine hK8 _ _ ?_
  refine gx_seq (fun K42 hK43 => ?_)
  refine gx_region ?_
  refine gx_k (.pointer (some ⟨g0, 0, none⟩)) w0 ?_
  refine gx_c (fun v w => v = .pointer (some ⟨gs0, 0, none⟩) ∧ w0 = w) (bTog_ok g0 gs0 _ _ _ _ w0 (hS0.get 0 rfl)) ?_
  rintro _ _ ⟨rfl, rfl⟩
  refine gx_k (.pointer (some ⟨gs0, 0, none⟩)) w0 (gx_k (.pointer (some ⟨gs0, 0, none⟩)) w0 ?_)
  refine gx_s (st_store (j := 0) (v := (.bool true)) rfl (by kernel_rfl) (by kernel_rfl) rfl (fun _ => by kernel_rfl) hS0 1 rfl (by show 0 < 1; decide)) ?_
  rintro w46 hS47
  have hS47 : St _ _ w46 [boxE g0 [.pointer (some ⟨gs0, 0, none⟩), .slice A0 p0.length c0] 56, boxE gs0 [.bool true] 53] := hS47
  refine gx_nil ?_
  refine gx_thenN ?_
  refine hK43 _ _ ?_
  refine gx_seq (fun K48 hK49 => ?_)
  refine gx_region ?_
  refine gx_k (.bool false) w46 ?_
  refine gx_nil ?_
  refine gx_thenN ?_
  refine hK49 _ _ ?_
  refine gx_ret ?_
  obtain rfl := Option.some.inj hF
  exact gx_fin (.bool false) (by kernel_rfl) (by kernel_rfl) ⟨_, rfl, rfl, hS47⟩

def bByte (N : Nat) (p0 : List Int) (q0 : Bool) (p1 : Int) : Option (Int × Bool) :=
 ((bHas N p0 q0 p1 (1 : Int) (1 : Int)).bind fun (b11, b12) => (match b11 with | true => ((ix p0 p1).bind fun x16 => some (x16, b12)) | false => some (0, b12)))

def bByte_R (p0 : List Int) (g0 gs0 : Nat) (A0 : Option Addr) (c0 : Nat) (r : Int × Bool) (w0 : World) (v : Value) (w : World) : Prop := v = .int .u8 r.1 ∧ St [g0, gs0] w0 w [boxE g0 [.pointer (some ⟨gs0, 0, none⟩), .slice A0 p0.length c0] 56, boxE gs0 [.bool r.2] 53]

set_option maxRecDepth 100000 in
set_option maxHeartbeats 4000000 in
theorem bByte_ok (N : Nat) (p0 : List Int) (q0 : Bool) (p1 : Int) (g0 gs0 : Nat) (A0 : Option Addr) (c0 : Nat) (r : Int × Bool) (hF : bByte N p0 q0 p1 = some r) (w0 : World) (hr0 : w0.heap[g0]? = some (.cells [.pointer (some ⟨gs0, 0, none⟩), .slice A0 p0.length c0].toArray 56 (0, 0))) (hs0 : w0.heap[gs0]? = some (.cells [.bool q0].toArray 53 (0, 0))) (hne0 : g0 ≠ gs0) (hv0 : Vw [g0, gs0] .u8 w0 A0 c0 p0) :
  Calls Try.prog 31 #[.pointer (some ⟨g0, 0, none⟩), .int .i64 p1] w0 fun e w => ∃ v, e = .returned v ∧ bByte_R p0 g0 gs0 A0 c0 r w0 v w := by
 have hS0 := St.lent hr0 hs0 hne0
 unfold bByte at hF
 refine calls_of Try.func31 rfl ⟨((.pointer (some ⟨g0, 0, none⟩)) :: (.int .i64 p1) :: undef :: undef :: undef :: undef :: undef :: undef :: undef :: undef :: undef :: undef :: undef :: undef :: undef :: undef :: []).toArray, []⟩ (by kernel_rfl) ?_
 refine gx_seq (fun K1 hK2 => ?_)
 refine gx_region ?_
 refine gx_k (.int .u8 0) w0 ?_
 refine gx_nil ?_
 refine gx_thenN ?_
 refine hK2 _ _ ?_
 refine gx_seq (fun K3 hK4 => ?_)
 refine gx_seq (fun K5 hK6 => ?_)
 refine gx_region ?_
 refine gx_k (.pointer (some ⟨g0, 0, none⟩)) w0 (gx_k (.int .i64 p1) w0 ?_)
 obtain ⟨⟨b11, b12⟩, hc8, hF⟩ := bind_in hF
 try dsimp only at hF
 refine gx_c (bHas_R p0 g0 gs0 A0 c0 (b11, b12) w0) (bHas_ok N p0 q0 p1 (1 : Int) (1 : Int) g0 gs0 A0 c0 _ hc8 w0 (hS0.get 0 rfl) (hS0.get 1 rfl) (hS0.ne 0 1 rfl rfl (by decide)) (hS0.again hv0)) ?_
 rintro _ w9 ⟨rfl, hT13⟩
 have hS10 : St _ _ w9 [boxE g0 [.pointer (some ⟨gs0, 0, none⟩), .slice A0 p0.length c0] 56, boxE gs0 [.bool b12] 53] := hS0.lend 0 1 rfl rfl _ hT13
 cases b11 with
 | true =>
  try dsimp only at hF
  refine gx_k (.bool false) w9 ?_
  refine gx_nil ?_
  refine gx_thenN ?_
  refine hK6 _ _ ?_
  refine gx_no (by kernel_rfl) ?_
  refine gx_pass ?_
  refine gx_thenN ?_
  refine hK4 _ _ ?_
  refine gx_seq (fun K14 hK15 => ?_)
  refine gx_region ?_
  refine gx_k (.pointer (some ⟨g0, 0, none⟩)) w9 (gx_k (.pointer (some ⟨g0, 0, none⟩)) w9 (gx_k (.pointer (some ⟨g0, 1, none⟩)) w9 ?_))
  refine gx_v (.slice A0 p0.length c0) w9 (run_load1 rfl (by kernel_rfl) (fun _ => by kernel_rfl) (hS10.box 0 rfl 1 rfl)) ?_
  refine gx_k (.int .i64 p1) w9 ?_
  obtain ⟨x16, hx17, hF⟩ := bind_in hF
  refine gx_v (.pointer (Option.map (fun p => p.add (Int.toNat p1 * 1)) A0)) w9 (run_ixaddr (E := 5) (s := 1) (k := .i64) (c := c0) rfl (by kernel_rfl) (by kernel_rfl) (by kernel_rfl) (fun _ => by kernel_rfl) (ix_in hx17).1 (ix_in hx17).2.1 (num_nil (hS10.view hv0))) ?_
  refine gx_v (.int .u8 x16) w9 (run_loadix rfl (by kernel_rfl) (fun _ => by kernel_rfl) (hS10.view hv0) hx17) ?_
  refine gx_k (.int .u8 x16) w9 ?_
  refine gx_nil ?_
  refine gx_thenN ?_
  refine hK15 _ _ ?_
  refine gx_ret ?_
  obtain rfl := Option.some.inj hF
  exact gx_fin (.int .u8 x16) (by kernel_rfl) (by kernel_rfl) ⟨_, rfl, rfl, hS10⟩
 | false =>
  try dsimp only at hF
  refine gx_k (.bool true) w9 ?_
  refine gx_nil ?_
  refine gx_thenN ?_
  refine hK6 _ _ ?_
  refine gx_yes (by kernel_rfl) ?_
  refine gx_seq (fun K18 hK19 => ?_)
  refine gx_region ?_
  refine gx_k (.int .u8 0) w9 ?_
  refine gx_nil ?_
  refine gx_thenN ?_
  refine hK19 _ _ ?_
  refine gx_ret ?_
  refine gx_thenR ?_
  obtain rfl := Option.some.inj hF
  exact gx_fin (.int .u8 0) (by kernel_rfl) (by kernel_rfl) ⟨_, rfl, rfl, hS10⟩

def bWord (N : Nat) (p0 : List Int) (q0 : Bool) (p1 : Int) : Option (Int × Bool) :=
 ((bHas N p0 q0 p1 (1 : Int) (2 : Int)).bind fun (b11, b12) => (match b11 with | true => ((ix p0 p1).bind fun x18 => ((ix p0 (IntKind.i64.wrap (p1 + 1))).bind fun x20 => some ((ior .u16 (IntKind.u16.wrap ((IntKind.u16.wrap x18) * 256)) (IntKind.u16.wrap x20)), b12))) | false => some (0, b12)))

def bWord_R (p0 : List Int) (g0 gs0 : Nat) (A0 : Option Addr) (c0 : Nat) (r : Int × Bool) (w0 : World) (v : Value) (w : World) : Prop := v = .int .u16 r.1 ∧ St [g0, gs0] w0 w [boxE g0 [.pointer (some ⟨gs0, 0, none⟩), .slice A0 p0.length c0] 56, boxE gs0 [.bool r.2] 53]

set_option maxRecDepth 100000 in
set_option maxHeartbeats 4000000 in
theorem bWord_ok (N : Nat) (p0 : List Int) (q0 : Bool) (p1 : Int) (g0 gs0 : Nat) (A0 : Option Addr) (c0 : Nat) (r : Int × Bool) (hF : bWord N p0 q0 p1 = some r) (w0 : World) (hr0 : w0.heap[g0]? = some (.cells [.pointer (some ⟨gs0, 0, none⟩), .slice A0 p0.length c0].toArray 56 (0, 0))) (hs0 : w0.heap[gs0]? = some (.cells [.bool q0].toArray 53 (0, 0))) (hne0 : g0 ≠ gs0) (hv0 : Vw [g0, gs0] .u8 w0 A0 c0 p0) :
  Calls Try.prog 14 #[.pointer (some ⟨g0, 0, none⟩), .int .i64 p1] w0 fun e w => ∃ v, e = .returned v ∧ bWord_R p0 g0 gs0 A0 c0 r w0 v w := by
 have hS0 := St.lent hr0 hs0 hne0
 unfold bWord at hF
 refine calls_of Try.func14 rfl ⟨((.pointer (some ⟨g0, 0, none⟩)) :: (.int .i64 p1) :: undef :: undef :: undef :: undef :: undef :: undef :: undef :: undef :: undef :: undef :: undef :: undef :: undef :: undef :: undef :: undef :: undef :: undef :: undef :: undef :: undef :: undef :: undef :: undef :: undef :: undef :: []).toArray, []⟩ (by kernel_rfl) ?_
 refine gx_seq (fun K1 hK2 => ?_)
 refine gx_region ?_
 refine gx_k (.int .u16 0) w0 ?_
 refine gx_nil ?_
 refine gx_thenN ?_
 refine hK2 _ _ ?_
 refine gx_seq (fun K3 hK4 => ?_)
 refine gx_seq (fun K5 hK6 => ?_)
 refine gx_region ?_
 refine gx_k (.pointer (some ⟨g0, 0, none⟩)) w0 (gx_k (.int .i64 p1) w0 ?_)
 obtain ⟨⟨b11, b12⟩, hc8, hF⟩ := bind_in hF
 try dsimp only at hF
 refine gx_c (bHas_R p0 g0 gs0 A0 c0 (b11, b12) w0) (bHas_ok N p0 q0 p1 (1 : Int) (2 : Int) g0 gs0 A0 c0 _ hc8 w0 (hS0.get 0 rfl) (hS0.get 1 rfl) (hS0.ne 0 1 rfl rfl (by decide)) (hS0.again hv0)) ?_
 rintro _ w9 ⟨rfl, hT13⟩
 have hS10 : St _ _ w9 [boxE g0 [.pointer (some ⟨gs0, 0, none⟩), .slice A0 p0.length c0] 56, boxE gs0 [.bool b12] 53] := hS0.lend 0 1 rfl rfl _ hT13
 cases b11 with
 | true =>
  try dsimp only at hF
  refine gx_k (.bool false) w9 ?_
  refine gx_nil ?_
  refine gx_thenN ?_
  refine hK6 _ _ ?_
  refine gx_no (by kernel_rfl) ?_
  refine gx_pass ?_
  refine gx_thenN ?_
  refine hK4 _ _ ?_
  refine gx_seq (fun K14 hK15 => ?_)
  refine gd_start (fun w => St [g0, gs0] w0 w [boxE g0 [.pointer (some ⟨gs0, 0, none⟩), .slice A0 p0.length c0] 56, boxE gs0 [.bool b12] 53]) 20 #[false, false, false, false, false, false, false, false, false, false, false, false, false, false, false, false, false, false, false, false] (by kernel_rfl) (by kernel_rfl) ?_
  have hS17 := hS10.drew
  generalize w9.drew = w16 at hS17 ⊢
  refine gd1 0 { dst := some 9, op := _, type := _, pos := _, after := _, guard := _ } (.pointer (some ⟨g0, 0, none⟩)) rfl hS17 (fun w hSw => by kernel_rfl) ?_
  refine gd1 1 { dst := some 10, op := _, type := _, pos := _, after := _, guard := _ } (.pointer (some ⟨g0, 0, none⟩)) rfl hS17 (fun w hSw => by kernel_rfl) ?_
  refine gd1 2 { dst := some 11, op := _, type := _, pos := _, after := _, guard := _ } (.pointer (some ⟨g0, 1, none⟩)) rfl hS17 (fun w hSw => by kernel_rfl) ?_
  refine gd1 3 { dst := some 12, op := _, type := _, pos := _, after := _, guard := _ } (.slice A0 p0.length c0) rfl hS17 (fun w hSw => run_load1 rfl (by kernel_rfl) (fun _ => by kernel_rfl) (hSw.box 0 rfl 1 rfl)) ?_
  refine gd1 4 { dst := some 13, op := _, type := _, pos := _, after := _, guard := _ } (.int .i64 p1) rfl hS17 (fun w hSw => by kernel_rfl) ?_
  obtain ⟨x18, hx19, hF⟩ := bind_in hF
  refine gd1 5 { dst := some 14, op := _, type := _, pos := _, after := _, guard := _ } (.pointer (Option.map (fun p => p.add (Int.toNat p1 * 1)) A0)) rfl hS17 (fun w hSw => run_ixaddr (E := 5) (s := 1) (k := .i64) (c := c0) rfl (by kernel_rfl) (by kernel_rfl) (by kernel_rfl) (fun _ => by kernel_rfl) (ix_in hx19).1 (ix_in hx19).2.1 (num_nil (hSw.view hv0))) ?_
  refine gd1 6 { dst := some 15, op := _, type := _, pos := _, after := _, guard := _ } (.int .u8 x18) rfl hS17 (fun w hSw => run_loadix rfl (by kernel_rfl) (fun _ => by kernel_rfl) (hSw.view hv0) hx19) ?_
  refine gd1 7 { dst := some 16, op := _, type := _, pos := _, after := _, guard := _ } (.int .u16 (IntKind.u16.wrap x18)) rfl hS17 (fun w hSw => by kernel_rfl) ?_
  refine gd1 8 { dst := some 17, op := _, type := _, pos := _, after := _, guard := _ } (.int .u16 (IntKind.u16.wrap ((IntKind.u16.wrap x18) * 256))) rfl hS17 (fun w hSw => by kernel_rfl) ?_
  refine gd1 9 { dst := some 18, op := _, type := _, pos := _, after := _, guard := _ } (.pointer (some ⟨g0, 0, none⟩)) rfl hS17 (fun w hSw => by kernel_rfl) ?_
  refine gd1 10 { dst := some 19, op := _, type := _, pos := _, after := _, guard := _ } (.pointer (some ⟨g0, 0, none⟩)) rfl hS17 (fun w hSw => by kernel_rfl) ?_
  refine gd1 11 { dst := some 20, op := _, type := _, pos := _, after := _, guard := _ } (.pointer (some ⟨g0, 1, none⟩)) rfl hS17 (fun w hSw => by kernel_rfl) ?_
  refine gd1 12 { dst := some 21, op := _, type := _, pos := _, after := _, guard := _ } (.slice A0 p0.length c0) rfl hS17 (fun w hSw => run_load1 rfl (by kernel_rfl) (fun _ => by kernel_rfl) (hSw.box 0 rfl 1 rfl)) ?_
  refine gd1 13 { dst := some 22, op := _, type := _, pos := _, after := _, guard := _ } (.int .i64 p1) rfl hS17 (fun w hSw => by kernel_rfl) ?_
  refine gd1 14 { dst := some 23, op := _, type := _, pos := _, after := _, guard := _ } (.int .i64 (IntKind.i64.wrap (p1 + 1))) rfl hS17 (fun w hSw => by kernel_rfl) ?_
  obtain ⟨x20, hx21, hF⟩ := bind_in hF
  refine gd1 15 { dst := some 24, op := _, type := _, pos := _, after := _, guard := _ } (.pointer (Option.map (fun p => p.add (Int.toNat (IntKind.i64.wrap (p1 + 1)) * 1)) A0)) rfl hS17 (fun w hSw => run_ixaddr (E := 5) (s := 1) (k := .i64) (c := c0) rfl (by kernel_rfl) (by kernel_rfl) (by kernel_rfl) (fun _ => by kernel_rfl) (ix_in hx21).1 (ix_in hx21).2.1 (num_nil (hSw.view hv0))) ?_
  refine gd1 16 { dst := some 25, op := _, type := _, pos := _, after := _, guard := _ } (.int .u8 x20) rfl hS17 (fun w hSw => run_loadix rfl (by kernel_rfl) (fun _ => by kernel_rfl) (hSw.view hv0) hx21) ?_
  refine gd1 17 { dst := some 26, op := _, type := _, pos := _, after := _, guard := _ } (.int .u16 (IntKind.u16.wrap x20)) rfl hS17 (fun w hSw => by kernel_rfl) ?_
  refine gd1 18 { dst := some 27, op := _, type := _, pos := _, after := _, guard := _ } (.int .u16 (ior .u16 (IntKind.u16.wrap ((IntKind.u16.wrap x18) * 256)) (IntKind.u16.wrap x20))) rfl hS17 (fun w hSw => by kernel_rfl) ?_
  refine gd1 19 { dst := some 4, op := _, type := _, pos := _, after := _, guard := _ } (.int .u16 (ior .u16 (IntKind.u16.wrap ((IntKind.u16.wrap x18) * 256)) (IntKind.u16.wrap x20))) rfl hS17 (fun w hSw => by kernel_rfl) ?_
  refine gd_done (by kernel_rfl) ?_
  refine gx_thenN ?_
  refine hK15 _ _ ?_
  refine gx_ret ?_
  obtain rfl := Option.some.inj hF
  exact gx_fin (.int .u16 (ior .u16 (IntKind.u16.wrap ((IntKind.u16.wrap x18) * 256)) (IntKind.u16.wrap x20))) (by kernel_rfl) (by kernel_rfl) ⟨_, rfl, rfl, hS17⟩
 | false =>
  try dsimp only at hF
  refine gx_k (.bool true) w9 ?_
  refine gx_nil ?_
  refine gx_thenN ?_
  refine hK6 _ _ ?_
  refine gx_yes (by kernel_rfl) ?_
  refine gx_seq (fun K22 hK23 => ?_)
  refine gx_region ?_
  refine gx_k (.int .u16 0) w9 ?_
  refine gx_nil ?_
  refine gx_thenN ?_
  refine hK23 _ _ ?_
  refine gx_ret ?_
  refine gx_thenR ?_
  obtain rfl := Option.some.inj hF
  exact gx_fin (.int .u16 0) (by kernel_rfl) (by kernel_rfl) ⟨_, rfl, rfl, hS10⟩

def bWords_L1 (N : Nat) (p0 : List Int) (p1 : Int) (l16 : List Int) : Nat → Bool → List Int → Int → Option (Bool × List Int)
 | 0, _, _, _ => none
 | k40+1, b36, l37, x39 => (if x39 < ((l16.length : Nat) : Int) then ((bWord N p0 b36 (IntKind.i64.wrap (p1 + (IntKind.i64.wrap ((2 : Int) * x39))))).bind fun (x55, b56) => ((ix l37 x39).bind fun _x58 => ((setx l37 x39 x55).bind fun l62 => bWords_L1 N p0 p1 l16 k40 b56 l62 (IntKind.i64.wrap (x39 + 1))))) else some ((b36, l37)))
def bWords (N : Nat) (p0 : List Int) (q0 : Bool) (p1 : Int) (p2 : Int) : Option (List Int × Bool) :=
 ((bHas N p0 q0 p1 p2 (2 : Int)).bind fun (b11, b12) => (match b11 with | true => ((mkx p2).bind fun l16 => ((bWords_L1 N p0 p1 l16 N b12 l16 0 : Option (Bool × List Int)).bind fun (b25, l26) => some (l26, b25))) | false => some ([], b12)))

def bWords_R (p0 : List Int) (g0 gs0 : Nat) (A0 : Option Addr) (c0 : Nat) (r : List Int × Bool) (w0 : World) (v : Value) (w : World) : Prop := ∃ (A0' : Option Addr) (c0' : Nat), v = .slice A0' r.1.length c0' ∧ St [g0, gs0] w0 w [boxE g0 [.pointer (some ⟨gs0, 0, none⟩), .slice A0 p0.length c0] 56, boxE gs0 [.bool r.2] 53, rowE .u16 45 A0' c0' r.1]

set_option maxRecDepth 100000 in
set_option maxHeartbeats 4000000 in
theorem bWords_ok (N : Nat) (p0 : List Int) (q0 : Bool) (p1 : Int) (p2 : Int) (g0 gs0 : Nat) (A0 : Option Addr) (c0 : Nat) (r : List Int × Bool) (hF : bWords N p0 q0 p1 p2 = some r) (w0 : World) (hr0 : w0.heap[g0]? = some (.cells [.pointer (some ⟨gs0, 0, none⟩), .slice A0 p0.length c0].toArray 56 (0, 0))) (hs0 : w0.heap[gs0]? = some (.cells [.bool q0].toArray 53 (0, 0))) (hne0 : g0 ≠ gs0) (hv0 : Vw [g0, gs0] .u8 w0 A0 c0 p0) :
  Calls Try.prog 28 #[.pointer (some ⟨g0, 0, none⟩), .int .i64 p1, .int .i64 p2] w0 fun e w => ∃ v, e = .returned v ∧ bWords_R p0 g0 gs0 A0 c0 r w0 v w := by
 have hS0 := St.lent hr0 hs0 hne0
 unfold bWords at hF
 refine calls_of Try.func28 rfl ⟨((.pointer (some ⟨g0, 0, none⟩)) :: (.int .i64 p1) :: (.int .i64 p2) :: undef :: undef :: undef :: undef :: undef :: undef :: undef :: undef :: undef :: undef :: undef :: undef :: undef :: undef :: undef :: undef :: undef :: undef :: undef :: undef :: undef :: undef :: undef :: undef :: undef :: undef :: undef :: undef :: undef :: []).toArray, []⟩ (by kernel_rfl) ?_
 refine gx_seq (fun K1 hK2 => ?_)
 refine gx_region ?_
 refine gx_k (.slice none 0 0) w0 ?_
 refine gx_nil ?_
 refine gx_thenN ?_
 refine hK2 _ _ ?_
 refine gx_seq (fun K3 hK4 => ?_)
 refine gx_seq (fun K5 hK6 => ?_)
 refine gx_region ?_
 refine gx_k (.pointer (some ⟨g0, 0, none⟩)) w0 (gx_k (.int .i64 p1) w0 (gx_k (.int .i64 p2) w0 ?_))
 obtain ⟨⟨b11, b12⟩, hc8, hF⟩ := bind_in hF
 try dsimp only at hF
 refine gx_c (bHas_R p0 g0 gs0 A0 c0 (b11, b12) w0) (bHas_ok N p0 q0 p1 p2 (2 : Int) g0 gs0 A0 c0 _ hc8 w0 (hS0.get 0 rfl) (hS0.get 1 rfl) (hS0.ne 0 1 rfl rfl (by decide)) (hS0.again hv0)) ?_
 rintro _ w9 ⟨rfl, hT13⟩
 have hS10 : St _ _ w9 [boxE g0 [.pointer (some ⟨gs0, 0, none⟩), .slice A0 p0.length c0] 56, boxE gs0 [.bool b12] 53] := hS0.lend 0 1 rfl rfl _ hT13
 cases b11 with
 | true =>
  try dsimp only at hF
  refine gx_k (.bool false) w9 ?_
  refine gx_nil ?_
  refine gx_thenN ?_
  refine hK6 _ _ ?_
  refine gx_no (by kernel_rfl) ?_
  refine gx_pass ?_
  refine gx_thenN ?_
  refine hK4 _ _ ?_
  refine gx_seq (fun K14 hK15 => ?_)
  refine gx_region ?_
  refine gx_k (.int .i64 p2) w9 ?_
  obtain ⟨l16, hm17, hF⟩ := bind_in hF
  refine gx_r (st_make (T := 45) (k := .u16) (by_ := 2) rfl (by kernel_rfl) (by kernel_rfl) (by kernel_rfl) (by kernel_rfl) (by kernel_rfl) hS10 hm17) ?_
  rintro _ w18 ⟨A20, c21, rfl, hS19⟩
  have hS19 : St _ _ w18 [boxE g0 [.pointer (some ⟨gs0, 0, none⟩), .slice A0 p0.length c0] 56, boxE gs0 [.bool b12] 53, rowE .u16 45 A20 c21 l16] := hS19
  refine gx_k (.slice A20 l16.length c21) w18 ?_
  refine gx_nil ?_
  refine gx_thenN ?_
  refine hK15 _ _ ?_
  obtain ⟨c28, hE29, hO30⟩ := bind_in hF
  refine gx_cut (fun a w => ∃ (b25 : Bool) (l26 : List Int) (u24 : Nat → Value), a = ⟨((.pointer (some ⟨g0, 0, none⟩)) :: (.int .i64 p1) :: (.int .i64 p2) :: undef :: undef :: undef :: (.slice none 0 0) :: (.slice A20 l16.length c21) :: (u24 0) :: (.pointer (some ⟨g0, 0, none⟩)) :: (.int .i64 p1) :: (.int .i64 p2) :: (.bool true) :: (.bool false) :: (.int .i64 p2) :: (u24 1) :: (u24 2) :: (u24 3) :: (u24 4) :: (u24 5) :: (u24 6) :: (u24 7) :: (u24 8) :: (u24 9) :: (u24 10) :: (u24 11) :: (u24 12) :: (u24 13) :: (u24 14) :: (u24 15) :: (u24 16) :: undef :: []).toArray, []⟩ ∧ (b25, l26) = c28 ∧ St [g0, gs0] w0 w [boxE g0 [.pointer (some ⟨gs0, 0, none⟩), .slice A0 p0.length c0] 56, boxE gs0 [.bool b25] 53, rowE .u16 45 A20 c21 l26] ∧ l16.length = l26.length) ?_ ?_
  ·refine gx_seq (fun K31 hK32 => ?_)
   refine gx_region ?_
   refine gx_k (.slice A20 l16.length c21) w18 (gx_k (.int .i64 ((l16.length : Nat) : Int)) w18 (gx_k (.int .i64 0) w18 ?_))
   refine gx_nil ?_
   refine gx_thenN ?_
   refine hK32 _ _ ?_
   refine gx_block ?_
   refine gx_loop (fun k a w => ∃ (b36 : Bool) (l37 : List Int) (x39 : Int) (u35 : Nat → Value), a = ⟨((.pointer (some ⟨g0, 0, none⟩)) :: (.int .i64 p1) :: (.int .i64 p2) :: undef :: undef :: undef :: (.slice none 0 0) :: (.slice A20 l16.length c21) :: (u35 0) :: (.pointer (some ⟨g0, 0, none⟩)) :: (.int .i64 p1) :: (.int .i64 p2) :: (.bool true) :: (.bool false) :: (.int .i64 p2) :: (u35 1) :: (u35 2) :: (.int .i64 ((l16.length : Nat) : Int)) :: (.int .i64 x39) :: (u35 3) :: (u35 4) :: (u35 5) :: (u35 6) :: (u35 7) :: (u35 8) :: (u35 9) :: (u35 10) :: (u35 11) :: (u35 12) :: (u35 13) :: (u35 14) :: undef :: []).toArray, []⟩ ∧ bWords_L1 N p0 p1 l16 k b36 l37 x39 = some c28 ∧ St [g0, gs0] w0 w [boxE g0 [.pointer (some ⟨gs0, 0, none⟩), .slice A0 p0.length c0] 56, boxE gs0 [.bool b36] 53, rowE .u16 45 A20 c21 l37] ∧ l16.length = l37.length) N ?_ ?_
   ·exact ⟨b12, l16, 0, (fun i => List.getD (undef :: (.slice A20 l16.length c21) :: (.slice A20 l16.length c21) :: undef :: undef :: undef :: undef :: undef :: undef :: undef :: undef :: undef :: undef :: undef :: undef :: []) i undef), by kernel_rfl, hE29, hS19, rfl⟩
   ·rintro k40 _ w33 ⟨b36, l37, x39, u35, rfl, hL41, hS34, hn38⟩
    cases k40 with
    | zero => cases hL41
    | succ k40 =>
     rw [bWords_L1] at hL41
     refine gx_seq (fun K42 hK43 => ?_)
     refine gx_region ?_
     rcases if_in hL41 with ⟨h44, hL41⟩ | ⟨h44, hL41⟩
     ·refine gx_v (.bool true) w33 (run_boolE (decide_eq_true h44) (by kernel_rfl)) ?_
      refine gx_nil ?_
      refine gx_thenN ?_
      refine hK43 _ _ ?_
      refine gx_seq (fun K45 hK46 => ?_)
      refine gx_yes (by kernel_rfl) ?_
      refine gx_pass ?_
      refine gx_thenN ?_
      refine hK46 _ _ ?_
      refine gx_seq (fun K47 hK48 => ?_)
      refine gx_block ?_
      refine gx_seq (fun K49 hK50 => ?_)
      refine gx_region ?_
      refine gx_k (.int .i64 x39) w33 (gx_k (.int .i64 x39) w33 ?_)
      refine gx_nil ?_
      refine gx_thenN ?_
      refine hK50 _ _ ?_
      refine gx_region ?_
      refine gx_k (.slice A20 l16.length c21) w33 (gx_k (.int .i64 x39) w33 (gx_k (.pointer (some ⟨g0, 0, none⟩)) w33 (gx_k (.int .i64 p1) w33 (gx_k (.int .i64 x39) w33 (gx_k (.int .i64 (IntKind.i64.wrap ((2 : Int) * x39))) w33 (gx_k (.int .i64 (IntKind.i64.wrap (p1 + (IntKind.i64.wrap ((2 : Int) * x39))))) w33 ?_))))))
      obtain ⟨⟨x55, b56⟩, hc52, hL41⟩ := bind_in hL41
      try dsimp only at hL41
      refine gx_c (bWord_R p0 g0 gs0 A0 c0 (x55, b56) w33) (bWord_ok N p0 b36 (IntKind.i64.wrap (p1 + (IntKind.i64.wrap ((2 : Int) * x39)))) g0 gs0 A0 c0 _ hc52 w33 (hS34.get 0 rfl) (hS34.get 1 rfl) (hS34.ne 0 1 rfl rfl (by decide)) (hS34.again hv0)) ?_
      rintro _ w53 ⟨rfl, hT57⟩
      have hS54 : St _ _ w53 [boxE g0 [.pointer (some ⟨gs0, 0, none⟩), .slice A0 p0.length c0] 56, boxE gs0 [.bool b56] 53, rowE .u16 45 A20 c21 l37] := hS34.lend 0 1 rfl rfl _ hT57
      obtain ⟨x58, hx59, hL41⟩ := bind_in hL41
      refine gx_v (.pointer (Option.map (fun p => p.add (Int.toNat x39 * 1)) A20)) w53 (run_ixaddr (E := 45) (s := 1) (k := .i64) (c := c21) rfl (by kernel_rfl) (by kernel_rfl) (by kernel_rfl) (fun _ => by kernel_rfl) (ix_in hx59).1 (lt_len hn38 (ix_in hx59).2.1) (nil_len hn38 (num_nil (hS54.row 2 rfl).1))) ?_
      obtain ⟨l62, hx63, hL41⟩ := bind_in hL41
      refine gx_s (st_storeix rfl (by kernel_rfl) (by kernel_rfl) (fun _ => by kernel_rfl) hS54 2 rfl hx63) ?_
      rintro w60 hS61
      have hS61 : St _ _ w60 [boxE g0 [.pointer (some ⟨gs0, 0, none⟩), .slice A0 p0.length c0] 56, boxE gs0 [.bool b56] 53, rowE .u16 45 A20 c21 l62] := hS61
      refine gx_nil ?_
      refine gx_blkN ?_
      refine gx_thenN ?_
      refine hK48 _ _ ?_
      refine gx_region ?_
      refine gx_k (.int .i64 (IntKind.i64.wrap (x39 + 1))) w60 (gx_k (.int .i64 (IntKind.i64.wrap (x39 + 1))) w60 ?_)
      refine gx_nil ?_
      refine gx_thenN ?_
      exact ⟨k40, Nat.lt_succ_self k40, b56, l62, (IntKind.i64.wrap (x39 + 1)), (fun i => List.getD ((.int .i64 x39) :: (u35 1) :: (u35 2) :: (.bool true) :: (.int .i64 x39) :: (.slice A20 l16.length c21) :: (.int .i64 x39) :: (.pointer (some ⟨g0, 0, none⟩)) :: (.int .i64 p1) :: (.int .i64 x39) :: (.int .i64 (IntKind.i64.wrap ((2 : Int) * x39))) :: (.int .i64 (IntKind.i64.wrap (p1 + (IntKind.i64.wrap ((2 : Int) * x39))))) :: (.int .u16 x55) :: (.pointer (Option.map (fun p => p.add (Int.toNat x39 * 1)) A20)) :: (.int .i64 (IntKind.i64.wrap (x39 + 1))) :: []) i undef), by kernel_rfl, hL41, hS61, (hn38.trans (setx_len hx63).symm)⟩
     ·refine gx_v (.bool false) w33 (run_boolE (decide_eq_false h44) (by kernel_rfl)) ?_
      refine gx_nil ?_
      refine gx_thenN ?_
      refine hK43 _ _ ?_
      refine gx_seq (fun K64 hK65 => ?_)
      refine gx_no (by kernel_rfl) ?_
      refine gx_exit ?_
      refine gx_thenE ?_
      refine gx_thenE ?_
      refine gx_blkE ?_
      refine gx_thenN ?_
      exact ⟨b36, l37, (fun i => List.getD ((u35 0) :: (u35 1) :: (u35 2) :: (.int .i64 ((l16.length : Nat) : Int)) :: (.int .i64 x39) :: (.bool false) :: (u35 4) :: (u35 5) :: (u35 6) :: (u35 7) :: (u35 8) :: (u35 9) :: (u35 10) :: (u35 11) :: (u35 12) :: (u35 13) :: (u35 14) :: []) i undef), by kernel_rfl, (Option.some.inj hL41), hS34, hn38⟩
  ·rintro _ w22 ⟨b25, l26, u24, rfl, rfl, hS23, hn27⟩
   try dsimp only at hO30
   refine gx_seq (fun K66 hK67 => ?_)
   refine gx_region ?_
   refine gx_k (.slice A20 l16.length c21) w22 (gx_k (.slice A20 l16.length c21) w22 ?_)
   refine gx_nil ?_
   refine gx_thenN ?_
   refine hK67 _ _ ?_
   refine gx_ret ?_
   obtain rfl := Option.some.inj hO30
   exact gx_fin (.slice A20 l16.length c21) (by kernel_rfl) (by kernel_rfl) ⟨_, rfl, A20, c21, by rw [← hn27] <;> kernel_rfl, hS23⟩
 | false =>
  try dsimp only at hF
  refine gx_k (.bool true) w9 ?_
  refine gx_nil ?_
  refine gx_thenN ?_
  refine hK6 _ _ ?_
  refine gx_yes (by kernel_rfl) ?_
  refine gx_seq (fun K68 hK69 => ?_)
  refine gx_region ?_
  refine gx_k (.slice none 0 0) w9 ?_
  refine gx_nil ?_
  refine gx_thenN ?_
  refine hK69 _ _ ?_
  refine gx_ret ?_
  refine gx_thenR ?_
  have hS70 : St _ _ w9 [boxE g0 [.pointer (some ⟨gs0, 0, none⟩), .slice A0 p0.length c0] 56, boxE gs0 [.bool b12] 53, rowE .u16 45 none 0 ([])] := hS10.nilrow .u16 45
  obtain rfl := Option.some.inj hF
  exact gx_fin (.slice none (([] : List Int).length) 0) (by kernel_rfl) (by kernel_rfl) ⟨_, rfl, none, 0, rfl, hS70⟩

def bCloneS (_N : Nat) (p0 : List Int) : Option (List Int) :=
 ((apx ([]) p0).bind fun l11 => some l11)

def bCloneS_R (r : List Int) (w0 : World) (v : Value) (w : World) : Prop := ∃ (A0' : Option Addr) (c0' : Nat), v = .slice A0' r.length c0' ∧ St [] w0 w [rowE .u8 5 A0' c0' r]

set_option maxRecDepth 100000 in
set_option maxHeartbeats 4000000 in
theorem bCloneS_ok (N : Nat) (p0 : List Int) (a0 : Addr) (c0 : Nat) (r : List Int) (hF : bCloneS N p0 = some r) (w0 : World) (hv0 : Vw [] .u8 w0 (some a0) c0 p0) :
  Calls Try.prog 18 #[.slice (some a0) p0.length c0] w0 fun e w => ∃ v, e = .returned v ∧ bCloneS_R r w0 v w := by
 have hS0 := St.start w0
 unfold bCloneS at hF
 refine calls_of Try.func18 rfl ⟨((.slice (some a0) p0.length c0) :: undef :: undef :: undef :: undef :: undef :: undef :: undef :: []).toArray, []⟩ (by kernel_rfl) ?_
 refine gx_seq (fun K1 hK2 => ?_)
 refine gx_region ?_
 refine gx_k (.slice none 0 0) w0 ?_
 refine gx_nil ?_
 refine gx_thenN ?_
 refine hK2 _ _ ?_
 refine gx_seq (fun K3 hK4 => ?_)
 refine gx_seq (fun K5 hK6 => ?_)
 refine gx_region ?_
 refine gx_k (.slice (some a0) p0.length c0) w0 (gx_k (.bool false) w0 ?_)
 refine gx_nil ?_
 refine gx_thenN ?_
 refine hK6 _ _ ?_
 refine gx_no (by kernel_rfl) ?_
 refine gx_pass ?_
 refine gx_thenN ?_
 refine hK4 _ _ ?_
 refine gx_seq (fun K7 hK8 => ?_)
 refine gx_region ?_
 refine gx_r (st_made .u8 5 [] hS0 (by show 0 ≤ 1000000000; decide) (by kernel_rfl)) ?_
 rintro _ w9 ⟨rfl, hS10⟩
 have hS10 : St _ _ w9 [rowE .u8 5 (some ⟨w0.heap.size, 0, none⟩) 0 ([])] := hS10
 refine gx_k (.slice (some a0) p0.length c0) w9 ?_
 obtain ⟨l11, ha12, hF⟩ := bind_in hF
 obtain ⟨ha12, hq13⟩ := apx_in ha12
 refine gx_r (st_append rfl (by kernel_rfl) (by kernel_rfl) hS10 0 rfl (hS10.view hv0) hv0.nn ha12 (by kernel_rfl) (by kernel_rfl)) ?_
 rintro _ w16 ⟨A14, c15, rfl, hS17⟩
 rw [← hq13] at hS17 ⊢
 have hS17 : St _ _ w16 [rowE .u8 5 A14 c15 l11] := hS17
 refine gx_k (.slice A14 l11.length c15) w16 ?_
 refine gx_nil ?_
 refine gx_thenN ?_
 refine hK8 _ _ ?_
 refine gx_ret ?_
 obtain rfl := Option.some.inj hF
 exact gx_fin (.slice A14 l11.length c15) (by kernel_rfl) (by kernel_rfl) ⟨_, rfl, A14, c15, rfl, hS17⟩

def bCloneN (_N : Nat) : Option (List Int) :=
 some ([])

def bCloneN_R (r : List Int) (w0 : World) (v : Value) (w : World) : Prop := ∃ (A0' : Option Addr) (c0' : Nat), v = .slice A0' r.length c0' ∧ St [] w0 w [rowE .u8 5 A0' c0' r]

set_option maxRecDepth 100000 in
set_option maxHeartbeats 4000000 in
theorem bCloneN_ok (N : Nat)  (r : List Int) (hF : bCloneN N = some r) (w0 : World)  :
  Calls Try.prog 18 #[.slice none ((([] : List Int)).length) 0] w0 fun e w => ∃ v, e = .returned v ∧ bCloneN_R r w0 v w := by
 have hS0 := St.start w0
 unfold bCloneN at hF
 refine calls_of Try.func18 rfl ⟨((.slice none ((([] : List Int)).length) 0) :: undef :: undef :: undef :: undef :: undef :: undef :: undef :: []).toArray, []⟩ (by kernel_rfl) ?_
 refine gx_seq (fun K1 hK2 => ?_)
 refine gx_region ?_
 refine gx_k (.slice none 0 0) w0 ?_
 refine gx_nil ?_
 refine gx_thenN ?_
 refine hK2 _ _ ?_
 refine gx_seq (fun K3 hK4 => ?_)
 refine gx_seq (fun K5 hK6 => ?_)
 refine gx_region ?_
 refine gx_k (.slice none ((([] : List Int)).length) 0) w0 (gx_k (.bool true) w0 ?_)
 refine gx_nil ?_
 refine gx_thenN ?_
 refine hK6 _ _ ?_
 refine gx_yes (by kernel_rfl) ?_
 refine gx_seq (fun K7 hK8 => ?_)
 refine gx_region ?_
 refine gx_k (.slice none 0 0) w0 ?_
 refine gx_nil ?_
 refine gx_thenN ?_
 refine hK8 _ _ ?_
 refine gx_ret ?_
 refine gx_thenR ?_
 have hS9 : St _ _ w0 [rowE .u8 5 none 0 ([])] := hS0.nilrow .u8 5
 obtain rfl := Option.some.inj hF
 exact gx_fin (.slice none (([] : List Int).length) 0) (by kernel_rfl) (by kernel_rfl) ⟨_, rfl, none, 0, rfl, hS9⟩

def bClone (N : Nat) (p0 : List Int) : Option (List Int) := bCloneS N p0
def bClone_R (r : List Int) (w0 : World) (v : Value) (w : World) : Prop := bCloneS_R r w0 v w
theorem bClone_ok (N : Nat) (p0 : List Int) (A0 : Option Addr) (c0 : Nat) (r : List Int) (hF : bClone N p0 = some r) (w0 : World) (hv0 : Vw [] .u8 w0 A0 c0 p0) :
  Calls Try.prog 18 #[.slice A0 p0.length c0] w0 fun e w => ∃ v, e = .returned v ∧ bClone_R r w0 v w := by
 cases A0 with
 | some a => exact bCloneS_ok N p0 a c0 r hF w0 hv0
 | none =>
  obtain rfl : p0 = [] := List.length_eq_zero_iff.1 (num_nil hv0.num rfl)
  obtain rfl := hv0.nn rfl
  have hr : r = [] := (Option.some.inj hF).symm
  subst hr
  exact bCloneN_ok N [] rfl w0

def bOpen (N : Nat) (p0 : List Int) : Option (List Int × Bool) :=
 ((bClone N p0).bind fun l11 => some (l11, false))

def bOpen_R (r : List Int × Bool) (w0 : World) (v : Value) (w : World) : Prop := ∃ (g0' gs0' : Nat) (A0' : Option Addr) (c0' : Nat), v = .pointer (some ⟨g0', 0, none⟩) ∧ St [] w0 w [boxE g0' [.pointer (some ⟨gs0', 0, none⟩), .slice A0' r.1.length c0'] 56, boxE gs0' [.bool r.2] 53, rowE .u8 5 A0' c0' r.1]

set_option maxRecDepth 100000 in
set_option maxHeartbeats 4000000 in
theorem bOpen_ok (N : Nat) (p0 : List Int) (A0 : Option Addr) (c0 : Nat) (r : List Int × Bool) (hF : bOpen N p0 = some r) (w0 : World) (hv0 : Vw [] .u8 w0 A0 c0 p0) :
  Calls Try.prog 6 #[.slice A0 p0.length c0] w0 fun e w => ∃ v, e = .returned v ∧ bOpen_R r w0 v w := by
 have hS0 := St.start w0
 unfold bOpen at hF
 refine calls_of Try.func6 rfl ⟨((.slice A0 p0.length c0) :: undef :: undef :: undef :: undef :: undef :: undef :: undef :: undef :: []).toArray, []⟩ (by kernel_rfl) ?_
 refine gx_seq (fun K1 hK2 => ?_)
 refine gx_region ?_
 refine gx_k (.pointer none) w0 ?_
 refine gx_nil ?_
 refine gx_thenN ?_
 refine hK2 _ _ ?_
 refine gx_seq (fun K3 hK4 => ?_)
 refine gx_region ?_
 refine gx_k (.agg #[.bool false]) w0 ?_
 refine gx_r (st_boxed [.bool false] 53 hS0 (by kernel_rfl)) ?_
 rintro _ w5 ⟨rfl, hS6⟩
 have hS6 : St _ _ w5 [boxE w0.heap.size [.bool false] 53] := hS6
 refine gx_k (.slice A0 p0.length c0) w5 ?_
 obtain ⟨l11, hc8, hF⟩ := bind_in hF
 try dsimp only at hF
 refine gx_c (bClone_R  l11 w5) (bClone_ok N p0 A0 c0 _ hc8 w5 (Vw.of (hS6.view hv0) hv0.nn)) ?_
 rintro _ w9 ⟨A12, c13, rfl, hT14⟩
 have hS10 : St _ _ w9 [boxE w0.heap.size [.bool false] 53, rowE .u8 5 A12 c13 l11] := hS6.take _ hT14
 refine gx_k (.agg #[.pointer (some ⟨w0.heap.size, 0, none⟩), .slice A12 l11.length c13]) w9 ?_
 refine gx_r (st_boxed [.pointer (some ⟨w0.heap.size, 0, none⟩), .slice A12 l11.length c13] 56 hS10 (by kernel_rfl)) ?_
 rintro _ w15 ⟨rfl, hS16⟩
 have hS16 : St _ _ w15 [boxE w0.heap.size [.bool false] 53, rowE .u8 5 A12 c13 l11, boxE w9.heap.size [.pointer (some ⟨w0.heap.size, 0, none⟩), .slice A12 l11.length c13] 56] := hS16
 refine gx_k (.pointer (some ⟨w9.heap.size, 0, none⟩)) w15 ?_
 refine gx_nil ?_
 refine gx_thenN ?_
 refine hK4 _ _ ?_
 refine gx_ret ?_
 obtain rfl := Option.some.inj hF
 exact gx_fin (.pointer (some ⟨w9.heap.size, 0, none⟩)) (by kernel_rfl) (by kernel_rfl) ⟨_, rfl, w9.heap.size, w0.heap.size, A12, c13, rfl, (hS16.pick [2, 0, 1] rfl rfl)⟩

def kWords_L1 (N : Nat) (p0 : List Int) (p1 : List Int) : Nat → Int → Option (Ctl (Unit) (Bool))
 | 0, _ => none
 | k22+1, x21 => (if x21 < ((p0.length : Nat) : Int) then ((ix p0 x21).bind fun x35 => ((ix p1 x21).bind fun x37 => (if x35 ≠ x37 then some (Ctl.ret false) else kWords_L1 N p0 p1 k22 (IntKind.i64.wrap (x21 + 1))))) else some (Ctl.go ()))
def kWords (N : Nat) (p0 : List Int) (p1 : List Int) : Option (Bool) :=
 (if ((p0.length : Nat) : Int) ≠ ((p1.length : Nat) : Int) then some false else ((kWords_L1 N p0 p1 N 0 : Option (Ctl (Unit) (Bool))).bind fun | Ctl.go () => some true | Ctl.ret r => some r))

def kWords_R (r : Bool) (w0 : World) (v : Value) (w : World) : Prop := v = .bool r ∧ St [] w0 w []

set_option maxRecDepth 100000 in
set_option maxHeartbeats 4000000 in
theorem kWords_ok (N : Nat) (p0 : List Int) (p1 : List Int) (A0 : Option Addr) (c0 : Nat) (A1 : Option Addr) (c1 : Nat) (r : Bool) (hF : kWords N p0 p1 = some r) (w0 : World) (hv0 : Vw [] .u16 w0 A0 c0 p0) (hv1 : Vw [] .u16 w0 A1 c1 p1) :
  Calls Try.prog 12 #[.slice A0 p0.length c0, .slice A1 p1.length c1] w0 fun e w => ∃ v, e = .returned v ∧ kWords_R r w0 v w := by
 have hS0 := St.start w0
 unfold kWords at hF
 refine calls_of Try.func12 rfl ⟨((.slice A0 p0.length c0) :: (.slice A1 p1.length c1) :: undef :: undef :: undef :: undef :: undef :: undef :: undef :: undef :: undef :: undef :: undef :: undef :: undef :: undef :: undef :: undef :: undef :: undef :: undef :: undef :: undef :: undef :: undef :: undef :: []).toArray, []⟩ (by kernel_rfl) ?_
 refine gx_seq (fun K1 hK2 => ?_)
 refine gx_region ?_
 refine gx_k (.bool false) w0 ?_
 refine gx_nil ?_
 refine gx_thenN ?_
 refine hK2 _ _ ?_
 refine gx_seq (fun K3 hK4 => ?_)
 refine gx_seq (fun K5 hK6 => ?_)
 refine gx_region ?_
 refine gx_k (.slice A0 p0.length c0) w0 (gx_k (.int .i64 ((p0.length : Nat) : Int)) w0 (gx_k (.slice A1 p1.length c1) w0 (gx_k (.int .i64 ((p1.length : Nat) : Int)) w0 ?_)))
 rcases if_in hF with ⟨h7, hF⟩ | ⟨h7, hF⟩
 ·refine gx_v (.bool true) w0 (run_boolE (ne_yes h7) (by kernel_rfl)) ?_
  refine gx_nil ?_
  refine gx_thenN ?_
  refine hK6 _ _ ?_
  refine gx_yes (by kernel_rfl) ?_
  refine gx_seq (fun K8 hK9 => ?_)
  refine gx_region ?_
  refine gx_k (.bool false) w0 ?_
  refine gx_nil ?_
  refine gx_thenN ?_
  refine hK9 _ _ ?_
  refine gx_ret ?_
  refine gx_thenR ?_
  obtain rfl := Option.some.inj hF
  exact gx_fin (.bool false) (by kernel_rfl) (by kernel_rfl) ⟨_, rfl, rfl, hS0⟩
 ·refine gx_v (.bool false) w0 (run_boolE (ne_no h7) (by kernel_rfl)) ?_
  refine gx_nil ?_
  refine gx_thenN ?_
  refine hK6 _ _ ?_
  refine gx_no (by kernel_rfl) ?_
  refine gx_pass ?_
  refine gx_thenN ?_
  refine hK4 _ _ ?_
  obtain ⟨c13, hE14, hO15⟩ := bind_in hF
  refine gx_cut (fun a w => ∃ (u12 : Nat → Value), a = ⟨((.slice A0 p0.length c0) :: (.slice A1 p1.length c1) :: undef :: undef :: (u12 0) :: (u12 1) :: (.slice A0 p0.length c0) :: (.int .i64 ((p0.length : Nat) : Int)) :: (.slice A1 p1.length c1) :: (.int .i64 ((p1.length : Nat) : Int)) :: (.bool false) :: (u12 2) :: (u12 3) :: (u12 4) :: (u12 5) :: (u12 6) :: (u12 7) :: (u12 8) :: (u12 9) :: (u12 10) :: (u12 11) :: (u12 12) :: (u12 13) :: (u12 14) :: (u12 15) :: (u12 16) :: []).toArray, []⟩ ∧ Ctl.go () = c13 ∧ St [] w0 w []) ?_ ?_
  ·refine gx_seq (fun K16 hK17 => ?_)
   refine gx_region ?_
   refine gx_k (.int .i64 0) w0 ?_
   refine gx_nil ?_
   refine gx_thenN ?_
   refine hK17 _ _ ?_
   refine gx_block ?_
   refine gx_loop (fun k a w => ∃ (x21 : Int) (u20 : Nat → Value), a = ⟨((.slice A0 p0.length c0) :: (.slice A1 p1.length c1) :: undef :: undef :: (u20 0) :: (.int .i64 x21) :: (.slice A0 p0.length c0) :: (.int .i64 ((p0.length : Nat) : Int)) :: (.slice A1 p1.length c1) :: (.int .i64 ((p1.length : Nat) : Int)) :: (.bool false) :: (u20 1) :: (u20 2) :: (u20 3) :: (u20 4) :: (u20 5) :: (u20 6) :: (u20 7) :: (u20 8) :: (u20 9) :: (u20 10) :: (u20 11) :: (u20 12) :: (u20 13) :: (u20 14) :: (u20 15) :: []).toArray, []⟩ ∧ kWords_L1 N p0 p1 k x21 = some c13 ∧ St [] w0 w []) N ?_ ?_
   ·exact ⟨0, (fun i => List.getD ((.bool false) :: undef :: undef :: undef :: undef :: undef :: undef :: undef :: undef :: undef :: undef :: undef :: undef :: undef :: undef :: undef :: []) i undef), by kernel_rfl, hE14, hS0⟩
   ·rintro k22 _ w18 ⟨x21, u20, rfl, hL23, hS19⟩
    cases k22 with
    | zero => cases hL23
    | succ k22 =>
     rw [kWords_L1] at hL23
     refine gx_seq (fun K24 hK25 => ?_)
     refine gx_seq (fun K26 hK27 => ?_)
     refine gx_region ?_
     refine gx_k (.int .i64 x21) w18 (gx_k (.slice A0 p0.length c0) w18 (gx_k (.int .i64 ((p0.length : Nat) : Int)) w18 ?_))
     rcases if_in hL23 with ⟨h28, hL23⟩ | ⟨h28, hL23⟩
     ·refine gx_v (.bool true) w18 (run_boolE (decide_eq_true h28) (by kernel_rfl)) ?_
      refine gx_nil ?_
      refine gx_thenN ?_
      refine hK27 _ _ ?_
      refine gx_yes (by kernel_rfl) ?_
      refine gx_pass ?_
      refine gx_thenN ?_
      refine hK25 _ _ ?_
      refine gx_seq (fun K29 hK30 => ?_)
      refine gx_block ?_
      refine gx_seq (fun K31 hK32 => ?_)
      refine gd_start (fun w => St [] w0 w []) 9 #[false, false, false, false, false, false, false, false, false] (by kernel_rfl) (by kernel_rfl) ?_
      have hS34 := hS19.drew
      generalize w18.drew = w33 at hS34 ⊢
      refine gd1 0 { dst := some 17, op := _, type := _, pos := _, after := _, guard := _ } (.slice A0 p0.length c0) rfl hS34 (fun w hSw => by kernel_rfl) ?_
      refine gd1 1 { dst := some 18, op := _, type := _, pos := _, after := _, guard := _ } (.int .i64 x21) rfl hS34 (fun w hSw => by kernel_rfl) ?_
      obtain ⟨x35, hx36, hL23⟩ := bind_in hL23
      refine gd1 2 { dst := some 19, op := _, type := _, pos := _, after := _, guard := _ } (.pointer (Option.map (fun p => p.add (Int.toNat x21 * 1)) A0)) rfl hS34 (fun w hSw => run_ixaddr (E := 45) (s := 1) (k := .i64) (c := c0) rfl (by kernel_rfl) (by kernel_rfl) (by kernel_rfl) (fun _ => by kernel_rfl) (ix_in hx36).1 (ix_in hx36).2.1 (num_nil (hSw.view hv0))) ?_
      refine gd1 3 { dst := some 20, op := _, type := _, pos := _, after := _, guard := _ } (.int .u16 x35) rfl hS34 (fun w hSw => run_loadix rfl (by kernel_rfl) (fun _ => by kernel_rfl) (hSw.view hv0) hx36) ?_
      refine gd1 4 { dst := some 21, op := _, type := _, pos := _, after := _, guard := _ } (.slice A1 p1.length c1) rfl hS34 (fun w hSw => by kernel_rfl) ?_
      refine gd1 5 { dst := some 22, op := _, type := _, pos := _, after := _, guard := _ } (.int .i64 x21) rfl hS34 (fun w hSw => by kernel_rfl) ?_
      obtain ⟨x37, hx38, hL23⟩ := bind_in hL23
      refine gd1 6 { dst := some 23, op := _, type := _, pos := _, after := _, guard := _ } (.pointer (Option.map (fun p => p.add (Int.toNat x21 * 1)) A1)) rfl hS34 (fun w hSw => run_ixaddr (E := 45) (s := 1) (k := .i64) (c := c1) rfl (by kernel_rfl) (by kernel_rfl) (by kernel_rfl) (fun _ => by kernel_rfl) (ix_in hx38).1 (ix_in hx38).2.1 (num_nil (hSw.view hv1))) ?_
      refine gd1 7 { dst := some 24, op := _, type := _, pos := _, after := _, guard := _ } (.int .u16 x37) rfl hS34 (fun w hSw => run_loadix rfl (by kernel_rfl) (fun _ => by kernel_rfl) (hSw.view hv1) hx38) ?_
      rcases if_in hL23 with ⟨h39, hL23⟩ | ⟨h39, hL23⟩
      ·refine gd1 8 { dst := some 25, op := _, type := _, pos := _, after := _, guard := _ } (.bool true) rfl hS34 (fun w hSw => run_boolE (ne_yes h39) (by kernel_rfl)) ?_
       refine gd_done (by kernel_rfl) ?_
       refine gx_thenN ?_
       refine hK32 _ _ ?_
       refine gx_yes (by kernel_rfl) ?_
       refine gx_seq (fun K40 hK41 => ?_)
       refine gx_region ?_
       refine gx_k (.bool false) w33 ?_
       refine gx_nil ?_
       refine gx_thenN ?_
       refine hK41 _ _ ?_
       refine gx_ret ?_
       refine gx_blkR ?_
       refine gx_thenR ?_
       refine gx_thenR ?_
       refine gx_blkR ?_
       refine gx_thenR ?_
       obtain rfl := Option.some.inj hL23
       try dsimp only at hO15
       obtain rfl := Option.some.inj hO15
       exact gx_fin (.bool false) (by kernel_rfl) (by kernel_rfl) ⟨_, rfl, rfl, hS34⟩
      ·refine gd1 8 { dst := some 25, op := _, type := _, pos := _, after := _, guard := _ } (.bool false) rfl hS34 (fun w hSw => run_boolE (ne_no h39) (by kernel_rfl)) ?_
       refine gd_done (by kernel_rfl) ?_
       refine gx_thenN ?_
       refine hK32 _ _ ?_
       refine gx_no (by kernel_rfl) ?_
       refine gx_pass ?_
       refine gx_blkN ?_
       refine gx_thenN ?_
       refine hK30 _ _ ?_
       refine gx_region ?_
       refine gx_k (.int .i64 x21) w33 (gx_k (.int .i64 (IntKind.i64.wrap (x21 + 1))) w33 (gx_k (.int .i64 (IntKind.i64.wrap (x21 + 1))) w33 ?_))
       refine gx_nil ?_
       refine gx_thenN ?_
       exact ⟨k22, Nat.lt_succ_self k22, (IntKind.i64.wrap (x21 + 1)), (fun i => List.getD ((u20 0) :: (.int .i64 x21) :: (.slice A0 p0.length c0) :: (.int .i64 ((p0.length : Nat) : Int)) :: (.bool true) :: (.int .i64 x21) :: (.int .i64 (IntKind.i64.wrap (x21 + 1))) :: (.slice A0 p0.length c0) :: (.int .i64 x21) :: (.pointer (Option.map (fun p => p.add (Int.toNat x21 * 1)) A0)) :: (.int .u16 x35) :: (.slice A1 p1.length c1) :: (.int .i64 x21) :: (.pointer (Option.map (fun p => p.add (Int.toNat x21 * 1)) A1)) :: (.int .u16 x37) :: (.bool false) :: []) i undef), by kernel_rfl, hL23, hS34⟩
     ·refine gx_v (.bool false) w18 (run_boolE (decide_eq_false h28) (by kernel_rfl)) ?_
      refine gx_nil ?_
      refine gx_thenN ?_
      refine hK27 _ _ ?_
      refine gx_no (by kernel_rfl) ?_
      refine gx_exit ?_
      refine gx_thenE ?_
      refine gx_thenE ?_
      refine gx_blkE ?_
      refine gx_thenN ?_
      exact ⟨(fun i => List.getD ((u20 0) :: (.int .i64 x21) :: (.int .i64 x21) :: (.slice A0 p0.length c0) :: (.int .i64 ((p0.length : Nat) : Int)) :: (.bool false) :: (u20 5) :: (u20 6) :: (u20 7) :: (u20 8) :: (u20 9) :: (u20 10) :: (u20 11) :: (u20 12) :: (u20 13) :: (u20 14) :: (u20 15) :: []) i undef), by kernel_rfl, (Option.some.inj hL23), hS19⟩
  ·rintro _ w10 ⟨u12, rfl, rfl, hS11⟩
   try dsimp only at hO15
   refine gx_seq (fun K42 hK43 => ?_)
   refine gx_region ?_
   refine gx_k (.bool true) w10 ?_
   refine gx_nil ?_
   refine gx_thenN ?_
   refine hK43 _ _ ?_
   refine gx_ret ?_
   obtain rfl := Option.some.inj hO15
   exact gx_fin (.bool true) (by kernel_rfl) (by kernel_rfl) ⟨_, rfl, rfl, hS11⟩

def kBytes (_N : Nat) (p0 : List Int) (p1 : List Int) : Option (Bool) :=
 some (((strOfNums p0).toList == (strOfNums p1).toList))

def kBytes_R (r : Bool) (w0 : World) (v : Value) (w : World) : Prop := v = .bool r ∧ St [] w0 w []

set_option maxRecDepth 100000 in
set_option maxHeartbeats 4000000 in
theorem kBytes_ok (N : Nat) (p0 : List Int) (p1 : List Int) (A0 : Option Addr) (c0 : Nat) (A1 : Option Addr) (c1 : Nat) (r : Bool) (hF : kBytes N p0 p1 = some r) (w0 : World) (hv0 : Vw [] .u8 w0 A0 c0 p0) (hv1 : Vw [] .u8 w0 A1 c1 p1) :
  Calls Try.prog 13 #[.slice A0 p0.length c0, .slice A1 p1.length c1] w0 fun e w => ∃ v, e = .returned v ∧ kBytes_R r w0 v w := by
 have hS0 := St.start w0
 unfold kBytes at hF
 refine calls_of Try.func13 rfl ⟨((.slice A0 p0.length c0) :: (.slice A1 p1.length c1) :: undef :: undef :: undef :: undef :: undef :: undef :: undef :: undef :: []).toArray, []⟩ (by kernel_rfl) ?_
 refine gx_seq (fun K1 hK2 => ?_)
 refine gx_region ?_
 refine gx_k (.bool false) w0 ?_
 refine gx_nil ?_
 refine gx_thenN ?_
 refine hK2 _ _ ?_
 refine gx_seq (fun K3 hK4 => ?_)
 refine gx_region ?_
 refine gx_k (.slice A0 p0.length c0) w0 ?_
 refine gx_v (.string (strOfNums p0)) w0 (run_conv rfl (by kernel_rfl) (conv_b _ _ _ (hS0.view hv0))) ?_
 refine gx_k (.slice A1 p1.length c1) w0 ?_
 refine gx_v (.string (strOfNums p1)) w0 (run_conv rfl (by kernel_rfl) (conv_b _ _ _ (hS0.view hv1))) ?_
 refine gx_k (.bool (((strOfNums p0).toList == (strOfNums p1).toList))) w0 (gx_k (.bool (((strOfNums p0).toList == (strOfNums p1).toList))) w0 ?_)
 refine gx_nil ?_
 refine gx_thenN ?_
 refine hK4 _ _ ?_
 refine gx_ret ?_
 obtain rfl := Option.some.inj hF
 exact gx_fin (.bool (((strOfNums p0).toList == (strOfNums p1).toList))) (by kernel_rfl) (by kernel_rfl) ⟨_, rfl, rfl, hS0⟩

def cCount (_N : Nat) (p0 : Int) : Option (Bool) :=
 (if p0 ≥ 1 then some (decide (p0 ≤ 65535)) else some false)

def cCount_R (r : Bool) (w0 : World) (v : Value) (w : World) : Prop := v = .bool r ∧ St [] w0 w []

set_option maxRecDepth 100000 in
set_option maxHeartbeats 4000000 in
theorem cCount_ok (N : Nat) (p0 : Int)  (r : Bool) (hF : cCount N p0 = some r) (w0 : World)  :
  Calls Try.prog 23 #[.int .i64 p0] w0 fun e w => ∃ v, e = .returned v ∧ cCount_R r w0 v w := by
 have hS0 := St.start w0
 unfold cCount at hF
 refine calls_of Try.func23 rfl ⟨((.int .i64 p0) :: undef :: undef :: undef :: undef :: undef :: undef :: undef :: undef :: []).toArray, []⟩ (by kernel_rfl) ?_
 refine gx_seq (fun K1 hK2 => ?_)
 refine gx_region ?_
 refine gx_k (.bool false) w0 ?_
 refine gx_nil ?_
 refine gx_thenN ?_
 refine hK2 _ _ ?_
 refine gx_seq (fun K3 hK4 => ?_)
 refine gx_region ?_
 refine gx_k (.int .i64 p0) w0 ?_
 rcases if_in hF with ⟨h5, hF⟩ | ⟨h5, hF⟩
 ·refine gx_v (.bool true) w0 (run_boolE (decide_eq_true h5) (by kernel_rfl)) ?_
  refine gx_k (.bool true) w0 (gx_k (.int .i64 p0) w0 (gx_k (.bool (decide (p0 ≤ 65535))) w0 (gx_k (.bool (decide (p0 ≤ 65535))) w0 (gx_k (.bool (decide (p0 ≤ 65535))) w0 ?_))))
  refine gx_nil ?_
  refine gx_thenN ?_
  refine hK4 _ _ ?_
  refine gx_ret ?_
  obtain rfl := Option.some.inj hF
  exact gx_fin (.bool (decide (p0 ≤ 65535))) (by kernel_rfl) (by kernel_rfl) ⟨_, rfl, rfl, hS0⟩
 ·refine gx_v (.bool false) w0 (run_boolE (decide_eq_false h5) (by kernel_rfl)) ?_
  refine gx_k (.bool false) w0 (gx_o (gx_o (gx_k (.bool false) w0 (gx_k (.bool false) w0 ?_))))
  refine gx_nil ?_
  refine gx_thenN ?_
  refine hK4 _ _ ?_
  refine gx_ret ?_
  obtain rfl := Option.some.inj hF
  exact gx_fin (.bool false) (by kernel_rfl) (by kernel_rfl) ⟨_, rfl, rfl, hS0⟩

def cFits (_N : Nat) (p0_0 : Int) (p0_1 : Int) (_p0_2 : Int) (p1 : Int) (p2 : Int) : Option (Bool) :=
 (if p0_0 > p1 then (if p0_0 ≤ p0_1 then some (decide (p0_1 < p2)) else some false) else some false)

def cFits_R (r : Bool) (w0 : World) (v : Value) (w : World) : Prop := v = .bool r ∧ St [] w0 w []

set_option maxRecDepth 100000 in
set_option maxHeartbeats 4000000 in
theorem cFits_ok (N : Nat) (p0_0 : Int) (p0_1 : Int) (p0_2 : Int) (p1 : Int) (p2 : Int)  (r : Bool) (hF : cFits N p0_0 p0_1 p0_2 p1 p2 = some r) (w0 : World)  :
  Calls Try.prog 22 #[.agg #[.int .i64 p0_0, .int .i64 p0_1, .int .i64 p0_2], .int .i64 p1, .int .i64 p2] w0 fun e w => ∃ v, e = .returned v ∧ cFits_R r w0 v w := by
 have hS0 := St.start w0
 unfold cFits at hF
 refine calls_of Try.func22 rfl ⟨((.agg #[.int .i64 p0_0, .int .i64 p0_1, .int .i64 p0_2]) :: (.int .i64 p1) :: (.int .i64 p2) :: undef :: undef :: undef :: undef :: undef :: undef :: undef :: undef :: undef :: undef :: undef :: undef :: undef :: undef :: undef :: undef :: undef :: undef :: undef :: undef :: undef :: []).toArray, []⟩ (by kernel_rfl) ?_
 refine gx_seq (fun K1 hK2 => ?_)
 refine gx_region ?_
 refine gx_r (st_boxed [.int .i64 p0_0, .int .i64 p0_1, .int .i64 p0_2] 63 hS0 (by kernel_rfl)) ?_
 rintro _ w3 ⟨rfl, hS4⟩
 have hS4 : St _ _ w3 [boxE w0.heap.size [.int .i64 p0_0, .int .i64 p0_1, .int .i64 p0_2] 63] := hS4
 refine gx_k (.bool false) w3 ?_
 refine gx_nil ?_
 refine gx_thenN ?_
 refine hK2 _ _ ?_
 refine gx_seq (fun K5 hK6 => ?_)
 refine gx_region ?_
 refine gx_k (.pointer (some ⟨w0.heap.size, 0, none⟩)) w3 ?_
 refine gx_v (.int .i64 p0_0) w3 (run_load1 rfl (by kernel_rfl) (fun _ => by kernel_rfl) (hS4.box 0 rfl 0 rfl)) ?_
 refine gx_k (.int .i64 p1) w3 ?_
 rcases if_in hF with ⟨h7, hF⟩ | ⟨h7, hF⟩
 ·refine gx_v (.bool true) w3 (run_boolE (decide_eq_true h7) (by kernel_rfl)) ?_
  refine gx_k (.bool true) w3 (gx_k (.pointer (some ⟨w0.heap.size, 0, none⟩)) w3 ?_)
  refine gx_v (.int .i64 p0_0) w3 (run_load1 rfl (by kernel_rfl) (fun _ => by kernel_rfl) (hS4.box 0 rfl 0 rfl)) ?_
  refine gx_k (.pointer (some ⟨w0.heap.size, 1, none⟩)) w3 ?_
  refine gx_v (.int .i64 p0_1) w3 (run_load1 rfl (by kernel_rfl) (fun _ => by kernel_rfl) (hS4.box 0 rfl 1 rfl)) ?_
  rcases if_in hF with ⟨h8, hF⟩ | ⟨h8, hF⟩
  ·refine gx_v (.bool true) w3 (run_boolE (decide_eq_true h8) (by kernel_rfl)) ?_
   refine gx_k (.bool true) w3 (gx_k (.bool true) w3 (gx_k (.pointer (some ⟨w0.heap.size, 1, none⟩)) w3 ?_))
   refine gx_v (.int .i64 p0_1) w3 (run_load1 rfl (by kernel_rfl) (fun _ => by kernel_rfl) (hS4.box 0 rfl 1 rfl)) ?_
   refine gx_k (.int .i64 p2) w3 (gx_k (.bool (decide (p0_1 < p2))) w3 (gx_k (.bool (decide (p0_1 < p2))) w3 (gx_k (.bool (decide (p0_1 < p2))) w3 ?_)))
   refine gx_nil ?_
   refine gx_thenN ?_
   refine hK6 _ _ ?_
   refine gx_ret ?_
   obtain rfl := Option.some.inj hF
   exact gx_fin (.bool (decide (p0_1 < p2))) (by kernel_rfl) (by kernel_rfl) ⟨_, rfl, rfl, (hS4.pick [] rfl rfl)⟩
  ·refine gx_v (.bool false) w3 (run_boolE (decide_eq_false h8) (by kernel_rfl)) ?_
   refine gx_k (.bool false) w3 (gx_k (.bool false) w3 (gx_o (gx_o (gx_o (gx_o (gx_k (.bool false) w3 (gx_k (.bool false) w3 ?_)))))))
   refine gx_nil ?_
   refine gx_thenN ?_
   refine hK6 _ _ ?_
   refine gx_ret ?_
   obtain rfl := Option.some.inj hF
   exact gx_fin (.bool false) (by kernel_rfl) (by kernel_rfl) ⟨_, rfl, rfl, (hS4.pick [] rfl rfl)⟩
 ·refine gx_v (.bool false) w3 (run_boolE (decide_eq_false h7) (by kernel_rfl)) ?_
  refine gx_k (.bool false) w3 (gx_o (gx_o (gx_o (gx_o (gx_o (gx_k (.bool false) w3 (gx_k (.bool false) w3 ?_)))))))
  refine gx_o (gx_o (gx_o (gx_o (gx_k (.bool false) w3 (gx_k (.bool false) w3 ?_)))))
  refine gx_nil ?_
  refine gx_thenN ?_
  refine hK6 _ _ ?_
  refine gx_ret ?_
  obtain rfl := Option.some.inj hF
  exact gx_fin (.bool false) (by kernel_rfl) (by kernel_rfl) ⟨_, rfl, rfl, (hS4.pick [] rfl rfl)⟩

end Go.Proofs.Ytcleaepcjbfmhaa
