/-
  Readers that are lent, walked.
-/
import Derived.Test.YtgjlpiljacecpaaZU
namespace Go.Proofs.Ytgjlpiljacecpaa
open Go Go.RowKit
set_option linter.unusedVariables false
set_option maxRecDepth 100000
set_option maxHeartbeats 4000000
abbrev eR (g h : Nat) (A : Option Addr) (l : List Int) (c : Nat) : Ent := boxE g [.pointer (some ⟨h, 0, none⟩), .slice A l.length c] 72
abbrev eS (g : Nat) (b : Bool) : Ent := boxE g [.bool b] 69
def bBad (_N : Nat) (_p0 : List Int) (q0 : Bool) : Option (Bool × Bool) :=
 some (q0, q0)
def bBad_R (p0 : List Int) (g0 gs0 : Nat) (A0 : Option Addr) (c0 : Nat) (r : Bool × Bool) (w0 : World) (v : Value) (w : World) : Prop := v = .bool r.1 ∧ St [g0, gs0] w0 w [eR g0 gs0 A0 p0 c0, eS gs0 r.2]
theorem bBad_ok (N : Nat) (p0 : List Int) (q0 : Bool) (g0 gs0 : Nat) (A0 : Option Addr) (c0 : Nat) (r : Bool × Bool) (hF : bBad N p0 q0 = some r) (w0 : World) (hr0 : w0.heap[g0]? = some (.cells [.pointer (some ⟨gs0, 0, none⟩), .slice A0 p0.length c0].toArray 72 (0, 0))) (hs0 : w0.heap[gs0]? = some (.cells [.bool q0].toArray 69 (0, 0))) (hne0 : g0 ≠ gs0) (_hv0 : Vw [g0, gs0] .u8 w0 A0 c0 p0) :
  Calls Try.prog 44 #[.pointer (some ⟨g0, 0, none⟩)] w0 fun e w => ∃ v, e = .returned v ∧ bBad_R p0 g0 gs0 A0 c0 r w0 v w := by
 have hS0 := St.lent hr0 hs0 hne0
 unfold bBad at hF
 refine calls_of Try.func44 rfl ⟨((vP g0) :: un 20 ([])).toArray, []⟩ (by kernel_rfl) (gx_seq (fun K1 hK2 => gx_region (gx_k (.bool false) w0 (gx_nil (gx_thenN (hK2 _ _ (gx_seq (fun K3 hK4 => ?_))))))))
 refine gx_region (gx_k (vP g0) w0 (gx_k (.bool false) w0 (gx_k (.bool false) w0 (gx_k (vP g0) w0 (gx_k (vP g0) w0 (gx_k (vP g0) w0 (gx_v (vP gs0) w0 (rl1 (hS0.box 0 rfl 0 rfl)) (gx_k (.bool true) w0 (gx_k (.bool true) w0 (gx_k (vP g0) w0 (gx_k (vP g0) w0 (gx_k (vP g0) w0 (gx_v (vP gs0) w0 (rl1 (hS0.box 0 rfl 0 rfl)) (gx_k (vP gs0) w0 (gx_k (vP gs0) w0 (gx_v (.bool q0) w0 (rl1 (hS0.box 1 rfl 0 rfl)) (gx_k (.bool q0) w0 (gx_k (.bool q0) w0 (gx_k (.bool q0) w0 ?_)))))))))))))))))))
 refine gx_nil (gx_thenN (hK4 _ _ (gx_ret ?_)))
 obtain rfl := sj hF
 exact gxF (.bool q0) ⟨_, rfl, rfl, hS0⟩
def bHas (_N : Nat) (p0 : List Int) (q0 : Bool) (p1 : Int) (p2 : Int) (p3 : Int) : Option (Bool × Bool) :=
 (if p1 ≥ 0 then (if p2 ≥ 0 then (if p1 ≤ ((p0.length : Nat) : Int) then (if p3 = 0 then none else (if p2 ≤ (IntKind.i64.wrap (Int.tdiv (IntKind.i64.wrap (((p0.length : Nat) : Int) - p1)) p3)) then some (true, q0) else some (false, true))) else some (false, true)) else some (false, true)) else some (false, true))
def bHas_R (p0 : List Int) (g0 gs0 : Nat) (A0 : Option Addr) (c0 : Nat) (r : Bool × Bool) (w0 : World) (v : Value) (w : World) : Prop := v = .bool r.1 ∧ St [g0, gs0] w0 w [eR g0 gs0 A0 p0 c0, eS gs0 r.2]
theorem bHas_ok (N : Nat) (p0 : List Int) (q0 : Bool) (p1 : Int) (p2 : Int) (p3 : Int) (g0 gs0 : Nat) (A0 : Option Addr) (c0 : Nat) (r : Bool × Bool) (hF : bHas N p0 q0 p1 p2 p3 = some r) (w0 : World) (hr0 : w0.heap[g0]? = some (.cells [.pointer (some ⟨gs0, 0, none⟩), .slice A0 p0.length c0].toArray 72 (0, 0))) (hs0 : w0.heap[gs0]? = some (.cells [.bool q0].toArray 69 (0, 0))) (hne0 : g0 ≠ gs0) (_hv0 : Vw [g0, gs0] .u8 w0 A0 c0 p0) :
  Calls Try.prog 68 #[.pointer (some ⟨g0, 0, none⟩), .int .i64 p1, .int .i64 p2, .int .i64 p3] w0 fun e w => ∃ v, e = .returned v ∧ bHas_R p0 g0 gs0 A0 c0 r w0 v w := by
 have hS0 := St.lent hr0 hs0 hne0
 unfold bHas at hF
 refine calls_of Try.func68 rfl ⟨((vP g0) :: (i6 p1) :: (i6 p2) :: (i6 p3) :: un 39 ([])).toArray, []⟩ (by kernel_rfl) (gx_seq (fun K1 hK2 => gx_region (gx_k (.bool false) w0 (gx_nil (gx_thenN (hK2 _ _ (gx_seq (fun K3 hK4 => ?_))))))))
 refine gx_seq (fun K5 hK6 => gx_region (gx_k (vP g0) w0 (gx_k (.bool false) w0 (gx_nil (gx_thenN (hK6 _ _ (gx_no (by kernel_rfl) (gx_pass ?_))))))))
 refine gx_thenN (hK4 _ _ (gx_seq (fun K7 hK8 => gx_seq (fun K9 hK10 => gx_region (gx_k (i6 p1) w0 ?_)))))
 rcases if_in hF with ⟨h11, hF⟩ | ⟨h11, hF⟩
 refine gx_v (.bool true) w0 (rbE (decide_eq_true h11)) (gx_k (.bool true) w0 (gx_k (i6 p2) w0 ?_))
 rcases if_in hF with ⟨h12, hF⟩ | ⟨h12, hF⟩
 refine gx_v (.bool true) w0 (rbE (decide_eq_true h12)) (gx_k (.bool true) w0 (gx_k (.bool true) w0 (gx_k (i6 p1) w0 (gx_k (vP g0) w0 (gx_k (vP g0) w0 (gx_k (vQ g0 1) w0 (gx_v (.slice A0 p0.length c0) w0 (rl1 (hS0.box 0 rfl 1 rfl)) (gx_k (i6 ((p0.length : Nat) : Int)) w0 ?_))))))))
 rcases if_in hF with ⟨h13, hF⟩ | ⟨h13, hF⟩
 refine gx_v (.bool true) w0 (rbE (decide_eq_true h13)) (gx_k (.bool true) w0 (gx_k (.bool true) w0 (gx_k (i6 p2) w0 (gx_k (vP g0) w0 (gx_k (vP g0) w0 (gx_k (vQ g0 1) w0 (gx_v (.slice A0 p0.length c0) w0 (rl1 (hS0.box 0 rfl 1 rfl)) (gx_k (i6 ((p0.length : Nat) : Int)) w0 (gx_k (i6 p1) w0 (gx_k (i6 (iw (((p0.length : Nat) : Int) - p1))) w0 (gx_k (i6 p3) w0 ?_)))))))))))
 rcases if_in hF with ⟨h14, hF⟩ | ⟨h14, hF⟩
 cases hF
 refine gx_v (i6 (iw (Int.tdiv (iw (((p0.length : Nat) : Int) - p1)) p3))) w0 (run_quo (T := 3) rfl (by kernel_rfl) (by kernel_rfl) rfl h14) ?_
 rcases if_in hF with ⟨h15, hF⟩ | ⟨h15, hF⟩
 refine gx_v (.bool true) w0 (rbE (decide_eq_true h15)) (gx_k (.bool true) w0 (gx_nil (gx_thenN (hK10 _ _ (gx_yes (by kernel_rfl) (gx_seq (fun K16 hK17 => gx_region ?_)))))))
 refine gx_k (.bool true) w0 (gx_nil (gx_thenN (hK17 _ _ (gx_ret (gx_thenR ?_)))))
 obtain rfl := sj hF
 exact gxF (.bool true) ⟨_, rfl, rfl, hS0⟩
 refine gx_v (.bool false) w0 (rbE (decide_eq_false h15)) (gx_k (.bool false) w0 (gx_nil (gx_thenN (hK10 _ _ (gx_no (by kernel_rfl) (gx_pass (gx_thenN ?_)))))))
 refine hK8 _ _ (gx_seq (fun K18 hK19 => gx_region (gx_k (vP g0) w0 (gx_c (fun v w => v = vP gs0 ∧ w0 = w) (bTog_ok g0 gs0 _ _ _ _ w0 (hS0.get 0 rfl)) ?_))))
 rintro _ _ ⟨rfl, rfl⟩
 refine gx_k (vP gs0) w0 (gx_k (vP gs0) w0 (gx_s (st_store (j := 0) (v := (.bool true)) rfl (by kernel_rfl) (by kernel_rfl) rfl (fun _ => by kernel_rfl) hS0 1 rfl (by show 0 < 1; decide)) ?_))
 rintro w20 hS21
 have hS21 : St _ _ w20 [eR g0 gs0 A0 p0 c0, eS gs0 true] := hS21
 refine gx_nil (gx_thenN (hK19 _ _ (gx_seq (fun K22 hK23 => gx_region (gx_k (.bool false) w20 (gx_nil (gx_thenN ?_)))))))
 refine hK23 _ _ (gx_ret ?_)
 obtain rfl := sj hF
 exact gxF (.bool false) ⟨_, rfl, rfl, hS21⟩
 refine gx_v (.bool false) w0 (rbE (decide_eq_false h13)) (gx_k (.bool false) w0 (gx_k (.bool false) w0 (gx_o (gx_o (gx_o (gx_o (gx_o (gx_o (gx_o (gx_o (gx_o (gx_o (gx_o (gx_k (.bool false) w0 (gx_nil (gx_thenN (hK10 _ _ (gx_no (by kernel_rfl) (gx_pass ?_)))))))))))))))))))
 refine gx_thenN (hK8 _ _ (gx_seq (fun K24 hK25 => gx_region (gx_k (vP g0) w0 (gx_c (fun v w => v = vP gs0 ∧ w0 = w) (bTog_ok g0 gs0 _ _ _ _ w0 (hS0.get 0 rfl)) ?_)))))
 rintro _ _ ⟨rfl, rfl⟩
 refine gx_k (vP gs0) w0 (gx_k (vP gs0) w0 (gx_s (st_store (j := 0) (v := (.bool true)) rfl (by kernel_rfl) (by kernel_rfl) rfl (fun _ => by kernel_rfl) hS0 1 rfl (by show 0 < 1; decide)) ?_))
 rintro w26 hS27
 have hS27 : St _ _ w26 [eR g0 gs0 A0 p0 c0, eS gs0 true] := hS27
 refine gx_nil (gx_thenN (hK25 _ _ (gx_seq (fun K28 hK29 => gx_region (gx_k (.bool false) w26 (gx_nil (gx_thenN ?_)))))))
 refine hK29 _ _ (gx_ret ?_)
 obtain rfl := sj hF
 exact gxF (.bool false) ⟨_, rfl, rfl, hS27⟩
 refine gx_v (.bool false) w0 (rbE (decide_eq_false h12)) (gx_k (.bool false) w0 (gx_k (.bool false) w0 (gx_o (gx_o (gx_o (gx_o (gx_o (gx_o (gx_o (gx_k (.bool false) w0 (gx_k (.bool false) w0 (gx_o (gx_o (gx_o (gx_o (gx_o (gx_o (gx_o (gx_o (gx_o (gx_o (gx_o (gx_k (.bool false) w0 (gx_nil (gx_thenN (hK10 _ _ (gx_no (by kernel_rfl) ?_)))))))))))))))))))))))))))
 refine gx_pass (gx_thenN (hK8 _ _ (gx_seq (fun K30 hK31 => gx_region (gx_k (vP g0) w0 (gx_c (fun v w => v = vP gs0 ∧ w0 = w) (bTog_ok g0 gs0 _ _ _ _ w0 (hS0.get 0 rfl)) ?_))))))
 rintro _ _ ⟨rfl, rfl⟩
 refine gx_k (vP gs0) w0 (gx_k (vP gs0) w0 (gx_s (st_store (j := 0) (v := (.bool true)) rfl (by kernel_rfl) (by kernel_rfl) rfl (fun _ => by kernel_rfl) hS0 1 rfl (by show 0 < 1; decide)) ?_))
 rintro w32 hS33
 have hS33 : St _ _ w32 [eR g0 gs0 A0 p0 c0, eS gs0 true] := hS33
 refine gx_nil (gx_thenN (hK31 _ _ (gx_seq (fun K34 hK35 => gx_region (gx_k (.bool false) w32 (gx_nil (gx_thenN ?_)))))))
 refine hK35 _ _ (gx_ret ?_)
 obtain rfl := sj hF
 exact gxF (.bool false) ⟨_, rfl, rfl, hS33⟩
 refine gx_v (.bool false) w0 (rbE (decide_eq_false h11)) (gx_k (.bool false) w0 (gx_o (gx_o (gx_k (.bool false) w0 (gx_k (.bool false) w0 (gx_o (gx_o (gx_o (gx_o (gx_o (gx_o (gx_o (gx_k (.bool false) w0 (gx_k (.bool false) w0 (gx_o (gx_o (gx_o (gx_o (gx_o (gx_o (gx_o (gx_o (gx_o (gx_o (gx_o (gx_k (.bool false) w0 (gx_nil (gx_thenN (hK10 _ _ ?_)))))))))))))))))))))))))))))
 refine gx_no (by kernel_rfl) (gx_pass (gx_thenN (hK8 _ _ (gx_seq (fun K36 hK37 => gx_region (gx_k (vP g0) w0 (gx_c (fun v w => v = vP gs0 ∧ w0 = w) (bTog_ok g0 gs0 _ _ _ _ w0 (hS0.get 0 rfl)) ?_)))))))
 rintro _ _ ⟨rfl, rfl⟩
 refine gx_k (vP gs0) w0 (gx_k (vP gs0) w0 (gx_s (st_store (j := 0) (v := (.bool true)) rfl (by kernel_rfl) (by kernel_rfl) rfl (fun _ => by kernel_rfl) hS0 1 rfl (by show 0 < 1; decide)) ?_))
 rintro w38 hS39
 have hS39 : St _ _ w38 [eR g0 gs0 A0 p0 c0, eS gs0 true] := hS39
 refine gx_nil (gx_thenN (hK37 _ _ (gx_seq (fun K40 hK41 => gx_region (gx_k (.bool false) w38 (gx_nil (gx_thenN ?_)))))))
 refine hK41 _ _ (gx_ret ?_)
 obtain rfl := sj hF
 exact gxF (.bool false) ⟨_, rfl, rfl, hS39⟩
def bWord (N : Nat) (p0 : List Int) (q0 : Bool) (p1 : Int) : Option (Int × Bool) :=
 ((bHas N p0 q0 p1 (1 : Int) (2 : Int)).bind fun (b11, b12) => (match b11 with | true => ((ix p0 p1).bind fun x18 => ((ix p0 (IntKind.i64.wrap (p1 + 1))).bind fun x20 => some ((ior .u16 (IntKind.u16.wrap ((IntKind.u16.wrap x18) * 256)) (IntKind.u16.wrap x20)), b12))) | false => some (0, b12)))
def bWord_R (p0 : List Int) (g0 gs0 : Nat) (A0 : Option Addr) (c0 : Nat) (r : Int × Bool) (w0 : World) (v : Value) (w : World) : Prop := v = .int .u16 r.1 ∧ St [g0, gs0] w0 w [eR g0 gs0 A0 p0 c0, eS gs0 r.2]
theorem bWord_ok (N : Nat) (p0 : List Int) (q0 : Bool) (p1 : Int) (g0 gs0 : Nat) (A0 : Option Addr) (c0 : Nat) (r : Int × Bool) (hF : bWord N p0 q0 p1 = some r) (w0 : World) (hr0 : w0.heap[g0]? = some (.cells [.pointer (some ⟨gs0, 0, none⟩), .slice A0 p0.length c0].toArray 72 (0, 0))) (hs0 : w0.heap[gs0]? = some (.cells [.bool q0].toArray 69 (0, 0))) (hne0 : g0 ≠ gs0) (hv0 : Vw [g0, gs0] .u8 w0 A0 c0 p0) :
  Calls Try.prog 45 #[.pointer (some ⟨g0, 0, none⟩), .int .i64 p1] w0 fun e w => ∃ v, e = .returned v ∧ bWord_R p0 g0 gs0 A0 c0 r w0 v w := by
 have hS0 := St.lent hr0 hs0 hne0
 unfold bWord at hF
 refine calls_of Try.func45 rfl ⟨((vP g0) :: (i6 p1) :: un 26 ([])).toArray, []⟩ (by kernel_rfl) (gx_seq (fun K1 hK2 => gx_region (gx_k (u6 0) w0 (gx_nil (gx_thenN (hK2 _ _ (gx_seq (fun K3 hK4 => ?_))))))))
 refine gx_seq (fun K5 hK6 => gx_region (gx_k (vP g0) w0 (gx_k (i6 p1) w0 ?_)))
 obtain ⟨⟨b11, b12⟩, hc8, hF⟩ := bind_in hF
 try dsimp only at hF
 refine gx_c _ (bHas_ok N p0 q0 p1 (1 : Int) (2 : Int) g0 gs0 A0 c0 _ hc8 w0 (hS0.get 0 rfl) (hS0.get 1 rfl) (hS0.ne 0 1 rfl rfl (by decide)) (hS0.again hv0)) ?_
 rintro _ w9 ⟨rfl, hT13⟩
 have hS10 : St _ _ w9 [eR g0 gs0 A0 p0 c0, eS gs0 b12] := hS0.lend 0 1 rfl rfl _ hT13
 rcases b11 with _ | _
 try dsimp only at hF
 refine gx_k (.bool true) w9 (gx_nil (gx_thenN (hK6 _ _ (gx_yes (by kernel_rfl) (gx_seq (fun K22 hK23 => gx_region (gx_k (u6 0) w9 ?_)))))))
 refine gx_nil (gx_thenN (hK23 _ _ (gx_ret (gx_thenR ?_))))
 obtain rfl := sj hF
 exact gxF (u6 0) ⟨_, rfl, rfl, hS10⟩
 try dsimp only at hF
 refine gx_k (.bool false) w9 (gx_nil (gx_thenN (hK6 _ _ (gx_no (by kernel_rfl) (gx_pass (gx_thenN (hK4 _ _ ?_)))))))
 refine gx_seq (fun K14 hK15 => gdst (fun w => St [g0, gs0] w0 w [eR g0 gs0 A0 p0 c0, eS gs0 b12]) 20 ?_)
 have hS17 := hS10.drew
 generalize w9.drew = w16 at hS17 ⊢
 refine gv1 0 9 (vP g0) rfl hS17 (gv1 1 10 (vP g0) rfl hS17 (gv1 2 11 (vQ g0 1) rfl hS17 (gu1 3 12 (.slice A0 p0.length c0) rfl hS17 (fun w hSw => rl1 (hSw.box 0 rfl 1 rfl)) (gv1 4 13 (i6 p1) rfl hS17 ?_))))
 obtain ⟨x18, hx19, hF⟩ := bind_in hF
 refine gu1 5 14 (pI p1 A0) rfl hS17 (fun w hSw => rix 5 .i64 hx19 ((hS17.view hv0))) (gu1 6 15 (.int .u8 x18) rfl hS17 (fun w hSw => rlx (hSw.view hv0) hx19) (gv1 7 16 (u6 (IntKind.u16.wrap x18)) rfl hS17 (gv1 8 17 (u6 (IntKind.u16.wrap ((IntKind.u16.wrap x18) * 256))) rfl hS17 (gv1 9 18 (vP g0) rfl hS17 (gv1 10 19 (vP g0) rfl hS17 (gv1 11 20 (vQ g0 1) rfl hS17 (gu1 12 21 (.slice A0 p0.length c0) rfl hS17 (fun w hSw => rl1 (hSw.box 0 rfl 1 rfl)) ?_)))))))
 refine gv1 13 22 (i6 p1) rfl hS17 (gv1 14 23 (i6 (iw (p1 + 1))) rfl hS17 ?_)
 obtain ⟨x20, hx21, hF⟩ := bind_in hF
 refine gu1 15 24 (pI (iw (p1 + 1)) A0) rfl hS17 (fun w hSw => rix 5 .i64 hx21 ((hS17.view hv0))) (gu1 16 25 (.int .u8 x20) rfl hS17 (fun w hSw => rlx (hSw.view hv0) hx21) (gv1 17 26 (u6 (IntKind.u16.wrap x20)) rfl hS17 (gv1 18 27 (u6 (ior .u16 (IntKind.u16.wrap ((IntKind.u16.wrap x18) * 256)) (IntKind.u16.wrap x20))) rfl hS17 (gv1 19 4 (u6 (ior .u16 (IntKind.u16.wrap ((IntKind.u16.wrap x18) * 256)) (IntKind.u16.wrap x20))) rfl hS17 (gd_done (by kernel_rfl) (gx_thenN (hK15 _ _ ?_)))))))
 refine gx_ret ?_
 obtain rfl := sj hF
 exact gxF (u6 (ior .u16 (IntKind.u16.wrap ((IntKind.u16.wrap x18) * 256)) (IntKind.u16.wrap x20))) ⟨_, rfl, rfl, hS17⟩
def bWords_L1 (N : Nat) (p0 : List Int) (p1 : Int) (l16 : List Int) : Nat → Bool → List Int → Int → Option (Bool × List Int)
 | 0, _, _, _ => none
 | k40+1, b36, l37, x39 => (if x39 < ((l16.length : Nat) : Int) then ((bWord N p0 b36 (IntKind.i64.wrap (p1 + (IntKind.i64.wrap ((2 : Int) * x39))))).bind fun (x55, b56) => ((ix l37 x39).bind fun _x58 => ((setx l37 x39 x55).bind fun l62 => bWords_L1 N p0 p1 l16 k40 b56 l62 (IntKind.i64.wrap (x39 + 1))))) else some ((b36, l37)))
def bWords (N : Nat) (p0 : List Int) (q0 : Bool) (p1 : Int) (p2 : Int) : Option (List Int × Bool) :=
 ((bHas N p0 q0 p1 p2 (2 : Int)).bind fun (b11, b12) => (match b11 with | true => ((mkx p2).bind fun l16 => ((bWords_L1 N p0 p1 l16 N b12 l16 0 : Option (Bool × List Int)).bind fun (b25, l26) => some (l26, b25))) | false => some ([], b12)))
def bWords_R (p0 : List Int) (g0 gs0 : Nat) (A0 : Option Addr) (c0 : Nat) (r : List Int × Bool) (w0 : World) (v : Value) (w : World) : Prop := ∃ (A0' : Option Addr) (c0' : Nat), v = .slice A0' r.1.length c0' ∧ St [g0, gs0] w0 w [eR g0 gs0 A0 p0 c0, eS gs0 r.2, rowE .u16 31 A0' c0' r.1]
theorem bWords_ok (N : Nat) (p0 : List Int) (q0 : Bool) (p1 : Int) (p2 : Int) (g0 gs0 : Nat) (A0 : Option Addr) (c0 : Nat) (r : List Int × Bool) (hF : bWords N p0 q0 p1 p2 = some r) (w0 : World) (hr0 : w0.heap[g0]? = some (.cells [.pointer (some ⟨gs0, 0, none⟩), .slice A0 p0.length c0].toArray 72 (0, 0))) (hs0 : w0.heap[gs0]? = some (.cells [.bool q0].toArray 69 (0, 0))) (hne0 : g0 ≠ gs0) (hv0 : Vw [g0, gs0] .u8 w0 A0 c0 p0) :
  Calls Try.prog 83 #[.pointer (some ⟨g0, 0, none⟩), .int .i64 p1, .int .i64 p2] w0 fun e w => ∃ v, e = .returned v ∧ bWords_R p0 g0 gs0 A0 c0 r w0 v w := by
 have hS0 := St.lent hr0 hs0 hne0
 unfold bWords at hF
 refine calls_of Try.func83 rfl ⟨((vP g0) :: (i6 p1) :: (i6 p2) :: un 29 ([])).toArray, []⟩ (by kernel_rfl) (gx_seq (fun K1 hK2 => gx_region (gx_k (nS) w0 (gx_nil (gx_thenN (hK2 _ _ (gx_seq (fun K3 hK4 => ?_))))))))
 refine gx_seq (fun K5 hK6 => gx_region (gx_k (vP g0) w0 (gx_k (i6 p1) w0 (gx_k (i6 p2) w0 ?_))))
 obtain ⟨⟨b11, b12⟩, hc8, hF⟩ := bind_in hF
 try dsimp only at hF
 refine gx_c _ (bHas_ok N p0 q0 p1 p2 (2 : Int) g0 gs0 A0 c0 _ hc8 w0 (hS0.get 0 rfl) (hS0.get 1 rfl) (hS0.ne 0 1 rfl rfl (by decide)) (hS0.again hv0)) ?_
 rintro _ w9 ⟨rfl, hT13⟩
 have hS10 : St _ _ w9 [eR g0 gs0 A0 p0 c0, eS gs0 b12] := hS0.lend 0 1 rfl rfl _ hT13
 rcases b11 with _ | _
 try dsimp only at hF
 refine gx_k (.bool true) w9 (gx_nil (gx_thenN (hK6 _ _ (gx_yes (by kernel_rfl) (gx_seq (fun K68 hK69 => gx_region (gx_k (nS) w9 ?_)))))))
 refine gx_nil (gx_thenN (hK69 _ _ (gx_ret (gx_thenR ?_))))
 have hS70 : St _ _ w9 [eR g0 gs0 A0 p0 c0, eS gs0 b12, rowE .u16 31 none 0 ([])] := hS10.nilrow .u16 31
 obtain rfl := sj hF
 exact gxF (.slice none (([] : List Int).length) 0) ⟨_, rfl, none, 0, rfl, hS70⟩
 try dsimp only at hF
 refine gx_k (.bool false) w9 (gx_nil (gx_thenN (hK6 _ _ (gx_no (by kernel_rfl) (gx_pass (gx_thenN (hK4 _ _ ?_)))))))
 refine gx_seq (fun K14 hK15 => gx_region (gx_k (i6 p2) w9 ?_))
 obtain ⟨l16, hm17, hF⟩ := bind_in hF
 refine gx_r (st_make (T := 31) (k := .u16) (by_ := 2) rfl (by kernel_rfl) (by kernel_rfl) (by kernel_rfl) (by kernel_rfl) (by kernel_rfl) hS10 hm17) ?_
 rintro _ w18 ⟨A20, c21, rfl, hS19⟩
 have hS19 : St _ _ w18 [eR g0 gs0 A0 p0 c0, eS gs0 b12, rowE .u16 31 A20 c21 l16] := hS19
 refine gx_k (.slice A20 l16.length c21) w18 (gx_nil (gx_thenN (hK15 _ _ ?_)))
 obtain ⟨c28, hE29, hO30⟩ := bind_in hF
 refine gx_cut (fun a w => ∃ (b25 : Bool) (l26 : List Int) (u24 : Nat → Value), a = ⟨((vP g0) :: (i6 p1) :: (i6 p2) :: un 3 ((nS) :: (.slice A20 l16.length c21) :: (u24 0) :: (vP g0) :: (i6 p1) :: (i6 p2) :: (.bool true) :: (.bool false) :: (i6 p2) :: dd u24 1 16 (undef :: []))).toArray, []⟩ ∧ (b25, l26) = c28 ∧ St [g0, gs0] w0 w [eR g0 gs0 A0 p0 c0, eS gs0 b25, rowE .u16 31 A20 c21 l26] ∧ l16.length = l26.length) ?_ ?_
 refine gx_seq (fun K31 hK32 => gx_region (gx_k (.slice A20 l16.length c21) w18 (gx_k (i6 ((l16.length : Nat) : Int)) w18 (gx_k (i6 0) w18 (gx_nil (gx_thenN (hK32 _ _ (gx_block (gx_loop (fun k a w => ∃ (b36 : Bool) (l37 : List Int) (x39 : Int) (u35 : Nat → Value), a = ⟨((vP g0) :: (i6 p1) :: (i6 p2) :: un 3 ((nS) :: (.slice A20 l16.length c21) :: (u35 0) :: (vP g0) :: (i6 p1) :: (i6 p2) :: (.bool true) :: (.bool false) :: (i6 p2) :: dd u35 1 2 ((i6 ((l16.length : Nat) : Int)) :: (i6 x39) :: dd u35 3 12 (undef :: [])))).toArray, []⟩ ∧ bWords_L1 N p0 p1 l16 k b36 l37 x39 = some c28 ∧ St [g0, gs0] w0 w [eR g0 gs0 A0 p0 c0, eS gs0 b36, rowE .u16 31 A20 c21 l37] ∧ l16.length = l37.length) N ?_ ?_)))))))))
 exact ⟨b12, l16, 0, (fun i => List.getD (undef :: (.slice A20 l16.length c21) :: (.slice A20 l16.length c21) :: undef :: undef :: undef :: undef :: undef :: undef :: undef :: undef :: undef :: undef :: undef :: undef :: []) i undef), by kernel_rfl, hE29, hS19, rfl⟩
 rintro k40 _ w33 ⟨b36, l37, x39, u35, rfl, hL41, hS34, hn38⟩
 rcases k40 with _ | k40
 cases hL41
 first | rw [bWords_L1] at hL41 | unfold bWords_L1 at hL41
 refine gx_seq (fun K42 hK43 => gx_region ?_)
 rcases if_in hL41 with ⟨h44, hL41⟩ | ⟨h44, hL41⟩
 refine gx_v (.bool true) w33 (rbE (decide_eq_true h44)) (gx_nil (gx_thenN (hK43 _ _ (gx_seq (fun K45 hK46 => gx_yes (by kernel_rfl) (gx_pass (gx_thenN ?_)))))))
 refine hK46 _ _ (gx_seq (fun K47 hK48 => gx_block (gx_seq (fun K49 hK50 => gx_region (gx_k (i6 x39) w33 (gx_k (i6 x39) w33 (gx_nil (gx_thenN ?_))))))))
 refine hK50 _ _ (gx_region (gx_k (.slice A20 l16.length c21) w33 (gx_k (i6 x39) w33 (gx_k (vP g0) w33 (gx_k (i6 p1) w33 (gx_k (i6 x39) w33 (gx_k (i6 (iw ((2 : Int) * x39))) w33 (gx_k (i6 (iw (p1 + (iw ((2 : Int) * x39))))) w33 ?_))))))))
 obtain ⟨⟨x55, b56⟩, hc52, hL41⟩ := bind_in hL41
 try dsimp only at hL41
 refine gx_c _ (bWord_ok N p0 b36 (iw (p1 + (iw ((2 : Int) * x39)))) g0 gs0 A0 c0 _ hc52 w33 (hS34.get 0 rfl) (hS34.get 1 rfl) (hS34.ne 0 1 rfl rfl (by decide)) (hS34.again hv0)) ?_
 rintro _ w53 ⟨rfl, hT57⟩
 have hS54 : St _ _ w53 [eR g0 gs0 A0 p0 c0, eS gs0 b56, rowE .u16 31 A20 c21 l37] := hS34.lend 0 1 rfl rfl _ hT57
 obtain ⟨x58, hx59, hL41⟩ := bind_in hL41
 refine gx_v (pI x39 A20) w53 (riy 31 .i64 hx59 hn38 (((hS54.row 2 rfl).1))) ?_
 obtain ⟨l62, hx63, hL41⟩ := bind_in hL41
 refine gx_s (st_storeix rfl (by kernel_rfl) (by kernel_rfl) (fun _ => by kernel_rfl) hS54 2 rfl hx63) ?_
 rintro w60 hS61
 have hS61 : St _ _ w60 [eR g0 gs0 A0 p0 c0, eS gs0 b56, rowE .u16 31 A20 c21 l62] := hS61
 refine gx_nil (gx_blkN (gx_thenN (hK48 _ _ (gx_region (gx_k (i6 (iw (x39 + 1))) w60 (gx_k (i6 (iw (x39 + 1))) w60 (gx_nil (gx_thenN ?_))))))))
 exact ⟨k40, Nat.lt_succ_self k40, b56, l62, (iw (x39 + 1)), (fun i => List.getD ((i6 x39) :: (u35 1) :: (u35 2) :: (.bool true) :: (i6 x39) :: (.slice A20 l16.length c21) :: (i6 x39) :: (vP g0) :: (i6 p1) :: (i6 x39) :: (i6 (iw ((2 : Int) * x39))) :: (i6 (iw (p1 + (iw ((2 : Int) * x39))))) :: (u6 x55) :: (pI x39 A20) :: (i6 (iw (x39 + 1))) :: []) i undef), by kernel_rfl, hL41, hS61, (hn38.trans (setx_len hx63).symm)⟩
 refine gx_v (.bool false) w33 (rbE (decide_eq_false h44)) (gx_nil (gx_thenN (hK43 _ _ (gx_seq (fun K64 hK65 => gx_no (by kernel_rfl) (gx_exit (gx_thenE ?_)))))))
 refine gx_thenE (gx_blkE (gx_thenN ?_))
 exact ⟨b36, l37, (fun i => List.getD ((u35 0) :: (u35 1) :: (u35 2) :: (i6 ((l16.length : Nat) : Int)) :: (i6 x39) :: (.bool false) :: (u35 4) :: (u35 5) :: (u35 6) :: (u35 7) :: (u35 8) :: (u35 9) :: (u35 10) :: (u35 11) :: (u35 12) :: (u35 13) :: (u35 14) :: []) i undef), by kernel_rfl, (sj hL41), hS34, hn38⟩
 rintro _ w22 ⟨b25, l26, u24, rfl, rfl, hS23, hn27⟩
 try dsimp only at hO30
 refine gx_seq (fun K66 hK67 => gx_region (gx_k (.slice A20 l16.length c21) w22 (gx_k (.slice A20 l16.length c21) w22 (gx_nil (gx_thenN (hK67 _ _ (gx_ret ?_)))))))
 obtain rfl := sj hO30
 exact gxF (.slice A20 l16.length c21) ⟨_, rfl, A20, c21, by rw [← hn27] <;> kernel_rfl, hS23⟩
def cCount (_N : Nat) (p0 : Int) : Option (Bool) :=
 (if p0 ≥ 1 then some (decide (p0 ≤ 65535)) else some false)
def cCount_R (r : Bool) (w0 : World) (v : Value) (w : World) : Prop := v = .bool r ∧ St [] w0 w []
theorem cCount_ok (N : Nat) (p0 : Int)  (r : Bool) (hF : cCount N p0 = some r) (w0 : World)  :
  Calls Try.prog 143 #[.int .i64 p0] w0 fun e w => ∃ v, e = .returned v ∧ cCount_R r w0 v w := by
 have hS0 := St.start w0
 unfold cCount at hF
 refine calls_of Try.func143 rfl ⟨((i6 p0) :: un 8 ([])).toArray, []⟩ (by kernel_rfl) (gx_seq (fun K1 hK2 => gx_region (gx_k (.bool false) w0 (gx_nil (gx_thenN (hK2 _ _ (gx_seq (fun K3 hK4 => ?_))))))))
 refine gx_region (gx_k (i6 p0) w0 ?_)
 rcases if_in hF with ⟨h5, hF⟩ | ⟨h5, hF⟩
 refine gx_v (.bool true) w0 (rbE (decide_eq_true h5)) (gx_k (.bool true) w0 (gx_k (i6 p0) w0 (gx_k (.bool (decide (p0 ≤ 65535))) w0 (gx_k (.bool (decide (p0 ≤ 65535))) w0 (gx_k (.bool (decide (p0 ≤ 65535))) w0 (gx_nil (gx_thenN (hK4 _ _ (gx_ret ?_)))))))))
 obtain rfl := sj hF
 exact gxF (.bool (decide (p0 ≤ 65535))) ⟨_, rfl, rfl, hS0⟩
 refine gx_v (.bool false) w0 (rbE (decide_eq_false h5)) (gx_k (.bool false) w0 (gx_o (gx_o (gx_k (.bool false) w0 (gx_k (.bool false) w0 (gx_nil (gx_thenN (hK4 _ _ (gx_ret ?_)))))))))
 obtain rfl := sj hF
 exact gxF (.bool false) ⟨_, rfl, rfl, hS0⟩
def cFits (_N : Nat) (zb : Int) (zg : Int) (_p0_2 : Int) (p1 : Int) (p2 : Int) : Option (Bool) :=
 (if zb > p1 then (if zb ≤ zg then some (decide (zg < p2)) else some false) else some false)
def cFits_R (r : Bool) (w0 : World) (v : Value) (w : World) : Prop := v = .bool r ∧ St [] w0 w []
theorem cFits_ok (N : Nat) (zb : Int) (zg : Int) (zl : Int) (p1 : Int) (p2 : Int)  (r : Bool) (hF : cFits N zb zg zl p1 p2 = some r) (w0 : World)  :
  Calls Try.prog 142 #[.agg #[.int .i64 zb, .int .i64 zg, .int .i64 zl], .int .i64 p1, .int .i64 p2] w0 fun e w => ∃ v, e = .returned v ∧ cFits_R r w0 v w := by
 have hS0 := St.start w0
 unfold cFits at hF
 refine calls_of Try.func142 rfl ⟨((.agg #[i6 zb, i6 zg, i6 zl]) :: (i6 p1) :: (i6 p2) :: un 21 ([])).toArray, []⟩ (by kernel_rfl) (gx_seq (fun K1 hK2 => gx_region (gx_r (st_boxed [i6 zb, i6 zg, i6 zl] 226 hS0 (by kernel_rfl)) ?_)))
 rintro _ w3 ⟨rfl, hS4⟩
 have hS4 : St _ _ w3 [boxE w0.heap.size [i6 zb, i6 zg, i6 zl] 226] := hS4
 refine gx_k (.bool false) w3 (gx_nil (gx_thenN (hK2 _ _ (gx_seq (fun K5 hK6 => gx_region (gx_k (vP w0.heap.size) w3 (gx_v (i6 zb) w3 (rl1 (hS4.box 0 rfl 0 rfl)) ?_)))))))
 refine gx_k (i6 p1) w3 ?_
 rcases if_in hF with ⟨h7, hF⟩ | ⟨h7, hF⟩
 refine gx_v (.bool true) w3 (rbE (decide_eq_true h7)) (gx_k (.bool true) w3 (gx_k (vP w0.heap.size) w3 (gx_v (i6 zb) w3 (rl1 (hS4.box 0 rfl 0 rfl)) (gx_k (vQ w0.heap.size 1) w3 (gx_v (i6 zg) w3 (rl1 (hS4.box 0 rfl 1 rfl)) ?_)))))
 rcases if_in hF with ⟨h8, hF⟩ | ⟨h8, hF⟩
 refine gx_v (.bool true) w3 (rbE (decide_eq_true h8)) (gx_k (.bool true) w3 (gx_k (.bool true) w3 (gx_k (vQ w0.heap.size 1) w3 (gx_v (i6 zg) w3 (rl1 (hS4.box 0 rfl 1 rfl)) (gx_k (i6 p2) w3 (gx_k (.bool (decide (zg < p2))) w3 (gx_k (.bool (decide (zg < p2))) w3 (gx_k (.bool (decide (zg < p2))) w3 (gx_nil (gx_thenN (hK6 _ _ (gx_ret ?_))))))))))))
 obtain rfl := sj hF
 exact gxF (.bool (decide (zg < p2))) ⟨_, rfl, rfl, (hS4.pick [] rfl rfl)⟩
 refine gx_v (.bool false) w3 (rbE (decide_eq_false h8)) (gx_k (.bool false) w3 (gx_k (.bool false) w3 (gx_o (gx_o (gx_o (gx_o (gx_k (.bool false) w3 (gx_k (.bool false) w3 (gx_nil (gx_thenN (hK6 _ _ (gx_ret ?_))))))))))))
 obtain rfl := sj hF
 exact gxF (.bool false) ⟨_, rfl, rfl, (hS4.pick [] rfl rfl)⟩
 refine gx_v (.bool false) w3 (rbE (decide_eq_false h7)) (gx_k (.bool false) w3 (gx_o (gx_o (gx_o (gx_o (gx_o (gx_k (.bool false) w3 (gx_k (.bool false) w3 (gx_o (gx_o (gx_o (gx_o (gx_k (.bool false) w3 (gx_k (.bool false) w3 (gx_nil (gx_thenN (hK6 _ _ (gx_ret ?_))))))))))))))))))
 obtain rfl := sj hF
 exact gxF (.bool false) ⟨_, rfl, rfl, (hS4.pick [] rfl rfl)⟩
end Go.Proofs.Ytgjlpiljacecpaa
