/-
  The program, walked.
-/
import Derived.Test.YtjndolnjhbgflaaP0
namespace Go.Proofs.Ytjndolnjhbgflaa
open Go Go.RowKit
set_option linter.unusedVariables false

def encembedSeq : Enc (List Int × Int × Int × Int) := (pairE (rowOf (intE .i64)) (pairE (intE .u8) (pairE (intE .u8) (intE .u8))))

def oembedSeq : OEnc (List Int × Int × Int × Int) where
  E := encembedSeq
  k := .i64
  T := 3
  row := fun x => x.1
  cells := fun A c x => [.slice A x.1.length c, .int .u8 x.2.1, .int .u8 x.2.2.1, .int .u8 x.2.2.2]
  pos := by decide
  len := fun _ _ _ => rfl
  one := fun A c x v hv => by
    simp only [List.mem_cons, List.not_mem_nil, or_false] at hv
    rcases hv with rfl | rfl | rfl | rfl <;> rfl
  rd := fun {w ft A c x} h => (rd_pair (rd_row rfl h) (rd_pair (rd_intg .u8 x.2.1) (rd_pair (rd_intg .u8 x.2.2.1) (rd_intg .u8 x.2.2.2))))

def pLev (_N : Nat) (_p0_0 : List Int) (p0_1 : List Int) (p0_2 : Int) (_p0_3 : List Int) (p0_4 : List Int) (p1 : Int) : Option (Int) :=
 (((if p1 < 0 then some (Ctl.ret p0_2) else (if p1 ≥ ((p0_4.length : Nat) : Int) then some (Ctl.ret p0_2) else some (Ctl.go ()))) : Option (Ctl (Unit) (Int))).bind fun | Ctl.go () => ((ix p0_4 p1).bind fun x21 => ((ix p0_1 x21).bind fun x23 => some x23)) | Ctl.ret r => some r)

set_option linter.unusedVariables false in
def pLev_R (p0_0 : List Int) (p0_1 : List Int) (p0_2 : Int) (p0_3 : List Int) (p0_4 : List Int) (p1 : Int) (g0 : Nat) (A0_0 : Option Addr) (c0_0 : Nat) (A0_1 : Option Addr) (c0_1 : Nat) (A0_3 : Option Addr) (c0_3 : Nat) (A0_4 : Option Addr) (c0_4 : Nat) (r : Int) (w0 : World) (v : Value) (w : World) : Prop := v = .int .u8 r ∧ St (foots [boxE g0 [.slice A0_0 p0_0.length c0_0, .slice A0_1 p0_1.length c0_1, .int .u8 p0_2, .slice A0_3 p0_3.length c0_3, .slice A0_4 p0_4.length c0_4] 67]) w0 w [boxE g0 [.slice A0_0 p0_0.length c0_0, .slice A0_1 p0_1.length c0_1, .int .u8 p0_2, .slice A0_3 p0_3.length c0_3, .slice A0_4 p0_4.length c0_4] 67]

set_option maxRecDepth 100000 in
set_option maxHeartbeats 4000000 in
theorem pLev_ok (N : Nat) (p0_0 : List Int) (p0_1 : List Int) (p0_2 : Int) (p0_3 : List Int) (p0_4 : List Int) (p1 : Int) (g0 : Nat) (A0_0 : Option Addr) (c0_0 : Nat) (A0_1 : Option Addr) (c0_1 : Nat) (A0_3 : Option Addr) (c0_3 : Nat) (A0_4 : Option Addr) (c0_4 : Nat) (r : Int) (hF : pLev N p0_0 p0_1 p0_2 p0_3 p0_4 p1 = some r) (w0 : World) (_hv0_0 : Vw (foots [boxE g0 [.slice A0_0 p0_0.length c0_0, .slice A0_1 p0_1.length c0_1, .int .u8 p0_2, .slice A0_3 p0_3.length c0_3, .slice A0_4 p0_4.length c0_4] 67]) .u8 w0 A0_0 c0_0 p0_0) (hv0_1 : Vw (foots [boxE g0 [.slice A0_0 p0_0.length c0_0, .slice A0_1 p0_1.length c0_1, .int .u8 p0_2, .slice A0_3 p0_3.length c0_3, .slice A0_4 p0_4.length c0_4] 67]) .u8 w0 A0_1 c0_1 p0_1) (_hv0_3 : Vw (foots [boxE g0 [.slice A0_0 p0_0.length c0_0, .slice A0_1 p0_1.length c0_1, .int .u8 p0_2, .slice A0_3 p0_3.length c0_3, .slice A0_4 p0_4.length c0_4] 67]) .i64 w0 A0_3 c0_3 p0_3) (hv0_4 : Vw (foots [boxE g0 [.slice A0_0 p0_0.length c0_0, .slice A0_1 p0_1.length c0_1, .int .u8 p0_2, .slice A0_3 p0_3.length c0_3, .slice A0_4 p0_4.length c0_4] 67]) .i64 w0 A0_4 c0_4 p0_4) (hl : St (foots [boxE g0 [.slice A0_0 p0_0.length c0_0, .slice A0_1 p0_1.length c0_1, .int .u8 p0_2, .slice A0_3 p0_3.length c0_3, .slice A0_4 p0_4.length c0_4] 67]) w0 w0 [boxE g0 [.slice A0_0 p0_0.length c0_0, .slice A0_1 p0_1.length c0_1, .int .u8 p0_2, .slice A0_3 p0_3.length c0_3, .slice A0_4 p0_4.length c0_4] 67]) :
  Calls Try.prog 29 #[.pointer (some ⟨g0, 0, none⟩), .int .i64 p1] w0 fun e w => ∃ v, e = .returned v ∧ pLev_R p0_0 p0_1 p0_2 p0_3 p0_4 p1 g0 A0_0 c0_0 A0_1 c0_1 A0_3 c0_3 A0_4 c0_4 r w0 v w := by
 have hS0 := hl
 unfold pLev at hF
 refine calls_of Try.func29 rfl ⟨((.pointer (some ⟨g0, 0, none⟩)) :: (.int .i64 p1) :: un 31 ([])).toArray, []⟩ (by kernel_rfl) ?_
 refine gx_seq (fun K1 hK2 => ?_)
 refine gx_region ?_
 refine gx_k (.int .u8 0) w0 ?_
 refine gx_nil ?_
 refine gx_thenN ?_
 refine hK2 _ _ ?_
 obtain ⟨c6, hE7, hO8⟩ := bind_in hF
 refine gx_cut (fun a w => selfA (fun u5 => ⟨((.pointer (some ⟨g0, 0, none⟩)) :: (.int .i64 p1) :: undef :: undef :: dd u5 4 16 (un 13 ([]))).toArray, []⟩) a ∧ Ctl.go () = c6 ∧ St (foots [boxE g0 [.slice A0_0 p0_0.length c0_0, .slice A0_1 p0_1.length c0_1, .int .u8 p0_2, .slice A0_3 p0_3.length c0_3, .slice A0_4 p0_4.length c0_4] 67]) w0 w [boxE g0 [.slice A0_0 p0_0.length c0_0, .slice A0_1 p0_1.length c0_1, .int .u8 p0_2, .slice A0_3 p0_3.length c0_3, .slice A0_4 p0_4.length c0_4] 67]) ?_ ?_
 ·refine gx_seq (fun K9 hK10 => ?_)
  refine gx_region ?_
  refine gx_k (.int .i64 p1) w0 ?_
  rcases if_in hE7 with ⟨h11, hE7⟩ | ⟨h11, hE7⟩
  ·refine gx_v (.bool true) w0 (run_boolE (decide_eq_true h11) (by kernel_rfl)) ?_
   refine gx_k (.bool true) w0 (gx_o (gx_o (gx_o (gx_o (gx_o (gx_o (gx_o ?_)))))))
   refine gx_k (.bool true) w0 ?_
   refine gx_nil ?_
   refine gx_thenN ?_
   refine hK10 _ _ ?_
   refine gx_yes (by kernel_rfl) ?_
   refine gx_seq (fun K12 hK13 => ?_)
   refine gx_region ?_
   refine gx_k (.pointer (some ⟨g0, 0, none⟩)) w0 (gx_k (.pointer (some ⟨g0, 0, none⟩)) w0 (gx_k (.pointer (some ⟨g0, 2, none⟩)) w0 ?_))
   refine gx_v (.int .u8 p0_2) w0 (run_load1 rfl (by kernel_rfl) (fun _ => by kernel_rfl) (hS0.box 0 rfl 2 rfl)) ?_
   refine gx_k (.int .u8 p0_2) w0 ?_
   refine gx_nil ?_
   refine gx_thenN ?_
   refine hK13 _ _ ?_
   refine gx_ret ?_
   refine gx_thenR ?_
   obtain rfl := Option.some.inj hE7
   try dsimp only at hO8
   obtain rfl := Option.some.inj hO8
   exact gx_fin (.int .u8 p0_2) (by kernel_rfl) (by kernel_rfl) ⟨_, rfl, rfl, hS0⟩
  ·refine gx_v (.bool false) w0 (run_boolE (decide_eq_false h11) (by kernel_rfl)) ?_
   refine gx_k (.bool false) w0 (gx_k (.int .i64 p1) w0 (gx_k (.pointer (some ⟨g0, 0, none⟩)) w0 (gx_k (.pointer (some ⟨g0, 0, none⟩)) w0 (gx_k (.pointer (some ⟨g0, 4, none⟩)) w0 ?_))))
   refine gx_v (.slice A0_4 p0_4.length c0_4) w0 (run_load1 rfl (by kernel_rfl) (fun _ => by kernel_rfl) (hS0.box 0 rfl 4 rfl)) ?_
   refine gx_k (.int .i64 ((p0_4.length : Nat) : Int)) w0 ?_
   rcases if_in hE7 with ⟨h14, hE7⟩ | ⟨h14, hE7⟩
   ·refine gx_v (.bool true) w0 (run_boolE (decide_eq_true h14) (by kernel_rfl)) ?_
    refine gx_k (.bool true) w0 ?_
    refine gx_nil ?_
    refine gx_thenN ?_
    refine hK10 _ _ ?_
    refine gx_yes (by kernel_rfl) ?_
    refine gx_seq (fun K15 hK16 => ?_)
    refine gx_region ?_
    refine gx_k (.pointer (some ⟨g0, 0, none⟩)) w0 (gx_k (.pointer (some ⟨g0, 0, none⟩)) w0 (gx_k (.pointer (some ⟨g0, 2, none⟩)) w0 ?_))
    refine gx_v (.int .u8 p0_2) w0 (run_load1 rfl (by kernel_rfl) (fun _ => by kernel_rfl) (hS0.box 0 rfl 2 rfl)) ?_
    refine gx_k (.int .u8 p0_2) w0 ?_
    refine gx_nil ?_
    refine gx_thenN ?_
    refine hK16 _ _ ?_
    refine gx_ret ?_
    refine gx_thenR ?_
    obtain rfl := Option.some.inj hE7
    try dsimp only at hO8
    obtain rfl := Option.some.inj hO8
    exact gx_fin (.int .u8 p0_2) (by kernel_rfl) (by kernel_rfl) ⟨_, rfl, rfl, hS0⟩
   ·refine gx_v (.bool false) w0 (run_boolE (decide_eq_false h14) (by kernel_rfl)) ?_
    refine gx_k (.bool false) w0 ?_
    refine gx_nil ?_
    refine gx_thenN ?_
    refine hK10 _ _ ?_
    refine gx_no (by kernel_rfl) ?_
    refine gx_pass ?_
    refine gx_thenN ?_
    exact ⟨selfA_i (by kernel_rfl), (Option.some.inj hE7), hS0⟩
 ·rintro _ w3 ⟨hq25, rfl, hS4⟩
  obtain ⟨u5, rfl⟩ := selfA_u hq25
  try dsimp only at hO8
  refine gx_seq (fun K17 hK18 => ?_)
  refine gd_start (fun w => St (foots [boxE g0 [.slice A0_0 p0_0.length c0_0, .slice A0_1 p0_1.length c0_1, .int .u8 p0_2, .slice A0_3 p0_3.length c0_3, .slice A0_4 p0_4.length c0_4] 67]) w0 w [boxE g0 [.slice A0_0 p0_0.length c0_0, .slice A0_1 p0_1.length c0_1, .int .u8 p0_2, .slice A0_3 p0_3.length c0_3, .slice A0_4 p0_4.length c0_4] 67]) 14 #[false, false, false, false, false, false, false, false, false, false, false, false, false, false] (by kernel_rfl) (by kernel_rfl) ?_
  have hS20 := hS4.drew
  generalize w3.drew = w19 at hS20 ⊢
  refine gd1 0 { dst := some 20, op := _, type := _, pos := _, after := _, guard := _ } (.pointer (some ⟨g0, 0, none⟩)) rfl hS20 (fun w hSw => by kernel_rfl) ?_
  refine gd1 1 { dst := some 21, op := _, type := _, pos := _, after := _, guard := _ } (.pointer (some ⟨g0, 0, none⟩)) rfl hS20 (fun w hSw => by kernel_rfl) ?_
  refine gd1 2 { dst := some 22, op := _, type := _, pos := _, after := _, guard := _ } (.pointer (some ⟨g0, 1, none⟩)) rfl hS20 (fun w hSw => by kernel_rfl) ?_
  refine gd1 3 { dst := some 23, op := _, type := _, pos := _, after := _, guard := _ } (.slice A0_1 p0_1.length c0_1) rfl hS20 (fun w hSw => run_load1 rfl (by kernel_rfl) (fun _ => by kernel_rfl) (hSw.box 0 rfl 1 rfl)) ?_
  refine gd1 4 { dst := some 24, op := _, type := _, pos := _, after := _, guard := _ } (.pointer (some ⟨g0, 0, none⟩)) rfl hS20 (fun w hSw => by kernel_rfl) ?_
  refine gd1 5 { dst := some 25, op := _, type := _, pos := _, after := _, guard := _ } (.pointer (some ⟨g0, 0, none⟩)) rfl hS20 (fun w hSw => by kernel_rfl) ?_
  refine gd1 6 { dst := some 26, op := _, type := _, pos := _, after := _, guard := _ } (.pointer (some ⟨g0, 4, none⟩)) rfl hS20 (fun w hSw => by kernel_rfl) ?_
  refine gd1 7 { dst := some 27, op := _, type := _, pos := _, after := _, guard := _ } (.slice A0_4 p0_4.length c0_4) rfl hS20 (fun w hSw => run_load1 rfl (by kernel_rfl) (fun _ => by kernel_rfl) (hSw.box 0 rfl 4 rfl)) ?_
  refine gd1 8 { dst := some 28, op := _, type := _, pos := _, after := _, guard := _ } (.int .i64 p1) rfl hS20 (fun w hSw => by kernel_rfl) ?_
  obtain ⟨x21, hx22, hO8⟩ := bind_in hO8
  refine gd1 9 { dst := some 29, op := _, type := _, pos := _, after := _, guard := _ } (.pointer (Option.map (fun (p : Addr) => p.add (Int.toNat p1 * 1)) A0_4)) rfl hS20 (fun w hSw => run_ixaddr (E := 3) (s := 1) (k := .i64) (c := c0_4) rfl (by kernel_rfl) (by kernel_rfl) (by kernel_rfl) (fun _ => by kernel_rfl) (ix_in hx22).1 (ix_in hx22).2.1 (num_nil (hS20.view hv0_4))) ?_
  refine gd1 10 { dst := some 30, op := _, type := _, pos := _, after := _, guard := _ } (.int .i64 x21) rfl hS20 (fun w hSw => run_loadix rfl (by kernel_rfl) (fun _ => by kernel_rfl) (hSw.view hv0_4) hx22) ?_
  obtain ⟨x23, hx24, hO8⟩ := bind_in hO8
  refine gd1 11 { dst := some 31, op := _, type := _, pos := _, after := _, guard := _ } (.pointer (Option.map (fun (p : Addr) => p.add (Int.toNat x21 * 1)) A0_1)) rfl hS20 (fun w hSw => run_ixaddr (E := 5) (s := 1) (k := .i64) (c := c0_1) rfl (by kernel_rfl) (by kernel_rfl) (by kernel_rfl) (fun _ => by kernel_rfl) (ix_in hx24).1 (ix_in hx24).2.1 (num_nil (hS20.view hv0_1))) ?_
  refine gd1 12 { dst := some 32, op := _, type := _, pos := _, after := _, guard := _ } (.int .u8 x23) rfl hS20 (fun w hSw => run_loadix rfl (by kernel_rfl) (fun _ => by kernel_rfl) (hSw.view hv0_1) hx24) ?_
  refine gd1 13 { dst := some 4, op := _, type := _, pos := _, after := _, guard := _ } (.int .u8 x23) rfl hS20 (fun w hSw => by kernel_rfl) ?_
  refine gd_done (by kernel_rfl) ?_
  refine gx_thenN ?_
  refine hK18 _ _ ?_
  refine gx_ret ?_
  obtain rfl := Option.some.inj hO8
  exact gx_fin (.int .u8 x23) (by kernel_rfl) (by kernel_rfl) ⟨_, rfl, rfl, hS20⟩

def pRunEnd_L1 (N : Nat) (p0_0 : List Int) (p0_1 : List Int) (p0_2 : Int) (p0_3 : List Int) (p0_4 : List Int) (p1 : Int) : Nat → Int → Option (Int)
 | 0, _ => none
 | k16+1, x15 => (if x15 < ((p0_4.length : Nat) : Int) then ((pLev N p0_0 p0_1 p0_2 p0_3 p0_4 x15).bind fun x25 => ((pLev N p0_0 p0_1 p0_2 p0_3 p0_4 p1).bind fun x31 => (if x25 = x31 then pRunEnd_L1 N p0_0 p0_1 p0_2 p0_3 p0_4 p1 k16 (IntKind.i64.wrap (x15 + 1)) else some (x15)))) else some (x15))
def pRunEnd (N : Nat) (p0_0 : List Int) (p0_1 : List Int) (p0_2 : Int) (p0_3 : List Int) (p0_4 : List Int) (p1 : Int) : Option (Int) :=
 ((pRunEnd_L1 N p0_0 p0_1 p0_2 p0_3 p0_4 p1 N (IntKind.i64.wrap (p1 + 1)) : Option (Int)).bind fun x8 => some x8)

set_option linter.unusedVariables false in
def pRunEnd_R (p0_0 : List Int) (p0_1 : List Int) (p0_2 : Int) (p0_3 : List Int) (p0_4 : List Int) (p1 : Int) (g0 : Nat) (A0_0 : Option Addr) (c0_0 : Nat) (A0_1 : Option Addr) (c0_1 : Nat) (A0_3 : Option Addr) (c0_3 : Nat) (A0_4 : Option Addr) (c0_4 : Nat) (r : Int) (w0 : World) (v : Value) (w : World) : Prop := v = .int .i64 r ∧ St (foots [boxE g0 [.slice A0_0 p0_0.length c0_0, .slice A0_1 p0_1.length c0_1, .int .u8 p0_2, .slice A0_3 p0_3.length c0_3, .slice A0_4 p0_4.length c0_4] 67]) w0 w [boxE g0 [.slice A0_0 p0_0.length c0_0, .slice A0_1 p0_1.length c0_1, .int .u8 p0_2, .slice A0_3 p0_3.length c0_3, .slice A0_4 p0_4.length c0_4] 67]

set_option maxRecDepth 100000 in
set_option maxHeartbeats 4000000 in
theorem pRunEnd_ok (N : Nat) (p0_0 : List Int) (p0_1 : List Int) (p0_2 : Int) (p0_3 : List Int) (p0_4 : List Int) (p1 : Int) (g0 : Nat) (A0_0 : Option Addr) (c0_0 : Nat) (A0_1 : Option Addr) (c0_1 : Nat) (A0_3 : Option Addr) (c0_3 : Nat) (A0_4 : Option Addr) (c0_4 : Nat) (r : Int) (hF : pRunEnd N p0_0 p0_1 p0_2 p0_3 p0_4 p1 = some r) (w0 : World) (hv0_0 : Vw (foots [boxE g0 [.slice A0_0 p0_0.length c0_0, .slice A0_1 p0_1.length c0_1, .int .u8 p0_2, .slice A0_3 p0_3.length c0_3, .slice A0_4 p0_4.length c0_4] 67]) .u8 w0 A0_0 c0_0 p0_0) (hv0_1 : Vw (foots [boxE g0 [.slice A0_0 p0_0.length c0_0, .slice A0_1 p0_1.length c0_1, .int .u8 p0_2, .slice A0_3 p0_3.length c0_3, .slice A0_4 p0_4.length c0_4] 67]) .u8 w0 A0_1 c0_1 p0_1) (hv0_3 : Vw (foots [boxE g0 [.slice A0_0 p0_0.length c0_0, .slice A0_1 p0_1.length c0_1, .int .u8 p0_2, .slice A0_3 p0_3.length c0_3, .slice A0_4 p0_4.length c0_4] 67]) .i64 w0 A0_3 c0_3 p0_3) (hv0_4 : Vw (foots [boxE g0 [.slice A0_0 p0_0.length c0_0, .slice A0_1 p0_1.length c0_1, .int .u8 p0_2, .slice A0_3 p0_3.length c0_3, .slice A0_4 p0_4.length c0_4] 67]) .i64 w0 A0_4 c0_4 p0_4) (hl : St (foots [boxE g0 [.slice A0_0 p0_0.length c0_0, .slice A0_1 p0_1.length c0_1, .int .u8 p0_2, .slice A0_3 p0_3.length c0_3, .slice A0_4 p0_4.length c0_4] 67]) w0 w0 [boxE g0 [.slice A0_0 p0_0.length c0_0, .slice A0_1 p0_1.length c0_1, .int .u8 p0_2, .slice A0_3 p0_3.length c0_3, .slice A0_4 p0_4.length c0_4] 67]) :
  Calls Try.prog 27 #[.pointer (some ⟨g0, 0, none⟩), .int .i64 p1] w0 fun e w => ∃ v, e = .returned v ∧ pRunEnd_R p0_0 p0_1 p0_2 p0_3 p0_4 p1 g0 A0_0 c0_0 A0_1 c0_1 A0_3 c0_3 A0_4 c0_4 r w0 v w := by
 have hS0 := hl
 unfold pRunEnd at hF
 refine calls_of Try.func27 rfl ⟨((.pointer (some ⟨g0, 0, none⟩)) :: (.int .i64 p1) :: un 25 ([])).toArray, []⟩ (by kernel_rfl) ?_
 refine gx_seq (fun K1 hK2 => ?_)
 refine gx_region ?_
 refine gx_k (.int .i64 0) w0 ?_
 refine gx_nil ?_
 refine gx_thenN ?_
 refine hK2 _ _ ?_
 refine gx_seq (fun K3 hK4 => ?_)
 refine gx_region ?_
 refine gx_k (.int .i64 p1) w0 (gx_k (.int .i64 (IntKind.i64.wrap (p1 + 1))) w0 (gx_k (.int .i64 (IntKind.i64.wrap (p1 + 1))) w0 ?_))
 refine gx_nil ?_
 refine gx_thenN ?_
 refine hK4 _ _ ?_
 obtain ⟨c9, hE10, hO11⟩ := bind_in hF
 refine gx_cut (fun a w => ∃ (x8 : Int), selfA (fun u7 => ⟨((.pointer (some ⟨g0, 0, none⟩)) :: (.int .i64 p1) :: undef :: undef :: (.int .i64 0) :: (.int .i64 x8) :: (.int .i64 p1) :: (.int .i64 (IntKind.i64.wrap (p1 + 1))) :: dd u7 8 18 (undef :: [])).toArray, []⟩) a ∧ x8 = c9 ∧ St (foots [boxE g0 [.slice A0_0 p0_0.length c0_0, .slice A0_1 p0_1.length c0_1, .int .u8 p0_2, .slice A0_3 p0_3.length c0_3, .slice A0_4 p0_4.length c0_4] 67]) w0 w [boxE g0 [.slice A0_0 p0_0.length c0_0, .slice A0_1 p0_1.length c0_1, .int .u8 p0_2, .slice A0_3 p0_3.length c0_3, .slice A0_4 p0_4.length c0_4] 67]) ?_ ?_
 ·refine gx_block ?_
  refine gx_loop (fun k a w => ∃ (x15 : Int), selfA (fun u14 => ⟨((.pointer (some ⟨g0, 0, none⟩)) :: (.int .i64 p1) :: undef :: undef :: (.int .i64 0) :: (.int .i64 x15) :: (.int .i64 p1) :: (.int .i64 (IntKind.i64.wrap (p1 + 1))) :: dd u14 8 18 (undef :: [])).toArray, []⟩) a ∧ pRunEnd_L1 N p0_0 p0_1 p0_2 p0_3 p0_4 p1 k x15 = some c9 ∧ St (foots [boxE g0 [.slice A0_0 p0_0.length c0_0, .slice A0_1 p0_1.length c0_1, .int .u8 p0_2, .slice A0_3 p0_3.length c0_3, .slice A0_4 p0_4.length c0_4] 67]) w0 w [boxE g0 [.slice A0_0 p0_0.length c0_0, .slice A0_1 p0_1.length c0_1, .int .u8 p0_2, .slice A0_3 p0_3.length c0_3, .slice A0_4 p0_4.length c0_4] 67]) N ?_ ?_
  ·exact ⟨(IntKind.i64.wrap (p1 + 1)), selfA_i (by kernel_rfl), hE10, hS0⟩
  ·rintro k16 _ w12 ⟨x15, hq36, hL17, hS13⟩
   obtain ⟨u14, rfl⟩ := selfA_u hq36
   cases k16 with
   | zero => cases hL17
   | succ k16 =>
    first | rw [pRunEnd_L1] at hL17 | unfold pRunEnd_L1 at hL17
    refine gx_seq (fun K18 hK19 => ?_)
    refine gx_seq (fun K20 hK21 => ?_)
    refine gx_region ?_
    refine gx_k (.int .i64 x15) w12 (gx_k (.pointer (some ⟨g0, 0, none⟩)) w12 (gx_k (.pointer (some ⟨g0, 0, none⟩)) w12 (gx_k (.pointer (some ⟨g0, 4, none⟩)) w12 ?_)))
    refine gx_v (.slice A0_4 p0_4.length c0_4) w12 (run_load1 rfl (by kernel_rfl) (fun _ => by kernel_rfl) (hS13.box 0 rfl 4 rfl)) ?_
    refine gx_k (.int .i64 ((p0_4.length : Nat) : Int)) w12 ?_
    rcases if_in hL17 with ⟨h22, hL17⟩ | ⟨h22, hL17⟩
    ·refine gx_v (.bool true) w12 (run_boolE (decide_eq_true h22) (by kernel_rfl)) ?_
     refine gx_k (.bool true) w12 (gx_k (.pointer (some ⟨g0, 0, none⟩)) w12 (gx_k (.int .i64 x15) w12 ?_))
     have hP23 : St _ _ w12 ([boxE g0 [.slice A0_0 p0_0.length c0_0, .slice A0_1 p0_1.length c0_1, .int .u8 p0_2, .slice A0_3 p0_3.length c0_3, .slice A0_4 p0_4.length c0_4] 67] ++ []) := hS13
     obtain ⟨x25, hc24, hL17⟩ := bind_in hL17
     try dsimp only at hL17
     refine gx_c (pLev_R p0_0 p0_1 p0_2 p0_3 p0_4 x15 g0 A0_0 c0_0 A0_1 c0_1 A0_3 c0_3 A0_4 c0_4 x25 w12) (pLev_ok N p0_0 p0_1 p0_2 p0_3 p0_4 x15 g0 A0_0 c0_0 A0_1 c0_1 A0_3 c0_3 A0_4 c0_4 _ hc24 w12 (hP23.vwA hv0_0) (hP23.vwA hv0_1) (hP23.vwA hv0_3) (hP23.vwA hv0_4) hP23.part) ?_
     rintro _ w26 ⟨rfl, hT28⟩
     have hS27 : St _ _ w26 [boxE g0 [.slice A0_0 p0_0.length c0_0, .slice A0_1 p0_1.length c0_1, .int .u8 p0_2, .slice A0_3 p0_3.length c0_3, .slice A0_4 p0_4.length c0_4] 67] := hP23.lendN _ hT28
     refine gx_k (.pointer (some ⟨g0, 0, none⟩)) w26 (gx_k (.int .i64 p1) w26 ?_)
     have hP29 : St _ _ w26 ([boxE g0 [.slice A0_0 p0_0.length c0_0, .slice A0_1 p0_1.length c0_1, .int .u8 p0_2, .slice A0_3 p0_3.length c0_3, .slice A0_4 p0_4.length c0_4] 67] ++ []) := hS27
     obtain ⟨x31, hc30, hL17⟩ := bind_in hL17
     try dsimp only at hL17
     refine gx_c (pLev_R p0_0 p0_1 p0_2 p0_3 p0_4 p1 g0 A0_0 c0_0 A0_1 c0_1 A0_3 c0_3 A0_4 c0_4 x31 w26) (pLev_ok N p0_0 p0_1 p0_2 p0_3 p0_4 p1 g0 A0_0 c0_0 A0_1 c0_1 A0_3 c0_3 A0_4 c0_4 _ hc30 w26 (hP29.vwA hv0_0) (hP29.vwA hv0_1) (hP29.vwA hv0_3) (hP29.vwA hv0_4) hP29.part) ?_
     rintro _ w32 ⟨rfl, hT34⟩
     have hS33 : St _ _ w32 [boxE g0 [.slice A0_0 p0_0.length c0_0, .slice A0_1 p0_1.length c0_1, .int .u8 p0_2, .slice A0_3 p0_3.length c0_3, .slice A0_4 p0_4.length c0_4] 67] := hP29.lendN _ hT34
     rcases if_in hL17 with ⟨h35, hL17⟩ | ⟨h35, hL17⟩
     ·refine gx_v (.bool true) w32 (run_boolE (decide_eq_true h35) (by kernel_rfl)) ?_
      refine gx_k (.bool true) w32 ?_
      refine gx_nil ?_
      refine gx_thenN ?_
      refine hK21 _ _ ?_
      refine gx_yes (by kernel_rfl) ?_
      refine gx_pass ?_
      refine gx_thenN ?_
      refine hK19 _ _ ?_
      refine gx_block ?_
      refine gx_region ?_
      refine gx_k (.int .i64 x15) w32 (gx_k (.int .i64 (IntKind.i64.wrap (x15 + 1))) w32 (gx_k (.int .i64 (IntKind.i64.wrap (x15 + 1))) w32 ?_))
      refine gx_nil ?_
      refine gx_blkN ?_
      refine gx_thenN ?_
      exact ⟨k16, Nat.lt_succ_self k16, (IntKind.i64.wrap (x15 + 1)), selfA_i (by kernel_rfl), hL17, hS33⟩
     ·refine gx_v (.bool false) w32 (run_boolE (decide_eq_false h35) (by kernel_rfl)) ?_
      refine gx_k (.bool false) w32 ?_
      refine gx_nil ?_
      refine gx_thenN ?_
      refine hK21 _ _ ?_
      refine gx_no (by kernel_rfl) ?_
      refine gx_exit ?_
      refine gx_thenE ?_
      refine gx_thenE ?_
      refine gx_blkE ?_
      refine gx_thenN ?_
      exact ⟨x15, selfA_i (by kernel_rfl), (Option.some.inj hL17), hS33⟩
    ·refine gx_v (.bool false) w12 (run_boolE (decide_eq_false h22) (by kernel_rfl)) ?_
     refine gx_k (.bool false) w12 (gx_o (gx_o (gx_o (gx_o (gx_o (gx_o (gx_o ?_)))))))
     refine gx_k (.bool false) w12 ?_
     refine gx_nil ?_
     refine gx_thenN ?_
     refine hK21 _ _ ?_
     refine gx_no (by kernel_rfl) ?_
     refine gx_exit ?_
     refine gx_thenE ?_
     refine gx_thenE ?_
     refine gx_blkE ?_
     refine gx_thenN ?_
     exact ⟨x15, selfA_i (by kernel_rfl), (Option.some.inj hL17), hS13⟩
 ·rintro _ w5 ⟨x8, hq39, rfl, hS6⟩
  obtain ⟨u7, rfl⟩ := selfA_u hq39
  try dsimp only at hO11
  refine gx_seq (fun K37 hK38 => ?_)
  refine gx_region ?_
  refine gx_k (.int .i64 x8) w5 (gx_k (.int .i64 x8) w5 ?_)
  refine gx_nil ?_
  refine gx_thenN ?_
  refine hK38 _ _ ?_
  refine gx_ret ?_
  obtain rfl := Option.some.inj hO11
  exact gx_fin (.int .i64 x8) (by kernel_rfl) (by kernel_rfl) ⟨_, rfl, rfl, hS6⟩

def pEos (N : Nat) (p0_0 : List Int) (p0_1 : List Int) (p0_2 : Int) (p0_3 : List Int) (p0_4 : List Int) (p1 : Int) : Option (Int) :=
 ((ix p0_4 (IntKind.i64.wrap (p1 - 1))).bind fun x5 => ((pLev N p0_0 p0_1 p0_2 p0_3 p0_4 p1).bind fun x11 => ((((ix p0_0 x5).bind fun x24 => ((pInit N x24).bind fun b28 => (match b28 with | true => ((ix p0_3 x5).bind fun x32 => (if x32 < 0 then some (p0_2) else some (x11))) | false => some (x11)))) : Option (Int)).bind fun x18 => ((ix p0_1 x5).bind fun x37 => ((pDirn N ([x37, x18])).bind fun x43 => some x43)))))

set_option linter.unusedVariables false in
def pEos_R (p0_0 : List Int) (p0_1 : List Int) (p0_2 : Int) (p0_3 : List Int) (p0_4 : List Int) (p1 : Int) (g0 : Nat) (A0_0 : Option Addr) (c0_0 : Nat) (A0_1 : Option Addr) (c0_1 : Nat) (A0_3 : Option Addr) (c0_3 : Nat) (A0_4 : Option Addr) (c0_4 : Nat) (r : Int) (w0 : World) (v : Value) (w : World) : Prop := v = .int .u8 r ∧ St (foots [boxE g0 [.slice A0_0 p0_0.length c0_0, .slice A0_1 p0_1.length c0_1, .int .u8 p0_2, .slice A0_3 p0_3.length c0_3, .slice A0_4 p0_4.length c0_4] 67]) w0 w [boxE g0 [.slice A0_0 p0_0.length c0_0, .slice A0_1 p0_1.length c0_1, .int .u8 p0_2, .slice A0_3 p0_3.length c0_3, .slice A0_4 p0_4.length c0_4] 67]

set_option maxRecDepth 100000 in
set_option maxHeartbeats 4000000 in
theorem pEos_ok (N : Nat) (p0_0 : List Int) (p0_1 : List Int) (p0_2 : Int) (p0_3 : List Int) (p0_4 : List Int) (p1 : Int) (g0 : Nat) (A0_0 : Option Addr) (c0_0 : Nat) (A0_1 : Option Addr) (c0_1 : Nat) (A0_3 : Option Addr) (c0_3 : Nat) (A0_4 : Option Addr) (c0_4 : Nat) (r : Int) (hF : pEos N p0_0 p0_1 p0_2 p0_3 p0_4 p1 = some r) (w0 : World) (hv0_0 : Vw (foots [boxE g0 [.slice A0_0 p0_0.length c0_0, .slice A0_1 p0_1.length c0_1, .int .u8 p0_2, .slice A0_3 p0_3.length c0_3, .slice A0_4 p0_4.length c0_4] 67]) .u8 w0 A0_0 c0_0 p0_0) (hv0_1 : Vw (foots [boxE g0 [.slice A0_0 p0_0.length c0_0, .slice A0_1 p0_1.length c0_1, .int .u8 p0_2, .slice A0_3 p0_3.length c0_3, .slice A0_4 p0_4.length c0_4] 67]) .u8 w0 A0_1 c0_1 p0_1) (hv0_3 : Vw (foots [boxE g0 [.slice A0_0 p0_0.length c0_0, .slice A0_1 p0_1.length c0_1, .int .u8 p0_2, .slice A0_3 p0_3.length c0_3, .slice A0_4 p0_4.length c0_4] 67]) .i64 w0 A0_3 c0_3 p0_3) (hv0_4 : Vw (foots [boxE g0 [.slice A0_0 p0_0.length c0_0, .slice A0_1 p0_1.length c0_1, .int .u8 p0_2, .slice A0_3 p0_3.length c0_3, .slice A0_4 p0_4.length c0_4] 67]) .i64 w0 A0_4 c0_4 p0_4) (hl : St (foots [boxE g0 [.slice A0_0 p0_0.length c0_0, .slice A0_1 p0_1.length c0_1, .int .u8 p0_2, .slice A0_3 p0_3.length c0_3, .slice A0_4 p0_4.length c0_4] 67]) w0 w0 [boxE g0 [.slice A0_0 p0_0.length c0_0, .slice A0_1 p0_1.length c0_1, .int .u8 p0_2, .slice A0_3 p0_3.length c0_3, .slice A0_4 p0_4.length c0_4] 67]) :
  Calls Try.prog 30 #[.pointer (some ⟨g0, 0, none⟩), .int .i64 p1] w0 fun e w => ∃ v, e = .returned v ∧ pEos_R p0_0 p0_1 p0_2 p0_3 p0_4 p1 g0 A0_0 c0_0 A0_1 c0_1 A0_3 c0_3 A0_4 c0_4 r w0 v w := by
 have hS0 := hl
 unfold pEos at hF
 refine calls_of Try.func30 rfl ⟨((.pointer (some ⟨g0, 0, none⟩)) :: (.int .i64 p1) :: un 48 ([])).toArray, []⟩ (by kernel_rfl) ?_
 refine gx_seq (fun K1 hK2 => ?_)
 refine gx_region ?_
 refine gx_k (.int .u8 0) w0 ?_
 refine gx_nil ?_
 refine gx_thenN ?_
 refine hK2 _ _ ?_
 refine gx_seq (fun K3 hK4 => ?_)
 refine gx_region ?_
 refine gx_k (.pointer (some ⟨g0, 0, none⟩)) w0 (gx_k (.pointer (some ⟨g0, 0, none⟩)) w0 (gx_k (.pointer (some ⟨g0, 4, none⟩)) w0 ?_))
 refine gx_v (.slice A0_4 p0_4.length c0_4) w0 (run_load1 rfl (by kernel_rfl) (fun _ => by kernel_rfl) (hS0.box 0 rfl 4 rfl)) ?_
 refine gx_k (.int .i64 p1) w0 (gx_k (.int .i64 (IntKind.i64.wrap (p1 - 1))) w0 ?_)
 obtain ⟨x5, hx6, hF⟩ := bind_in hF
 refine gx_v (.pointer (Option.map (fun (p : Addr) => p.add (Int.toNat (IntKind.i64.wrap (p1 - 1)) * 1)) A0_4)) w0 (run_ixaddr (E := 3) (s := 1) (k := .i64) (c := c0_4) rfl (by kernel_rfl) (by kernel_rfl) (by kernel_rfl) (fun _ => by kernel_rfl) (ix_in hx6).1 (ix_in hx6).2.1 (num_nil (hS0.view hv0_4))) ?_
 refine gx_v (.int .i64 x5) w0 (run_loadix rfl (by kernel_rfl) (fun _ => by kernel_rfl) (hS0.view hv0_4) hx6) ?_
 refine gx_k (.int .i64 x5) w0 ?_
 refine gx_nil ?_
 refine gx_thenN ?_
 refine hK4 _ _ ?_
 refine gx_seq (fun K7 hK8 => ?_)
 refine gx_region ?_
 refine gx_k (.pointer (some ⟨g0, 0, none⟩)) w0 (gx_k (.int .i64 p1) w0 ?_)
 have hP9 : St _ _ w0 ([boxE g0 [.slice A0_0 p0_0.length c0_0, .slice A0_1 p0_1.length c0_1, .int .u8 p0_2, .slice A0_3 p0_3.length c0_3, .slice A0_4 p0_4.length c0_4] 67] ++ []) := hS0
 obtain ⟨x11, hc10, hF⟩ := bind_in hF
 try dsimp only at hF
 refine gx_c (pLev_R p0_0 p0_1 p0_2 p0_3 p0_4 p1 g0 A0_0 c0_0 A0_1 c0_1 A0_3 c0_3 A0_4 c0_4 x11 w0) (pLev_ok N p0_0 p0_1 p0_2 p0_3 p0_4 p1 g0 A0_0 c0_0 A0_1 c0_1 A0_3 c0_3 A0_4 c0_4 _ hc10 w0 (hP9.vwA hv0_0) (hP9.vwA hv0_1) (hP9.vwA hv0_3) (hP9.vwA hv0_4) hP9.part) ?_
 rintro _ w12 ⟨rfl, hT14⟩
 have hS13 : St _ _ w12 [boxE g0 [.slice A0_0 p0_0.length c0_0, .slice A0_1 p0_1.length c0_1, .int .u8 p0_2, .slice A0_3 p0_3.length c0_3, .slice A0_4 p0_4.length c0_4] 67] := hP9.lendN _ hT14
 refine gx_k (.int .u8 x11) w12 ?_
 refine gx_nil ?_
 refine gx_thenN ?_
 refine hK8 _ _ ?_
 obtain ⟨c19, hE20, hO21⟩ := bind_in hF
 refine gx_cut (fun a w => ∃ (x18 : Int), selfA (fun u17 => ⟨((.pointer (some ⟨g0, 0, none⟩)) :: (.int .i64 p1) :: undef :: undef :: (.int .u8 0) :: (.int .i64 x5) :: (.int .u8 x18) :: (.pointer (some ⟨g0, 0, none⟩)) :: (.pointer (some ⟨g0, 0, none⟩)) :: (.pointer (some ⟨g0, 4, none⟩)) :: (u17 10) :: (.int .i64 p1) :: (.int .i64 (IntKind.i64.wrap (p1 - 1))) :: (.pointer (Option.map (fun (p : Addr) => p.add (Int.toNat (IntKind.i64.wrap (p1 - 1)) * 1)) A0_4)) :: (.int .i64 x5) :: (.pointer (some ⟨g0, 0, none⟩)) :: (.int .i64 p1) :: (.int .u8 x11) :: dd u17 18 22 (un 10 ([]))).toArray, []⟩) a ∧ x18 = c19 ∧ St (foots [boxE g0 [.slice A0_0 p0_0.length c0_0, .slice A0_1 p0_1.length c0_1, .int .u8 p0_2, .slice A0_3 p0_3.length c0_3, .slice A0_4 p0_4.length c0_4] 67]) w0 w [boxE g0 [.slice A0_0 p0_0.length c0_0, .slice A0_1 p0_1.length c0_1, .int .u8 p0_2, .slice A0_3 p0_3.length c0_3, .slice A0_4 p0_4.length c0_4] 67]) ?_ ?_
 ·refine gx_seq (fun K22 hK23 => ?_)
  refine gx_region ?_
  refine gx_k (.pointer (some ⟨g0, 0, none⟩)) w12 (gx_k (.pointer (some ⟨g0, 0, none⟩)) w12 (gx_k (.pointer (some ⟨g0, 0, none⟩)) w12 ?_))
  refine gx_v (.slice A0_0 p0_0.length c0_0) w12 (run_load1 rfl (by kernel_rfl) (fun _ => by kernel_rfl) (hS13.box 0 rfl 0 rfl)) ?_
  refine gx_k (.int .i64 x5) w12 ?_
  obtain ⟨x24, hx25, hE20⟩ := bind_in hE20
  refine gx_v (.pointer (Option.map (fun (p : Addr) => p.add (Int.toNat x5 * 1)) A0_0)) w12 (run_ixaddr (E := 34) (s := 1) (k := .i64) (c := c0_0) rfl (by kernel_rfl) (by kernel_rfl) (by kernel_rfl) (fun _ => by kernel_rfl) (ix_in hx25).1 (ix_in hx25).2.1 (num_nil (hS13.view hv0_0))) ?_
  refine gx_v (.int .u8 x24) w12 (run_loadix rfl (by kernel_rfl) (fun _ => by kernel_rfl) (hS13.view hv0_0) hx25) ?_
  have hP26 : St _ _ w12 ([] ++ [boxE g0 [.slice A0_0 p0_0.length c0_0, .slice A0_1 p0_1.length c0_1, .int .u8 p0_2, .slice A0_3 p0_3.length c0_3, .slice A0_4 p0_4.length c0_4] 67]) := hS13
  obtain ⟨b28, hc27, hE20⟩ := bind_in hE20
  try dsimp only at hE20
  refine gx_c (pInit_R b28 w12) (pInit_ok N x24 _ hc27 w12 ) ?_
  rintro _ w29 ⟨rfl, hT31⟩
  have hS30 : St _ _ w29 [boxE g0 [.slice A0_0 p0_0.length c0_0, .slice A0_1 p0_1.length c0_1, .int .u8 p0_2, .slice A0_3 p0_3.length c0_3, .slice A0_4 p0_4.length c0_4] 67] := hS13.take _ hT31
  refine gx_k (.bool b28) w29 ?_
  cases b28 with
  | true =>
   try dsimp only at hE20
   refine gx_k (.pointer (some ⟨g0, 0, none⟩)) w29 (gx_k (.pointer (some ⟨g0, 0, none⟩)) w29 (gx_k (.pointer (some ⟨g0, 3, none⟩)) w29 ?_))
   refine gx_v (.slice A0_3 p0_3.length c0_3) w29 (run_load1 rfl (by kernel_rfl) (fun _ => by kernel_rfl) (hS30.box 0 rfl 3 rfl)) ?_
   refine gx_k (.int .i64 x5) w29 ?_
   obtain ⟨x32, hx33, hE20⟩ := bind_in hE20
   refine gx_v (.pointer (Option.map (fun (p : Addr) => p.add (Int.toNat x5 * 1)) A0_3)) w29 (run_ixaddr (E := 3) (s := 1) (k := .i64) (c := c0_3) rfl (by kernel_rfl) (by kernel_rfl) (by kernel_rfl) (fun _ => by kernel_rfl) (ix_in hx33).1 (ix_in hx33).2.1 (num_nil (hS30.view hv0_3))) ?_
   refine gx_v (.int .i64 x32) w29 (run_loadix rfl (by kernel_rfl) (fun _ => by kernel_rfl) (hS30.view hv0_3) hx33) ?_
   rcases if_in hE20 with ⟨h34, hE20⟩ | ⟨h34, hE20⟩
   ·refine gx_v (.bool true) w29 (run_boolE (decide_eq_true h34) (by kernel_rfl)) ?_
    refine gx_k (.bool true) w29 ?_
    refine gx_nil ?_
    refine gx_thenN ?_
    refine hK23 _ _ ?_
    refine gx_yes (by kernel_rfl) ?_
    refine gx_region ?_
    refine gx_k (.pointer (some ⟨g0, 0, none⟩)) w29 (gx_k (.pointer (some ⟨g0, 0, none⟩)) w29 (gx_k (.pointer (some ⟨g0, 2, none⟩)) w29 ?_))
    refine gx_v (.int .u8 p0_2) w29 (run_load1 rfl (by kernel_rfl) (fun _ => by kernel_rfl) (hS30.box 0 rfl 2 rfl)) ?_
    refine gx_k (.int .u8 p0_2) w29 ?_
    refine gx_nil ?_
    refine gx_thenN ?_
    exact ⟨p0_2, selfA_i (by kernel_rfl), (Option.some.inj hE20), hS30⟩
   ·refine gx_v (.bool false) w29 (run_boolE (decide_eq_false h34) (by kernel_rfl)) ?_
    refine gx_k (.bool false) w29 ?_
    refine gx_nil ?_
    refine gx_thenN ?_
    refine hK23 _ _ ?_
    refine gx_no (by kernel_rfl) ?_
    refine gx_pass ?_
    refine gx_thenN ?_
    exact ⟨x11, selfA_i (by kernel_rfl), (Option.some.inj hE20), hS30⟩
  | false =>
   try dsimp only at hE20
   refine gx_o (gx_o (gx_o (gx_o (gx_o (gx_o (gx_o (gx_o ?_)))))))
   refine gx_k (.bool false) w29 ?_
   refine gx_nil ?_
   refine gx_thenN ?_
   refine hK23 _ _ ?_
   refine gx_no (by kernel_rfl) ?_
   refine gx_pass ?_
   refine gx_thenN ?_
   exact ⟨x11, selfA_i (by kernel_rfl), (Option.some.inj hE20), hS30⟩
 ·rintro _ w15 ⟨x18, hq47, rfl, hS16⟩
  obtain ⟨u17, rfl⟩ := selfA_u hq47
  try dsimp only at hO21
  refine gx_seq (fun K35 hK36 => ?_)
  refine gx_region ?_
  refine gx_k (.pointer (some ⟨g0, 0, none⟩)) w15 (gx_k (.pointer (some ⟨g0, 0, none⟩)) w15 (gx_k (.pointer (some ⟨g0, 1, none⟩)) w15 ?_))
  refine gx_v (.slice A0_1 p0_1.length c0_1) w15 (run_load1 rfl (by kernel_rfl) (fun _ => by kernel_rfl) (hS16.box 0 rfl 1 rfl)) ?_
  refine gx_k (.int .i64 x5) w15 ?_
  obtain ⟨x37, hx38, hO21⟩ := bind_in hO21
  refine gx_v (.pointer (Option.map (fun (p : Addr) => p.add (Int.toNat x5 * 1)) A0_1)) w15 (run_ixaddr (E := 5) (s := 1) (k := .i64) (c := c0_1) rfl (by kernel_rfl) (by kernel_rfl) (by kernel_rfl) (fun _ => by kernel_rfl) (ix_in hx38).1 (ix_in hx38).2.1 (num_nil (hS16.view hv0_1))) ?_
  refine gx_v (.int .u8 x37) w15 (run_loadix rfl (by kernel_rfl) (fun _ => by kernel_rfl) (hS16.view hv0_1) hx38) ?_
  refine gx_k (.int .u8 x18) w15 ?_
  refine gx_r (st_made .u8 5 [x37, x18] hS16 (by show 2 ≤ 1000000000; decide) (by kernel_rfl)) ?_
  rintro _ w39 ⟨rfl, hS40⟩
  have hS40 : St _ _ w39 [boxE g0 [.slice A0_0 p0_0.length c0_0, .slice A0_1 p0_1.length c0_1, .int .u8 p0_2, .slice A0_3 p0_3.length c0_3, .slice A0_4 p0_4.length c0_4] 67, rowE .u8 5 (some ⟨w15.heap.size, 0, none⟩) 2 ([x37, x18])] := hS40
  have hP41 : St _ _ w39 ([] ++ [boxE g0 [.slice A0_0 p0_0.length c0_0, .slice A0_1 p0_1.length c0_1, .int .u8 p0_2, .slice A0_3 p0_3.length c0_3, .slice A0_4 p0_4.length c0_4] 67, rowE .u8 5 (some ⟨w15.heap.size, 0, none⟩) 2 ([x37, x18])]) := hS40
  obtain ⟨x43, hc42, hO21⟩ := bind_in hO21
  try dsimp only at hO21
  refine gx_c (pDirn_R x43 w39) (pDirn_ok N ([x37, x18]) (some ⟨w15.heap.size, 0, none⟩) 2 _ hc42 w39 (hP41.vwB 1 rfl)) ?_
  rintro _ w44 ⟨rfl, hT46⟩
  have hS45 : St _ _ w44 [boxE g0 [.slice A0_0 p0_0.length c0_0, .slice A0_1 p0_1.length c0_1, .int .u8 p0_2, .slice A0_3 p0_3.length c0_3, .slice A0_4 p0_4.length c0_4] 67, rowE .u8 5 (some ⟨w15.heap.size, 0, none⟩) 2 ([x37, x18])] := hS40.take _ hT46
  refine gx_k (.int .u8 x43) w44 ?_
  refine gx_nil ?_
  refine gx_thenN ?_
  refine hK36 _ _ ?_
  refine gx_ret ?_
  obtain rfl := Option.some.inj hO21
  exact gx_fin (.int .u8 x43) (by kernel_rfl) (by kernel_rfl) ⟨_, rfl, rfl, (hS45.pick [0] rfl rfl)⟩

def pSeqsT_L1 (N : Nat) (p0_0 : List Int) (p0_1 : List Int) (p0_2 : Int) (p0_3 : List Int) (p0_4 : List Int) : Nat → Int → (List (Int × Int)) → (List (List Int × Int × Int × Int)) → Option (List (List Int × Int × Int × Int))
 | 0, _, _, _ => none
 | k38+1, x31, m32, l36 => (if x31 < ((p0_4.length : Nat) : Int) then ((pRunEnd N p0_0 p0_1 p0_2 p0_3 p0_4 x31).bind fun x51 => ((ix p0_4 x31).bind fun x59 => ((ix p0_4 (IntKind.i64.wrap (x51 - 1))).bind fun x61 => ((mlook .i64 m32 x59).bind fun (x65, b66) => (((match b66 with | true => some ((x65, l36)) | false => ((ix p0_1 x59).bind fun x88 => ((pLev N p0_0 p0_1 p0_2 p0_3 p0_4 x31).bind fun x92 => ((pLev N p0_0 p0_1 p0_2 p0_3 p0_4 (IntKind.i64.wrap (x31 - 1))).bind fun x98 => ((pDirn N ([x92, x98])).bind fun x106 => ((apg l36 ([([], x88, x106, 0)] : List (List Int × Int × Int × Int))).bind fun l113 => some ((((l36.length : Nat) : Int), l113)))))))) : Option (Int × List (List Int × Int × Int × Int))).bind fun (x74, l78) => ((ixg l78 x74).bind fun x123 => ((cutx p0_4 x31 x51).bind fun l130 => ((apx x123.1 l130).bind fun l136 => ((setg l78 x74 (l136, x123.2.1, x123.2.2.1, x123.2.2.2)).bind fun l143 => ((pEos N p0_0 p0_1 p0_2 p0_3 p0_4 x51).bind fun x152 => ((ixg l143 x74).bind fun x156 => ((setg l143 x74 (x156.1, x156.2.1, x156.2.2.1, x152)).bind fun l163 => ((ix p0_3 x61).bind fun x170 => (if x170 > x61 then ((mput .i64 .i64 m32 x170 x74).bind fun m175 => pSeqsT_L1 N p0_0 p0_1 p0_2 p0_3 p0_4 k38 x51 m175 l163) else pSeqsT_L1 N p0_0 p0_1 p0_2 p0_3 p0_4 k38 x51 m32 l163)))))))))))))) else some (l36))
def pSeqsT (N : Nat) (p0_0 : List Int) (p0_1 : List Int) (p0_2 : Int) (p0_3 : List Int) (p0_4 : List Int) : Option (List (List Int × Int × Int × Int)) :=
 ((pSeqsT_L1 N p0_0 p0_1 p0_2 p0_3 p0_4 N 0 ([]) ([]) : Option (List (List Int × Int × Int × Int))).bind fun l18 => some l18)

set_option linter.unusedVariables false in
def pSeqsT_R (p0_0 : List Int) (p0_1 : List Int) (p0_2 : Int) (p0_3 : List Int) (p0_4 : List Int) (g0 : Nat) (A0_0 : Option Addr) (c0_0 : Nat) (A0_1 : Option Addr) (c0_1 : Nat) (A0_3 : Option Addr) (c0_3 : Nat) (A0_4 : Option Addr) (c0_4 : Nat) (r : List (List Int × Int × Int × Int)) (w0 : World) (v : Value) (w : World) : Prop := ∃ (A0' : Option Addr) (c0' : Nat) (ads0' : List (Option Addr × Nat)), v = .slice A0' r.length c0' ∧ St (foots [boxE g0 [.slice A0_0 p0_0.length c0_0, .slice A0_1 p0_1.length c0_1, .int .u8 p0_2, .slice A0_3 p0_3.length c0_3, .slice A0_4 p0_4.length c0_4] 67]) w0 w [boxE g0 [.slice A0_0 p0_0.length c0_0, .slice A0_1 p0_1.length c0_1, .int .u8 p0_2, .slice A0_3 p0_3.length c0_3, .slice A0_4 p0_4.length c0_4] 67, rowO oembedSeq 36 A0' r.length c0' ads0' r]

set_option maxRecDepth 100000 in
set_option maxHeartbeats 4000000 in
theorem pSeqsT_ok (N : Nat) (p0_0 : List Int) (p0_1 : List Int) (p0_2 : Int) (p0_3 : List Int) (p0_4 : List Int) (g0 : Nat) (A0_0 : Option Addr) (c0_0 : Nat) (A0_1 : Option Addr) (c0_1 : Nat) (A0_3 : Option Addr) (c0_3 : Nat) (A0_4 : Option Addr) (c0_4 : Nat) (r : List (List Int × Int × Int × Int)) (hF : pSeqsT N p0_0 p0_1 p0_2 p0_3 p0_4 = some r) (w0 : World) (hv0_0 : Vw (foots [boxE g0 [.slice A0_0 p0_0.length c0_0, .slice A0_1 p0_1.length c0_1, .int .u8 p0_2, .slice A0_3 p0_3.length c0_3, .slice A0_4 p0_4.length c0_4] 67]) .u8 w0 A0_0 c0_0 p0_0) (hv0_1 : Vw (foots [boxE g0 [.slice A0_0 p0_0.length c0_0, .slice A0_1 p0_1.length c0_1, .int .u8 p0_2, .slice A0_3 p0_3.length c0_3, .slice A0_4 p0_4.length c0_4] 67]) .u8 w0 A0_1 c0_1 p0_1) (hv0_3 : Vw (foots [boxE g0 [.slice A0_0 p0_0.length c0_0, .slice A0_1 p0_1.length c0_1, .int .u8 p0_2, .slice A0_3 p0_3.length c0_3, .slice A0_4 p0_4.length c0_4] 67]) .i64 w0 A0_3 c0_3 p0_3) (hv0_4 : Vw (foots [boxE g0 [.slice A0_0 p0_0.length c0_0, .slice A0_1 p0_1.length c0_1, .int .u8 p0_2, .slice A0_3 p0_3.length c0_3, .slice A0_4 p0_4.length c0_4] 67]) .i64 w0 A0_4 c0_4 p0_4) (hl : St (foots [boxE g0 [.slice A0_0 p0_0.length c0_0, .slice A0_1 p0_1.length c0_1, .int .u8 p0_2, .slice A0_3 p0_3.length c0_3, .slice A0_4 p0_4.length c0_4] 67]) w0 w0 [boxE g0 [.slice A0_0 p0_0.length c0_0, .slice A0_1 p0_1.length c0_1, .int .u8 p0_2, .slice A0_3 p0_3.length c0_3, .slice A0_4 p0_4.length c0_4] 67]) :
  Calls Try.prog 22 #[.pointer (some ⟨g0, 0, none⟩)] w0 fun e w => ∃ v, e = .returned v ∧ pSeqsT_R p0_0 p0_1 p0_2 p0_3 p0_4 g0 A0_0 c0_0 A0_1 c0_1 A0_3 c0_3 A0_4 c0_4 r w0 v w := by
 have hS0 := (hl).pool0
 unfold pSeqsT at hF
 refine calls_of Try.func22 rfl ⟨((.pointer (some ⟨g0, 0, none⟩)) :: un 106 ([])).toArray, []⟩ (by kernel_rfl) ?_
 refine gx_seq (fun K1 hK2 => ?_)
 refine gx_region ?_
 refine gx_k (.slice none 0 0) w0 ?_
 refine gx_nil ?_
 refine gx_thenN ?_
 refine hK2 _ _ ?_
 refine gx_seq (fun K3 hK4 => ?_)
 refine gx_region ?_
 refine gx_k (.slice none 0 0) w0 ?_
 refine gx_nil ?_
 refine gx_thenN ?_
 refine hK4 _ _ ?_
 refine gx_seq (fun K5 hK6 => ?_)
 refine gx_region ?_
 refine gx_r (st_mkmap (P := Try.prog) (kt := 3) (et := 3) (kk := .i64) (ek := .i64) rfl hS0) ?_
 rintro _ w7 ⟨rfl, hS8⟩
 have hS8 : St _ _ w7 [boxE g0 [.slice A0_0 p0_0.length c0_0, .slice A0_1 p0_1.length c0_1, .int .u8 p0_2, .slice A0_3 p0_3.length c0_3, .slice A0_4 p0_4.length c0_4] 67, poolE ([]) w0, mapE Try.prog 3 3 .i64 .i64 w0.heap.size ([])] := hS8
 refine gx_k (.map (some w0.heap.size)) w7 ?_
 refine gx_nil ?_
 refine gx_thenN ?_
 refine hK6 _ _ ?_
 obtain ⟨c19, hE20, hO21⟩ := bind_in hF
 refine gx_cut (fun a w => ∃ (l18 : List (List Int × Int × Int × Int)) (ft12 : List Nat) (W13 : World) (A15 : Option Addr) (c16 : Nat) (ads17 : List (Option Addr × Nat)), selfA (fun u11 => ⟨((.pointer (some ⟨g0, 0, none⟩)) :: undef :: (.slice none 0 0) :: (.slice A15 l18.length c16) :: dd u11 4 102 (undef :: [])).toArray, []⟩) a ∧ l18 = c19 ∧ St (foots [boxE g0 [.slice A0_0 p0_0.length c0_0, .slice A0_1 p0_1.length c0_1, .int .u8 p0_2, .slice A0_3 p0_3.length c0_3, .slice A0_4 p0_4.length c0_4] 67]) w0 w [poolE ft12 W13, boxE g0 [.slice A0_0 p0_0.length c0_0, .slice A0_1 p0_1.length c0_1, .int .u8 p0_2, .slice A0_3 p0_3.length c0_3, .slice A0_4 p0_4.length c0_4] 67, rowO oembedSeq 36 A15 l18.length c16 ads17 l18] ∧ Turn (foots [boxE g0 [.slice A0_0 p0_0.length c0_0, .slice A0_1 p0_1.length c0_1, .int .u8 p0_2, .slice A0_3 p0_3.length c0_3, .slice A0_4 p0_4.length c0_4] 67]) w0 w0 ([]) W13 ft12) ?_ ?_
 ·refine gx_seq (fun K22 hK23 => ?_)
  refine gx_region ?_
  refine gx_k (.int .i64 0) w7 (gx_k (.int .i64 0) w7 ?_)
  refine gx_nil ?_
  refine gx_thenN ?_
  refine hK23 _ _ ?_
  refine gx_block ?_
  have hS24 : St _ _ w7 [boxE g0 [.slice A0_0 p0_0.length c0_0, .slice A0_1 p0_1.length c0_1, .int .u8 p0_2, .slice A0_3 p0_3.length c0_3, .slice A0_4 p0_4.length c0_4] 67, poolE ([]) w0, mapE Try.prog 3 3 .i64 .i64 w0.heap.size ([]), rowO oembedSeq 36 none 0 0 ([]) ([])] := hS8.nilO oembedSeq 36
  have hS37 : St _ _ w7 [boxE g0 [.slice A0_0 p0_0.length c0_0, .slice A0_1 p0_1.length c0_1, .int .u8 p0_2, .slice A0_3 p0_3.length c0_3, .slice A0_4 p0_4.length c0_4] 67, poolE ([]) w0, mapE Try.prog 3 3 .i64 .i64 w0.heap.size ([]), rowO oembedSeq 36 none (([] : List Int).length) 0 ([]) ([])] := hS24.relenO 3 rfl (rfl : 0 = ([] : List (List Int × Int × Int × Int)).length)
  refine gx_loop (fun k a w => ∃ (x31 : Int) (m32 : List (Int × Int)) (l36 : List (List Int × Int × Int × Int)) (ft28 : List Nat) (W29 : World) (A33 : Option Addr) (c34 : Nat) (ads35 : List (Option Addr × Nat)), selfA (fun u27 => ⟨((.pointer (some ⟨g0, 0, none⟩)) :: undef :: (.slice none 0 0) :: (.slice A33 l36.length c34) :: (.map (some w0.heap.size)) :: (.int .i64 x31) :: dd u27 6 100 (undef :: [])).toArray, []⟩) a ∧ pSeqsT_L1 N p0_0 p0_1 p0_2 p0_3 p0_4 k x31 m32 l36 = some c19 ∧ St (foots [boxE g0 [.slice A0_0 p0_0.length c0_0, .slice A0_1 p0_1.length c0_1, .int .u8 p0_2, .slice A0_3 p0_3.length c0_3, .slice A0_4 p0_4.length c0_4] 67]) w0 w [poolE ft28 W29, boxE g0 [.slice A0_0 p0_0.length c0_0, .slice A0_1 p0_1.length c0_1, .int .u8 p0_2, .slice A0_3 p0_3.length c0_3, .slice A0_4 p0_4.length c0_4] 67, mapE Try.prog 3 3 .i64 .i64 w0.heap.size m32, rowO oembedSeq 36 A33 l36.length c34 ads35 l36] ∧ Turn (foots [boxE g0 [.slice A0_0 p0_0.length c0_0, .slice A0_1 p0_1.length c0_1, .int .u8 p0_2, .slice A0_3 p0_3.length c0_3, .slice A0_4 p0_4.length c0_4] 67]) w0 w0 ([]) W29 ft28) N ?_ ?_
  ·exact ⟨0, ([]), ([]), ([]), w0, none, 0, ([]), selfA_i (by kernel_rfl), hE20, (hS37.pick [1, 0, 2, 3] rfl rfl), (Turn.refl _ _ _ _)⟩
  ·rintro k38 _ w25 ⟨x31, m32, l36, ft28, W29, A33, c34, ads35, hq182, hL39, hS26, hT30⟩
   obtain ⟨u27, rfl⟩ := selfA_u hq182
   cases k38 with
   | zero => cases hL39
   | succ k38 =>
    first | rw [pSeqsT_L1] at hL39 | unfold pSeqsT_L1 at hL39
    refine gx_seq (fun K40 hK41 => ?_)
    refine gx_seq (fun K42 hK43 => ?_)
    refine gx_region ?_
    refine gx_k (.int .i64 x31) w25 (gx_k (.pointer (some ⟨g0, 0, none⟩)) w25 (gx_k (.pointer (some ⟨g0, 0, none⟩)) w25 (gx_k (.pointer (some ⟨g0, 4, none⟩)) w25 ?_)))
    refine gx_v (.slice A0_4 p0_4.length c0_4) w25 (run_load1 rfl (by kernel_rfl) (fun _ => by kernel_rfl) (hS26.box 1 rfl 4 rfl)) ?_
    refine gx_k (.int .i64 ((p0_4.length : Nat) : Int)) w25 ?_
    rcases if_in hL39 with ⟨h44, hL39⟩ | ⟨h44, hL39⟩
    ·refine gx_v (.bool true) w25 (run_boolE (decide_eq_true h44) (by kernel_rfl)) ?_
     refine gx_nil ?_
     refine gx_thenN ?_
     refine hK43 _ _ ?_
     refine gx_yes (by kernel_rfl) ?_
     refine gx_pass ?_
     refine gx_thenN ?_
     refine hK41 _ _ ?_
     refine gx_seq (fun K45 hK46 => ?_)
     refine gx_block ?_
     refine gx_seq (fun K47 hK48 => ?_)
     refine gx_region ?_
     refine gx_k (.pointer (some ⟨g0, 0, none⟩)) w25 (gx_k (.int .i64 x31) w25 ?_)
     have hP49 : St _ _ w25 ([boxE g0 [.slice A0_0 p0_0.length c0_0, .slice A0_1 p0_1.length c0_1, .int .u8 p0_2, .slice A0_3 p0_3.length c0_3, .slice A0_4 p0_4.length c0_4] 67] ++ [poolE ft28 W29, mapE Try.prog 3 3 .i64 .i64 w0.heap.size m32, rowO oembedSeq 36 A33 l36.length c34 ads35 l36]) := hS26.pick [1, 0, 2, 3] rfl rfl
     obtain ⟨x51, hc50, hL39⟩ := bind_in hL39
     try dsimp only at hL39
     refine gx_c (pRunEnd_R p0_0 p0_1 p0_2 p0_3 p0_4 x31 g0 A0_0 c0_0 A0_1 c0_1 A0_3 c0_3 A0_4 c0_4 x51 w25) (pRunEnd_ok N p0_0 p0_1 p0_2 p0_3 p0_4 x31 g0 A0_0 c0_0 A0_1 c0_1 A0_3 c0_3 A0_4 c0_4 _ hc50 w25 (hP49.vwA hv0_0) (hP49.vwA hv0_1) (hP49.vwA hv0_3) (hP49.vwA hv0_4) hP49.part) ?_
     rintro _ w52 ⟨rfl, hT54⟩
     have hS53 : St _ _ w52 [poolE ft28 W29, mapE Try.prog 3 3 .i64 .i64 w0.heap.size m32, rowO oembedSeq 36 A33 l36.length c34 ads35 l36, boxE g0 [.slice A0_0 p0_0.length c0_0, .slice A0_1 p0_1.length c0_1, .int .u8 p0_2, .slice A0_3 p0_3.length c0_3, .slice A0_4 p0_4.length c0_4] 67] := hP49.lendN _ hT54
     refine gx_k (.int .i64 x51) w52 ?_
     refine gx_nil ?_
     refine gx_thenN ?_
     refine hK48 _ _ ?_
     refine gx_seq (fun K55 hK56 => ?_)
     refine gd_start (fun w => St (foots [boxE g0 [.slice A0_0 p0_0.length c0_0, .slice A0_1 p0_1.length c0_1, .int .u8 p0_2, .slice A0_3 p0_3.length c0_3, .slice A0_4 p0_4.length c0_4] 67]) w0 w [poolE ft28 W29, mapE Try.prog 3 3 .i64 .i64 w0.heap.size m32, rowO oembedSeq 36 A33 l36.length c34 ads35 l36, boxE g0 [.slice A0_0 p0_0.length c0_0, .slice A0_1 p0_1.length c0_1, .int .u8 p0_2, .slice A0_3 p0_3.length c0_3, .slice A0_4 p0_4.length c0_4] 67]) 17 #[false, false, false, false, false, false, false, false, false, false, false, false, false, false, false, false, false] (by kernel_rfl) (by kernel_rfl) ?_
     have hS58 := hS53.drew
     generalize w52.drew = w57 at hS58 ⊢
     refine gd1 0 { dst := some 24, op := _, type := _, pos := _, after := _, guard := _ } (.pointer (some ⟨g0, 0, none⟩)) rfl hS58 (fun w hSw => by kernel_rfl) ?_
     refine gd1 1 { dst := some 25, op := _, type := _, pos := _, after := _, guard := _ } (.pointer (some ⟨g0, 0, none⟩)) rfl hS58 (fun w hSw => by kernel_rfl) ?_
     refine gd1 2 { dst := some 26, op := _, type := _, pos := _, after := _, guard := _ } (.pointer (some ⟨g0, 4, none⟩)) rfl hS58 (fun w hSw => by kernel_rfl) ?_
     refine gd1 3 { dst := some 27, op := _, type := _, pos := _, after := _, guard := _ } (.slice A0_4 p0_4.length c0_4) rfl hS58 (fun w hSw => run_load1 rfl (by kernel_rfl) (fun _ => by kernel_rfl) (hSw.box 3 rfl 4 rfl)) ?_
     refine gd1 4 { dst := some 28, op := _, type := _, pos := _, after := _, guard := _ } (.int .i64 x31) rfl hS58 (fun w hSw => by kernel_rfl) ?_
     obtain ⟨x59, hx60, hL39⟩ := bind_in hL39
     refine gd1 5 { dst := some 29, op := _, type := _, pos := _, after := _, guard := _ } (.pointer (Option.map (fun (p : Addr) => p.add (Int.toNat x31 * 1)) A0_4)) rfl hS58 (fun w hSw => run_ixaddr (E := 3) (s := 1) (k := .i64) (c := c0_4) rfl (by kernel_rfl) (by kernel_rfl) (by kernel_rfl) (fun _ => by kernel_rfl) (ix_in hx60).1 (ix_in hx60).2.1 (num_nil (hS58.view hv0_4))) ?_
     refine gd1 6 { dst := some 30, op := _, type := _, pos := _, after := _, guard := _ } (.int .i64 x59) rfl hS58 (fun w hSw => run_loadix rfl (by kernel_rfl) (fun _ => by kernel_rfl) (hSw.view hv0_4) hx60) ?_
     refine gd1 7 { dst := some 31, op := _, type := _, pos := _, after := _, guard := _ } (.pointer (some ⟨g0, 0, none⟩)) rfl hS58 (fun w hSw => by kernel_rfl) ?_
     refine gd1 8 { dst := some 32, op := _, type := _, pos := _, after := _, guard := _ } (.pointer (some ⟨g0, 0, none⟩)) rfl hS58 (fun w hSw => by kernel_rfl) ?_
     refine gd1 9 { dst := some 33, op := _, type := _, pos := _, after := _, guard := _ } (.pointer (some ⟨g0, 4, none⟩)) rfl hS58 (fun w hSw => by kernel_rfl) ?_
     refine gd1 10 { dst := some 34, op := _, type := _, pos := _, after := _, guard := _ } (.slice A0_4 p0_4.length c0_4) rfl hS58 (fun w hSw => run_load1 rfl (by kernel_rfl) (fun _ => by kernel_rfl) (hSw.box 3 rfl 4 rfl)) ?_
     refine gd1 11 { dst := some 35, op := _, type := _, pos := _, after := _, guard := _ } (.int .i64 x51) rfl hS58 (fun w hSw => by kernel_rfl) ?_
     refine gd1 12 { dst := some 36, op := _, type := _, pos := _, after := _, guard := _ } (.int .i64 (IntKind.i64.wrap (x51 - 1))) rfl hS58 (fun w hSw => by kernel_rfl) ?_
     obtain ⟨x61, hx62, hL39⟩ := bind_in hL39
     refine gd1 13 { dst := some 37, op := _, type := _, pos := _, after := _, guard := _ } (.pointer (Option.map (fun (p : Addr) => p.add (Int.toNat (IntKind.i64.wrap (x51 - 1)) * 1)) A0_4)) rfl hS58 (fun w hSw => run_ixaddr (E := 3) (s := 1) (k := .i64) (c := c0_4) rfl (by kernel_rfl) (by kernel_rfl) (by kernel_rfl) (fun _ => by kernel_rfl) (ix_in hx62).1 (ix_in hx62).2.1 (num_nil (hS58.view hv0_4))) ?_
     refine gd1 14 { dst := some 38, op := _, type := _, pos := _, after := _, guard := _ } (.int .i64 x61) rfl hS58 (fun w hSw => run_loadix rfl (by kernel_rfl) (fun _ => by kernel_rfl) (hSw.view hv0_4) hx62) ?_
     refine gd1 15 { dst := some 7, op := _, type := _, pos := _, after := _, guard := _ } (.int .i64 x59) rfl hS58 (fun w hSw => by kernel_rfl) ?_
     refine gd1 16 { dst := some 8, op := _, type := _, pos := _, after := _, guard := _ } (.int .i64 x61) rfl hS58 (fun w hSw => by kernel_rfl) ?_
     refine gd_done (by kernel_rfl) ?_
     refine gx_thenN ?_
     refine hK56 _ _ ?_
     refine gx_seq (fun K63 hK64 => ?_)
     refine gx_region ?_
     refine gx_k (.map (some w0.heap.size)) w57 (gx_k (.int .i64 x59) w57 ?_)
     obtain ⟨⟨x65, b66⟩, hm67, hL39⟩ := bind_in hL39
     try dsimp only at hL39
     refine gx_v (.tuple #[.int .i64 x65, .bool b66]) w57 (run_mlook rfl (by kernel_rfl) (by kernel_rfl) (hS58.get 1 rfl) (by kernel_rfl) (by kernel_rfl) (by kernel_rfl) (fun _ => by kernel_rfl) hm67) ?_
     refine gx_k (.tuple #[.int .i64 x65, .bool b66]) w57 (gx_k (.int .i64 x65) w57 (gx_k (.bool b66) w57 (gx_k (.int .i64 x65) w57 (gx_k (.bool b66) w57 ?_))))
     refine gx_nil ?_
     refine gx_thenN ?_
     refine hK64 _ _ ?_
     obtain ⟨c79, hE80, hO81⟩ := bind_in hL39
     refine gx_cut (fun a w => ∃ (x74 : Int) (l78 : List (List Int × Int × Int × Int)) (ft71 : List Nat) (W72 : World) (A75 : Option Addr) (c76 : Nat) (ads77 : List (Option Addr × Nat)), selfA (fun u70 => ⟨((.pointer (some ⟨g0, 0, none⟩)) :: undef :: (.slice none 0 0) :: (.slice A75 l78.length c76) :: (.map (some w0.heap.size)) :: (.int .i64 x31) :: (.int .i64 x51) :: (.int .i64 x59) :: (.int .i64 x61) :: (.int .i64 x74) :: (.bool b66) :: dd u27 11 2 ((.int .i64 x31) :: (.pointer (some ⟨g0, 0, none⟩)) :: (.pointer (some ⟨g0, 0, none⟩)) :: (.pointer (some ⟨g0, 4, none⟩)) :: (u70 17) :: (.int .i64 ((p0_4.length : Nat) : Int)) :: (.bool true) :: (u27 20) :: (.pointer (some ⟨g0, 0, none⟩)) :: (.int .i64 x31) :: (.int .i64 x51) :: (.pointer (some ⟨g0, 0, none⟩)) :: (.pointer (some ⟨g0, 0, none⟩)) :: (.pointer (some ⟨g0, 4, none⟩)) :: (u70 27) :: (.int .i64 x31) :: (.pointer (Option.map (fun (p : Addr) => p.add (Int.toNat x31 * 1)) A0_4)) :: (.int .i64 x59) :: (.pointer (some ⟨g0, 0, none⟩)) :: (.pointer (some ⟨g0, 0, none⟩)) :: (.pointer (some ⟨g0, 4, none⟩)) :: (u70 34) :: (.int .i64 x51) :: (.int .i64 (IntKind.i64.wrap (x51 - 1))) :: (.pointer (Option.map (fun (p : Addr) => p.add (Int.toNat (IntKind.i64.wrap (x51 - 1)) * 1)) A0_4)) :: (.int .i64 x61) :: dd u70 39 2 ((.int .i64 x59) :: (u70 42) :: (.int .i64 x65) :: (.bool b66) :: dd u70 45 24 (dd u27 69 37 (undef :: []))))).toArray, []⟩) a ∧ (x74, l78) = c79 ∧ St (foots [boxE g0 [.slice A0_0 p0_0.length c0_0, .slice A0_1 p0_1.length c0_1, .int .u8 p0_2, .slice A0_3 p0_3.length c0_3, .slice A0_4 p0_4.length c0_4] 67]) w0 w [poolE ft71 W72, boxE g0 [.slice A0_0 p0_0.length c0_0, .slice A0_1 p0_1.length c0_1, .int .u8 p0_2, .slice A0_3 p0_3.length c0_3, .slice A0_4 p0_4.length c0_4] 67, mapE Try.prog 3 3 .i64 .i64 w0.heap.size m32, rowO oembedSeq 36 A75 l78.length c76 ads77 l78] ∧ Turn (foots [boxE g0 [.slice A0_0 p0_0.length c0_0, .slice A0_1 p0_1.length c0_1, .int .u8 p0_2, .slice A0_3 p0_3.length c0_3, .slice A0_4 p0_4.length c0_4] 67]) w0 W29 ft28 W72 ft71) ?_ ?_
     ·refine gx_seq (fun K82 hK83 => ?_)
      refine gx_region ?_
      refine gx_k (.bool b66) w57 ?_
      cases b66 with
      | true =>
       try dsimp only at hE80
       refine gx_k (.bool false) w57 ?_
       refine gx_nil ?_
       refine gx_thenN ?_
       refine hK83 _ _ ?_
       refine gx_no (by kernel_rfl) ?_
       refine gx_pass ?_
       refine gx_thenN ?_
       exact ⟨x65, l36, ft28, W29, A33, c34, ads35, selfA_i (by kernel_rfl), (Option.some.inj hE80), (hS58.pick [0, 3, 1, 2] rfl rfl), (Turn.refl _ _ _ _)⟩
      | false =>
       try dsimp only at hE80
       refine gx_k (.bool true) w57 ?_
       refine gx_nil ?_
       refine gx_thenN ?_
       refine hK83 _ _ ?_
       refine gx_yes (by kernel_rfl) ?_
       refine gx_seq (fun K84 hK85 => ?_)
       refine gx_region ?_
       refine gx_k (.slice A33 l36.length c34) w57 (gx_k (.int .i64 ((l36.length : Nat) : Int)) w57 (gx_k (.int .i64 ((l36.length : Nat) : Int)) w57 ?_))
       refine gx_nil ?_
       refine gx_thenN ?_
       refine hK85 _ _ ?_
       refine gd_start (fun w => St (foots [boxE g0 [.slice A0_0 p0_0.length c0_0, .slice A0_1 p0_1.length c0_1, .int .u8 p0_2, .slice A0_3 p0_3.length c0_3, .slice A0_4 p0_4.length c0_4] 67]) w0 w [mapE Try.prog 3 3 .i64 .i64 w0.heap.size m32, boxE g0 [.slice A0_0 p0_0.length c0_0, .slice A0_1 p0_1.length c0_1, .int .u8 p0_2, .slice A0_3 p0_3.length c0_3, .slice A0_4 p0_4.length c0_4] 67]) 21 #[false, false, false, false, false, false, false, false, false, false, false, false, false, false, false, false, false, false, false, false, false] (by kernel_rfl) (by kernel_rfl) ?_
       have hS87 := hS58.drew
       generalize w57.drew = w86 at hS87 ⊢
       refine gd1 0 { dst := some 49, op := _, type := _, pos := _, after := _, guard := _ } (.slice A33 l36.length c34) rfl (hS87.pick [1, 3] rfl rfl) (fun w hSw => by kernel_rfl) ?_
       refine gd1 1 { dst := some 50, op := _, type := _, pos := _, after := _, guard := _ } (.pointer (some ⟨g0, 0, none⟩)) rfl (hS87.pick [1, 3] rfl rfl) (fun w hSw => by kernel_rfl) ?_
       refine gd1 2 { dst := some 51, op := _, type := _, pos := _, after := _, guard := _ } (.pointer (some ⟨g0, 0, none⟩)) rfl (hS87.pick [1, 3] rfl rfl) (fun w hSw => by kernel_rfl) ?_
       refine gd1 3 { dst := some 52, op := _, type := _, pos := _, after := _, guard := _ } (.pointer (some ⟨g0, 1, none⟩)) rfl (hS87.pick [1, 3] rfl rfl) (fun w hSw => by kernel_rfl) ?_
       refine gd1 4 { dst := some 53, op := _, type := _, pos := _, after := _, guard := _ } (.slice A0_1 p0_1.length c0_1) rfl (hS87.pick [1, 3] rfl rfl) (fun w hSw => run_load1 rfl (by kernel_rfl) (fun _ => by kernel_rfl) (hSw.box 1 rfl 1 rfl)) ?_
       refine gd1 5 { dst := some 54, op := _, type := _, pos := _, after := _, guard := _ } (.int .i64 x59) rfl (hS87.pick [1, 3] rfl rfl) (fun w hSw => by kernel_rfl) ?_
       obtain ⟨x88, hx89, hE80⟩ := bind_in hE80
       refine gd1 6 { dst := some 55, op := _, type := _, pos := _, after := _, guard := _ } (.pointer (Option.map (fun (p : Addr) => p.add (Int.toNat x59 * 1)) A0_1)) rfl (hS87.pick [1, 3] rfl rfl) (fun w hSw => run_ixaddr (E := 5) (s := 1) (k := .i64) (c := c0_1) rfl (by kernel_rfl) (by kernel_rfl) (by kernel_rfl) (fun _ => by kernel_rfl) (ix_in hx89).1 (ix_in hx89).2.1 (num_nil (hS87.view hv0_1))) ?_
       refine gd1 7 { dst := some 56, op := _, type := _, pos := _, after := _, guard := _ } (.int .u8 x88) rfl (hS87.pick [1, 3] rfl rfl) (fun w hSw => run_loadix rfl (by kernel_rfl) (fun _ => by kernel_rfl) (hSw.view hv0_1) hx89) ?_
       refine gd1 8 { dst := some 57, op := _, type := _, pos := _, after := _, guard := _ } (.pointer (some ⟨g0, 0, none⟩)) rfl (hS87.pick [1, 3] rfl rfl) (fun w hSw => by kernel_rfl) ?_
       refine gd1 9 { dst := some 58, op := _, type := _, pos := _, after := _, guard := _ } (.int .i64 x31) rfl (hS87.pick [1, 3] rfl rfl) (fun w hSw => by kernel_rfl) ?_
       refine gd1 11 { dst := some 60, op := _, type := _, pos := _, after := _, guard := _ } (.pointer (some ⟨g0, 0, none⟩)) rfl (hS87.pick [1, 3] rfl rfl) (fun w hSw => by kernel_rfl) ?_
       refine gd1 12 { dst := some 61, op := _, type := _, pos := _, after := _, guard := _ } (.int .i64 x31) rfl (hS87.pick [1, 3] rfl rfl) (fun w hSw => by kernel_rfl) ?_
       refine gd1 13 { dst := some 62, op := _, type := _, pos := _, after := _, guard := _ } (.int .i64 (IntKind.i64.wrap (x31 - 1))) rfl (hS87.pick [1, 3] rfl rfl) (fun w hSw => by kernel_rfl) ?_
       have hP90 : St _ _ w86 ([boxE g0 [.slice A0_0 p0_0.length c0_0, .slice A0_1 p0_1.length c0_1, .int .u8 p0_2, .slice A0_3 p0_3.length c0_3, .slice A0_4 p0_4.length c0_4] 67] ++ [poolE ft28 W29, mapE Try.prog 3 3 .i64 .i64 w0.heap.size m32, rowO oembedSeq 36 A33 l36.length c34 ads35 l36]) := hS87.pick [3, 0, 1, 2] rfl rfl
       obtain ⟨x92, hc91, hE80⟩ := bind_in hE80
       try dsimp only at hE80
       refine gdC 10 { dst := some 59, op := _, type := _, pos := _, after := _, guard := _ } (pLev_R p0_0 p0_1 p0_2 p0_3 p0_4 x31 g0 A0_0 c0_0 A0_1 c0_1 A0_3 c0_3 A0_4 c0_4 x92 w86) rfl (by kernel_rfl) (pLev_ok N p0_0 p0_1 p0_2 p0_3 p0_4 x31 g0 A0_0 c0_0 A0_1 c0_1 A0_3 c0_3 A0_4 c0_4 _ hc91 w86 (hP90.vwA hv0_0) (hP90.vwA hv0_1) (hP90.vwA hv0_3) (hP90.vwA hv0_4) hP90.part) ?_
       rintro _ w93 ⟨rfl, hT95⟩
       have hS94 : St _ _ w93 [poolE ft28 W29, mapE Try.prog 3 3 .i64 .i64 w0.heap.size m32, rowO oembedSeq 36 A33 l36.length c34 ads35 l36, boxE g0 [.slice A0_0 p0_0.length c0_0, .slice A0_1 p0_1.length c0_1, .int .u8 p0_2, .slice A0_3 p0_3.length c0_3, .slice A0_4 p0_4.length c0_4] 67] := hP90.lendN _ hT95
       refine ⟨(hS94.pick [1, 3] rfl rfl), ?_⟩
       have hP96 : St _ _ w93 ([boxE g0 [.slice A0_0 p0_0.length c0_0, .slice A0_1 p0_1.length c0_1, .int .u8 p0_2, .slice A0_3 p0_3.length c0_3, .slice A0_4 p0_4.length c0_4] 67] ++ [poolE ft28 W29, mapE Try.prog 3 3 .i64 .i64 w0.heap.size m32, rowO oembedSeq 36 A33 l36.length c34 ads35 l36]) := hS94.pick [3, 0, 1, 2] rfl rfl
       obtain ⟨x98, hc97, hE80⟩ := bind_in hE80
       try dsimp only at hE80
       refine gdC 14 { dst := some 63, op := _, type := _, pos := _, after := _, guard := _ } (pLev_R p0_0 p0_1 p0_2 p0_3 p0_4 (IntKind.i64.wrap (x31 - 1)) g0 A0_0 c0_0 A0_1 c0_1 A0_3 c0_3 A0_4 c0_4 x98 w93) rfl (by kernel_rfl) (pLev_ok N p0_0 p0_1 p0_2 p0_3 p0_4 (IntKind.i64.wrap (x31 - 1)) g0 A0_0 c0_0 A0_1 c0_1 A0_3 c0_3 A0_4 c0_4 _ hc97 w93 (hP96.vwA hv0_0) (hP96.vwA hv0_1) (hP96.vwA hv0_3) (hP96.vwA hv0_4) hP96.part) ?_
       rintro _ w99 ⟨rfl, hT101⟩
       have hS100 : St _ _ w99 [poolE ft28 W29, mapE Try.prog 3 3 .i64 .i64 w0.heap.size m32, rowO oembedSeq 36 A33 l36.length c34 ads35 l36, boxE g0 [.slice A0_0 p0_0.length c0_0, .slice A0_1 p0_1.length c0_1, .int .u8 p0_2, .slice A0_3 p0_3.length c0_3, .slice A0_4 p0_4.length c0_4] 67] := hP96.lendN _ hT101
       refine ⟨(hS100.pick [1, 3] rfl rfl), ?_⟩
       refine gdR 15 { dst := some 64, op := _, type := _, pos := _, after := _, guard := _ } rfl (st_made .u8 5 [x92, x98] hS100 (by show 2 ≤ 1000000000; decide) (by kernel_rfl)) ?_
       rintro _ w102 ⟨rfl, hS103⟩
       have hS103 : St _ _ w102 [poolE ft28 W29, mapE Try.prog 3 3 .i64 .i64 w0.heap.size m32, rowO oembedSeq 36 A33 l36.length c34 ads35 l36, boxE g0 [.slice A0_0 p0_0.length c0_0, .slice A0_1 p0_1.length c0_1, .int .u8 p0_2, .slice A0_3 p0_3.length c0_3, .slice A0_4 p0_4.length c0_4] 67, rowE .u8 5 (some ⟨w99.heap.size, 0, none⟩) 2 ([x92, x98])] := hS103
       refine ⟨(hS103.pick [1, 3] rfl rfl), ?_⟩
       have hP104 : St _ _ w102 ([] ++ [poolE ft28 W29, mapE Try.prog 3 3 .i64 .i64 w0.heap.size m32, rowO oembedSeq 36 A33 l36.length c34 ads35 l36, boxE g0 [.slice A0_0 p0_0.length c0_0, .slice A0_1 p0_1.length c0_1, .int .u8 p0_2, .slice A0_3 p0_3.length c0_3, .slice A0_4 p0_4.length c0_4] 67, rowE .u8 5 (some ⟨w99.heap.size, 0, none⟩) 2 ([x92, x98])]) := hS103
       obtain ⟨x106, hc105, hE80⟩ := bind_in hE80
       try dsimp only at hE80
       refine gdC 16 { dst := some 65, op := _, type := _, pos := _, after := _, guard := _ } (pDirn_R x106 w102) rfl (by kernel_rfl) (pDirn_ok N ([x92, x98]) (some ⟨w99.heap.size, 0, none⟩) 2 _ hc105 w102 (hP104.vwB 4 rfl)) ?_
       rintro _ w107 ⟨rfl, hT109⟩
       have hS108 : St _ _ w107 [poolE ft28 W29, mapE Try.prog 3 3 .i64 .i64 w0.heap.size m32, rowO oembedSeq 36 A33 l36.length c34 ads35 l36, boxE g0 [.slice A0_0 p0_0.length c0_0, .slice A0_1 p0_1.length c0_1, .int .u8 p0_2, .slice A0_3 p0_3.length c0_3, .slice A0_4 p0_4.length c0_4] 67, rowE .u8 5 (some ⟨w99.heap.size, 0, none⟩) 2 ([x92, x98])] := hS103.take _ hT109
       refine ⟨(hS108.pick [1, 3] rfl rfl), ?_⟩
       refine gd1 17 { dst := some 66, op := _, type := _, pos := _, after := _, guard := _ } (.agg #[.slice none 0 0, .int .u8 x88, .int .u8 x106, .int .u8 0]) rfl (hS108.pick [1, 3] rfl rfl) (fun w hSw => by kernel_rfl) ?_
       have hf110 : (fEach encembedSeq [.slice none 0 0, .int .u8 x88, .int .u8 x106, .int .u8 0] [([], x88, x106, 0)]).rd W29 ft28 := (each_cons (rd_pair (rd_row rfl fSl_nil) (rd_pair (rd_intg .u8 x88) (rd_pair (rd_intg .u8 x106) (rd_intg .u8 (0 : Int))))) each_nil)
       refine gdR 18 { dst := some 67, op := _, type := _, pos := _, after := _, guard := _ } rfl (st_madeP (e := encembedSeq) 36 1 [.slice none 0 0, .int .u8 x88, .int .u8 x106, .int .u8 0] [([], x88, x106, 0)] hS108 rfl hf110 (by decide) (by kernel_rfl)) ?_
       rintro _ w111 ⟨rfl, hS112⟩
       have hS112 : St _ _ w111 [poolE ft28 W29, mapE Try.prog 3 3 .i64 .i64 w0.heap.size m32, rowO oembedSeq 36 A33 l36.length c34 ads35 l36, boxE g0 [.slice A0_0 p0_0.length c0_0, .slice A0_1 p0_1.length c0_1, .int .u8 p0_2, .slice A0_3 p0_3.length c0_3, .slice A0_4 p0_4.length c0_4] 67, rowE .u8 5 (some ⟨w99.heap.size, 0, none⟩) 2 ([x92, x98]), rowG 36 4 (.slice (some ⟨w107.heap.size, 0, none⟩) 1 1) 1 ([.slice none 0 0, .int .u8 x88, .int .u8 x106, .int .u8 0])] := hS112
       refine ⟨(hS112.pick [1, 3] rfl rfl), ?_⟩
       obtain ⟨l113, ha114, hE80⟩ := bind_in hE80
       refine gdR 19 { dst := some 68, op := _, type := _, pos := _, after := _, guard := _ } rfl (st_appOO (e := oembedSeq) [(none, 0)] rfl (by kernel_rfl) (by kernel_rfl) hS112 2 rfl (show 1 = ([([], x88, x106, 0)] : List (List Int × Int × Int × Int)).length from rfl) rfl rfl (fun q hq => by simp only [rowsB, List.mem_cons, List.not_mem_nil, or_false] at hq; subst hq; rfl) (rowG_lies (e := encembedSeq) (show 1 = ([([], x88, x106, 0)] : List (List Int × Int × Int × Int)).length from rfl) (hS112.get 5 rfl)) (rowG_spec (e := encembedSeq) (show 1 = ([([], x88, x106, 0)] : List (List Int × Int × Int × Int)).length from rfl) (hS112.get 5 rfl)).2.2.1 ha114 (by kernel_rfl) (by kernel_rfl)) ?_
       rintro _ w117 ⟨A115, c116, rfl, hS118⟩
       have hS118 : St _ _ w117 [poolE ft28 W29, mapE Try.prog 3 3 .i64 .i64 w0.heap.size m32, rowO oembedSeq 36 A115 l113.length c116 (ads35 ++ [(none, 0)]) l113, boxE g0 [.slice A0_0 p0_0.length c0_0, .slice A0_1 p0_1.length c0_1, .int .u8 p0_2, .slice A0_3 p0_3.length c0_3, .slice A0_4 p0_4.length c0_4] 67, rowE .u8 5 (some ⟨w99.heap.size, 0, none⟩) 2 ([x92, x98]), rowG 36 4 (.slice (some ⟨w107.heap.size, 0, none⟩) 1 1) 1 ([.slice none 0 0, .int .u8 x88, .int .u8 x106, .int .u8 0])] := hS118
       refine ⟨(hS118.pick [1, 3] rfl rfl), ?_⟩
       refine gd1 20 { dst := some 3, op := _, type := _, pos := _, after := _, guard := _ } (.slice A115 l113.length c116) rfl (hS118.pick [1, 3] rfl rfl) (fun w hSw => by kernel_rfl) ?_
       refine gd_done (by kernel_rfl) ?_
       refine gx_thenN ?_
       exact ⟨((l36.length : Nat) : Int), l113, ft28, W29, A115, c116, (ads35 ++ [(none, 0)]), selfA_i (by kernel_rfl), (Option.some.inj hE80), (hS118.pick [0, 3, 1, 2] rfl rfl), (Turn.refl _ _ _ _)⟩
     ·rintro _ w68 ⟨x74, l78, ft71, W72, A75, c76, ads77, hq181, rfl, hS69, hT73⟩
      obtain ⟨u70, rfl⟩ := selfA_u hq181
      try dsimp only at hO81
      refine gx_seq (fun K119 hK120 => ?_)
      refine gd_start (fun w => St (foots [boxE g0 [.slice A0_0 p0_0.length c0_0, .slice A0_1 p0_1.length c0_1, .int .u8 p0_2, .slice A0_3 p0_3.length c0_3, .slice A0_4 p0_4.length c0_4] 67]) w0 w [boxE g0 [.slice A0_0 p0_0.length c0_0, .slice A0_1 p0_1.length c0_1, .int .u8 p0_2, .slice A0_3 p0_3.length c0_3, .slice A0_4 p0_4.length c0_4] 67, mapE Try.prog 3 3 .i64 .i64 w0.heap.size m32]) 18 #[false, false, false, false, false, false, false, false, false, false, false, false, false, false, false, false, false, false] (by kernel_rfl) (by kernel_rfl) ?_
      have hS122 := hS69.drew
      generalize w68.drew = w121 at hS122 ⊢
      refine gd1 0 { dst := some 69, op := _, type := _, pos := _, after := _, guard := _ } (.slice A75 l78.length c76) rfl (hS122.pick [1, 2] rfl rfl) (fun w hSw => by kernel_rfl) ?_
      refine gd1 1 { dst := some 70, op := _, type := _, pos := _, after := _, guard := _ } (.int .i64 x74) rfl (hS122.pick [1, 2] rfl rfl) (fun w hSw => by kernel_rfl) ?_
      refine gd1 2 { dst := some 71, op := _, type := _, pos := _, after := _, guard := _ } (.slice A75 l78.length c76) rfl (hS122.pick [1, 2] rfl rfl) (fun w hSw => by kernel_rfl) ?_
      refine gd1 3 { dst := some 72, op := _, type := _, pos := _, after := _, guard := _ } (.int .i64 x74) rfl (hS122.pick [1, 2] rfl rfl) (fun w hSw => by kernel_rfl) ?_
      obtain ⟨x123, hx124, hO81⟩ := bind_in hO81
      obtain ⟨g125, o126, ad127, hA128, ha129⟩ := hS122.elemO 3 rfl hx124
      refine gd1 4 { dst := some 73, op := _, type := _, pos := _, after := _, guard := _ } (.pointer (some ⟨g125, o126, none⟩)) rfl (hS122.pick [1, 2] rfl rfl) (fun w hSw => run_ixaddrN (E := 36) (s := 4) (k := .i64) (c := c76) rfl (by kernel_rfl) (by kernel_rfl) (by kernel_rfl) (fun _ => by kernel_rfl) (ixg_in hx124).1 hA128.1 hA128.2) ?_
      refine gd1 5 { dst := some 74, op := _, type := _, pos := _, after := _, guard := _ } (.pointer (some ⟨g125, o126, none⟩)) rfl (hS122.pick [1, 2] rfl rfl) (fun w hSw => by kernel_rfl) ?_
      refine gd1 7 { dst := some 76, op := _, type := _, pos := _, after := _, guard := _ } (.pointer (some ⟨g0, 0, none⟩)) rfl (hS122.pick [1, 2] rfl rfl) (fun w hSw => by kernel_rfl) ?_
      refine gd1 8 { dst := some 77, op := _, type := _, pos := _, after := _, guard := _ } (.pointer (some ⟨g0, 0, none⟩)) rfl (hS122.pick [1, 2] rfl rfl) (fun w hSw => by kernel_rfl) ?_
      refine gd1 9 { dst := some 78, op := _, type := _, pos := _, after := _, guard := _ } (.pointer (some ⟨g0, 4, none⟩)) rfl (hS122.pick [1, 2] rfl rfl) (fun w hSw => by kernel_rfl) ?_
      refine gd1 10 { dst := some 79, op := _, type := _, pos := _, after := _, guard := _ } (.slice A0_4 p0_4.length c0_4) rfl (hS122.pick [1, 2] rfl rfl) (fun w hSw => run_load1 rfl (by kernel_rfl) (fun _ => by kernel_rfl) (hSw.box 0 rfl 4 rfl)) ?_
      refine gd1 11 { dst := some 80, op := _, type := _, pos := _, after := _, guard := _ } (.int .i64 x31) rfl (hS122.pick [1, 2] rfl rfl) (fun w hSw => by kernel_rfl) ?_
      refine gd1 12 { dst := some 81, op := _, type := _, pos := _, after := _, guard := _ } (.int .i64 x51) rfl (hS122.pick [1, 2] rfl rfl) (fun w hSw => by kernel_rfl) ?_
      obtain ⟨l130, hx131, hO81⟩ := bind_in hO81
      obtain ⟨A132, c133, hA134⟩ := cut_is A0_4 (Int.toNat x31) (Int.toNat x51) c0_4
      rw [← cutx_len hx131] at hA134
      have hv135 := Vw.cut hv0_4 hx131 hA134
      refine gd1 13 { dst := some 82, op := _, type := _, pos := _, after := _, guard := _ } (.slice A132 l130.length c133) rfl (hS122.pick [1, 2] rfl rfl) (fun w hSw => run_cut (TE := 3) (n := p0_4.length) (l := Int.toNat x31) (h := Int.toNat x51) (some (.int .i64 x31)) (some (.int .i64 x51)) rfl (by kernel_rfl) (by kernel_rfl) (by kernel_rfl) (by kernel_rfl) (fun _ => by kernel_rfl) (bnd_lh (cutx_in hx131).1 (cutx_in hx131).2.1 (Int.le_trans (cutx_in hx131).2.2.1 (by exact_mod_cast num_room (hS122.view hv0_4)))) hA134) ?_
      refine gdR 6 { dst := some 75, op := _, type := _, pos := _, after := _, guard := _ } (R := fun v w => v = .slice ad127.1 ((x123.1).length) ad127.2 ∧ w121 = w) rfl ⟨_, _, run_loadN1 0 rfl (by kernel_rfl) (fun _ => by kernel_rfl) (hS122.rangeO 3 rfl hx124 hA128.2 ha129) rfl, rfl, rfl⟩ ?_
      rintro _ _ ⟨rfl, rfl⟩
      refine ⟨(hS122.pick [1, 2] rfl rfl), ?_⟩
      obtain ⟨l136, ha137, hO81⟩ := bind_in hO81
      refine gdR 14 { dst := some 83, op := _, type := _, pos := _, after := _, guard := _ } rfl (st_appO (e := oembedSeq) rfl (by kernel_rfl) (by kernel_rfl) hS122 3 rfl hx124 ha129 (hS122.view hv135) hv135.nn ha137 (by kernel_rfl) (by kernel_rfl)) ?_
      rintro _ w141 ⟨A139, c140, rfl, hS142⟩
      have hS142 : St _ _ w141 [poolE ft71 W72, boxE g0 [.slice A0_0 p0_0.length c0_0, .slice A0_1 p0_1.length c0_1, .int .u8 p0_2, .slice A0_3 p0_3.length c0_3, .slice A0_4 p0_4.length c0_4] 67, mapE Try.prog 3 3 .i64 .i64 w0.heap.size m32, rowX oembedSeq 36 A75 l78.length c76 ads77 l78 (Int.toNat x74) A139 c140 l136] := hS142
      refine ⟨(hS142.pick [1, 2] rfl rfl), ?_⟩
      refine gd1 15 { dst := some 84, op := _, type := _, pos := _, after := _, guard := _ } (.pointer (some ⟨g125, o126, none⟩)) rfl (hS142.pick [1, 2] rfl rfl) (fun w hSw => run_ixaddrN (E := 36) (s := 4) (k := .i64) (c := c76) rfl (by kernel_rfl) (by kernel_rfl) (by kernel_rfl) (fun _ => by kernel_rfl) (ixg_in hx124).1 hA128.1 hA128.2) ?_
      refine gd1 16 { dst := some 85, op := _, type := _, pos := _, after := _, guard := _ } (.pointer (some ⟨g125, o126, none⟩)) rfl (hS142.pick [1, 2] rfl rfl) (fun w hSw => by kernel_rfl) ?_
      obtain ⟨l143, hx144, hO81⟩ := bind_in hO81
      refine gdS 17 { dst := none, op := _, type := _, pos := _, after := _, guard := _ } rfl (st_setX (e := oembedSeq) (x' := (l136, x123.2.1, x123.2.2.1, x123.2.2.2)) 0 rfl (by kernel_rfl) (by kernel_rfl) rfl (fun _ => by kernel_rfl) hS142 3 rfl hx124 ha129 hA128.2 (by decide) rfl rfl hx144) ?_
      rintro w145 hS146
      have hS146 : St _ _ w145 [poolE ft71 W72, boxE g0 [.slice A0_0 p0_0.length c0_0, .slice A0_1 p0_1.length c0_1, .int .u8 p0_2, .slice A0_3 p0_3.length c0_3, .slice A0_4 p0_4.length c0_4] 67, mapE Try.prog 3 3 .i64 .i64 w0.heap.size m32, rowO oembedSeq 36 A75 l78.length c76 (List.set ads77 (Int.toNat x74) (A139, c140)) l143] := hS146
      have hn147 := hS146.lenO 3 rfl
      refine ⟨(hS146.pick [1, 2] rfl rfl), ?_⟩
      refine gd_done (by kernel_rfl) ?_
      refine gx_thenN ?_
      refine hK120 _ _ ?_
      refine gx_seq (fun K148 hK149 => ?_)
      refine gx_region ?_
      refine gx_k (.slice A75 l78.length c76) w145 (gx_k (.int .i64 x74) w145 (gx_k (.pointer (some ⟨g0, 0, none⟩)) w145 (gx_k (.int .i64 x51) w145 ?_)))
      have hP150 : St _ _ w145 ([boxE g0 [.slice A0_0 p0_0.length c0_0, .slice A0_1 p0_1.length c0_1, .int .u8 p0_2, .slice A0_3 p0_3.length c0_3, .slice A0_4 p0_4.length c0_4] 67] ++ [poolE ft71 W72, mapE Try.prog 3 3 .i64 .i64 w0.heap.size m32, rowO oembedSeq 36 A75 l78.length c76 (List.set ads77 (Int.toNat x74) (A139, c140)) l143]) := hS146.pick [1, 0, 2, 3] rfl rfl
      obtain ⟨x152, hc151, hO81⟩ := bind_in hO81
      try dsimp only at hO81
      refine gx_c (pEos_R p0_0 p0_1 p0_2 p0_3 p0_4 x51 g0 A0_0 c0_0 A0_1 c0_1 A0_3 c0_3 A0_4 c0_4 x152 w145) (pEos_ok N p0_0 p0_1 p0_2 p0_3 p0_4 x51 g0 A0_0 c0_0 A0_1 c0_1 A0_3 c0_3 A0_4 c0_4 _ hc151 w145 (hP150.vwA hv0_0) (hP150.vwA hv0_1) (hP150.vwA hv0_3) (hP150.vwA hv0_4) hP150.part) ?_
      rintro _ w153 ⟨rfl, hT155⟩
      have hS154 : St _ _ w153 [poolE ft71 W72, mapE Try.prog 3 3 .i64 .i64 w0.heap.size m32, rowO oembedSeq 36 A75 l78.length c76 (List.set ads77 (Int.toNat x74) (A139, c140)) l143, boxE g0 [.slice A0_0 p0_0.length c0_0, .slice A0_1 p0_1.length c0_1, .int .u8 p0_2, .slice A0_3 p0_3.length c0_3, .slice A0_4 p0_4.length c0_4] 67] := hP150.lendN _ hT155
      obtain ⟨x156, hx157, hO81⟩ := bind_in hO81
      obtain ⟨g158, o159, ad160, hA161, ha162⟩ := hS154.elemO 2 rfl hx157
      refine gx_v (.pointer (some ⟨g158, o159, none⟩)) w153 (run_ixaddrN (E := 36) (s := 4) (k := .i64) (c := c76) rfl (by kernel_rfl) (by kernel_rfl) (by kernel_rfl) (fun _ => by kernel_rfl) (ixg_in hx157).1 hA161.1 hA161.2) ?_
      refine gx_k (.pointer (some ⟨g158, o159 + 3, none⟩)) w153 ?_
      obtain ⟨l163, hx164, hO81⟩ := bind_in hO81
      refine gx_s (st_setO (e := oembedSeq) (x' := (x156.1, x156.2.1, x156.2.2.1, x152)) 3 rfl (by kernel_rfl) (by kernel_rfl) rfl (fun _ => by kernel_rfl) hS154 2 rfl hx157 ha162 hA161.2 (by decide) rfl rfl hx164) ?_
      rintro w165 hS166
      have hS166 : St _ _ w165 [poolE ft71 W72, mapE Try.prog 3 3 .i64 .i64 w0.heap.size m32, rowO oembedSeq 36 A75 l78.length c76 (List.set ads77 (Int.toNat x74) (A139, c140)) l163, boxE g0 [.slice A0_0 p0_0.length c0_0, .slice A0_1 p0_1.length c0_1, .int .u8 p0_2, .slice A0_3 p0_3.length c0_3, .slice A0_4 p0_4.length c0_4] 67] := hS166
      have hn167 := hS166.lenO 2 rfl
      refine gx_nil ?_
      refine gx_thenN ?_
      refine hK149 _ _ ?_
      refine gx_seq (fun K168 hK169 => ?_)
      refine gx_region ?_
      refine gx_k (.pointer (some ⟨g0, 0, none⟩)) w165 (gx_k (.pointer (some ⟨g0, 0, none⟩)) w165 (gx_k (.pointer (some ⟨g0, 3, none⟩)) w165 ?_))
      refine gx_v (.slice A0_3 p0_3.length c0_3) w165 (run_load1 rfl (by kernel_rfl) (fun _ => by kernel_rfl) (hS166.box 3 rfl 3 rfl)) ?_
      refine gx_k (.int .i64 x61) w165 ?_
      obtain ⟨x170, hx171, hO81⟩ := bind_in hO81
      refine gx_v (.pointer (Option.map (fun (p : Addr) => p.add (Int.toNat x61 * 1)) A0_3)) w165 (run_ixaddr (E := 3) (s := 1) (k := .i64) (c := c0_3) rfl (by kernel_rfl) (by kernel_rfl) (by kernel_rfl) (fun _ => by kernel_rfl) (ix_in hx171).1 (ix_in hx171).2.1 (num_nil (hS166.view hv0_3))) ?_
      refine gx_v (.int .i64 x170) w165 (run_loadix rfl (by kernel_rfl) (fun _ => by kernel_rfl) (hS166.view hv0_3) hx171) ?_
      refine gx_k (.int .i64 x170) w165 ?_
      refine gx_nil ?_
      refine gx_thenN ?_
      refine hK169 _ _ ?_
      refine gx_seq (fun K172 hK173 => ?_)
      refine gx_region ?_
      refine gx_k (.int .i64 x170) w165 (gx_k (.int .i64 x61) w165 ?_)
      rcases if_in hO81 with ⟨h174, hO81⟩ | ⟨h174, hO81⟩
      ·refine gx_v (.bool true) w165 (run_boolE (decide_eq_true h174) (by kernel_rfl)) ?_
       refine gx_nil ?_
       refine gx_thenN ?_
       refine hK173 _ _ ?_
       refine gx_yes (by kernel_rfl) ?_
       refine gx_region ?_
       refine gx_k (.map (some w0.heap.size)) w165 (gx_k (.int .i64 x170) w165 (gx_k (.int .i64 x74) w165 ?_))
       obtain ⟨m175, hm176, hO81⟩ := bind_in hO81
       refine gx_s (st_mput rfl (by kernel_rfl) (by kernel_rfl) (by kernel_rfl) hS166 1 rfl (by kernel_rfl) (by kernel_rfl) (by kernel_rfl) hm176) ?_
       rintro w177 hS178
       have hS178 : St _ _ w177 [poolE ft71 W72, mapE Try.prog 3 3 .i64 .i64 w0.heap.size m175, rowO oembedSeq 36 A75 l78.length c76 (List.set ads77 (Int.toNat x74) (A139, c140)) l163, boxE g0 [.slice A0_0 p0_0.length c0_0, .slice A0_1 p0_1.length c0_1, .int .u8 p0_2, .slice A0_3 p0_3.length c0_3, .slice A0_4 p0_4.length c0_4] 67] := hS178
       refine gx_nil ?_
       refine gx_blkN ?_
       refine gx_thenN ?_
       refine hK46 _ _ ?_
       refine gx_region ?_
       refine gx_k (.int .i64 x51) w177 (gx_k (.int .i64 x51) w177 ?_)
       refine gx_nil ?_
       refine gx_thenN ?_
       have hS179 : St _ _ w177 [poolE ft71 W72, mapE Try.prog 3 3 .i64 .i64 w0.heap.size m175, rowO oembedSeq 36 A75 l163.length c76 (List.set ads77 (Int.toNat x74) (A139, c140)) l163, boxE g0 [.slice A0_0 p0_0.length c0_0, .slice A0_1 p0_1.length c0_1, .int .u8 p0_2, .slice A0_3 p0_3.length c0_3, .slice A0_4 p0_4.length c0_4] 67] := hS178.relenO 2 rfl hn167
       exact ⟨k38, Nat.lt_succ_self k38, x51, m175, l163, ft71, W72, A75, c76, (List.set ads77 (Int.toNat x74) (A139, c140)), selfA_i (by rw [← hn167] <;> kernel_rfl), hO81, (hS179.pick [0, 3, 1, 2] rfl rfl), (Turn.trans hT30 hT73)⟩
      ·refine gx_v (.bool false) w165 (run_boolE (decide_eq_false h174) (by kernel_rfl)) ?_
       refine gx_nil ?_
       refine gx_thenN ?_
       refine hK173 _ _ ?_
       refine gx_no (by kernel_rfl) ?_
       refine gx_pass ?_
       refine gx_blkN ?_
       refine gx_thenN ?_
       refine hK46 _ _ ?_
       refine gx_region ?_
       refine gx_k (.int .i64 x51) w165 (gx_k (.int .i64 x51) w165 ?_)
       refine gx_nil ?_
       refine gx_thenN ?_
       have hS180 : St _ _ w165 [poolE ft71 W72, mapE Try.prog 3 3 .i64 .i64 w0.heap.size m32, rowO oembedSeq 36 A75 l163.length c76 (List.set ads77 (Int.toNat x74) (A139, c140)) l163, boxE g0 [.slice A0_0 p0_0.length c0_0, .slice A0_1 p0_1.length c0_1, .int .u8 p0_2, .slice A0_3 p0_3.length c0_3, .slice A0_4 p0_4.length c0_4] 67] := hS166.relenO 2 rfl hn167
       exact ⟨k38, Nat.lt_succ_self k38, x51, m32, l163, ft71, W72, A75, c76, (List.set ads77 (Int.toNat x74) (A139, c140)), selfA_i (by rw [← hn167] <;> kernel_rfl), hO81, (hS180.pick [0, 3, 1, 2] rfl rfl), (Turn.trans hT30 hT73)⟩
    ·refine gx_v (.bool false) w25 (run_boolE (decide_eq_false h44) (by kernel_rfl)) ?_
     refine gx_nil ?_
     refine gx_thenN ?_
     refine hK43 _ _ ?_
     refine gx_no (by kernel_rfl) ?_
     refine gx_exit ?_
     refine gx_thenE ?_
     refine gx_thenE ?_
     refine gx_blkE ?_
     refine gx_thenN ?_
     exact ⟨l36, ft28, W29, A33, c34, ads35, selfA_i (by kernel_rfl), (Option.some.inj hL39), (hS26.pick [0, 1, 3] rfl rfl), hT30⟩
 ·rintro _ w9 ⟨l18, ft12, W13, A15, c16, ads17, hq185, rfl, hS10, hT14⟩
  obtain ⟨u11, rfl⟩ := selfA_u hq185
  try dsimp only at hO21
  refine gx_seq (fun K183 hK184 => ?_)
  refine gx_region ?_
  refine gx_k (.slice A15 l18.length c16) w9 (gx_k (.slice A15 l18.length c16) w9 ?_)
  refine gx_nil ?_
  refine gx_thenN ?_
  refine hK184 _ _ ?_
  refine gx_ret ?_
  obtain rfl := Option.some.inj hO21
  exact gx_fin (.slice A15 l18.length c16) (by kernel_rfl) (by kernel_rfl) ⟨_, rfl, A15, c16, ads17, rfl, (hS10.pick [1, 2] rfl rfl)⟩

end Go.Proofs.Ytjndolnjhbgflaa
