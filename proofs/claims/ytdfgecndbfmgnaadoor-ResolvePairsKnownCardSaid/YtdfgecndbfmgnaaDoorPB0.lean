/-
  The program, walked.
-/
import Derived.Test.YtdfgecndbfmgnaaDoorRB2
import Derived.Test.YtdfgecndbfmgnaaDoorBa
namespace Go.Proofs.YtdfgecndbfmgnaaDoor
open Go Go.RowKit
set_option linter.unusedVariables false

def pEdge (_N : Nat) (p0 : Int) : Option (Int) :=
 (if p0 = 2 then some 2 else some 1)

set_option linter.unusedVariables false in
def pEdge_R (r : Int) (w0 : World) (v : Value) (w : World) : Prop := v = .int .u8 r ∧ St [] w0 w []

set_option maxRecDepth 100000 in
set_option maxHeartbeats 4000000 in
theorem pEdge_ok (N : Nat) (p0 : Int)  (r : Int) (hF : pEdge N p0 = some r) (w0 : World)  :
  Calls Tryd.prog 23 #[.int .u8 p0] w0 fun e w => ∃ v, e = .returned v ∧ pEdge_R r w0 v w := by
 have hS0 := St.start w0
 unfold pEdge at hF
 refine calls_of Tryd.func23 rfl ⟨((.int .u8 p0) :: un 4 ([])).toArray, []⟩ (by kernel_rfl) ?_
 refine gx_seq (fun K1 hK2 => ?_)
 refine gx_region ?_
 refine gx_k (.int .u8 0) w0 ?_
 refine gx_nil ?_
 refine gx_thenN ?_
 refine hK2 _ _ ?_
 refine gx_seq (fun K3 hK4 => ?_)
 refine gx_seq (fun K5 hK6 => ?_)
 refine gx_region ?_
 refine gx_k (.int .u8 p0) w0 ?_
 rcases if_in hF with ⟨h7, hF⟩ | ⟨h7, hF⟩
 ·refine gx_v (.bool true) w0 (run_boolE (decide_eq_true h7) (by kernel_rfl)) ?_
  refine gx_nil ?_
  refine gx_thenN ?_
  refine hK6 _ _ ?_
  refine gx_yes (by kernel_rfl) ?_
  refine gx_seq (fun K8 hK9 => ?_)
  refine gx_region ?_
  refine gx_k (.int .u8 2) w0 ?_
  refine gx_nil ?_
  refine gx_thenN ?_
  refine hK9 _ _ ?_
  refine gx_ret ?_
  refine gx_thenR ?_
  obtain rfl := Option.some.inj hF
  exact gx_fin (.int .u8 2) (by kernel_rfl) (by kernel_rfl) ⟨_, rfl, rfl, hS0⟩
 ·refine gx_v (.bool false) w0 (run_boolE (decide_eq_false h7) (by kernel_rfl)) ?_
  refine gx_nil ?_
  refine gx_thenN ?_
  refine hK6 _ _ ?_
  refine gx_no (by kernel_rfl) ?_
  refine gx_pass ?_
  refine gx_thenN ?_
  refine hK4 _ _ ?_
  refine gx_seq (fun K10 hK11 => ?_)
  refine gx_region ?_
  refine gx_k (.int .u8 1) w0 ?_
  refine gx_nil ?_
  refine gx_thenN ?_
  refine hK11 _ _ ?_
  refine gx_ret ?_
  obtain rfl := Option.some.inj hF
  exact gx_fin (.int .u8 1) (by kernel_rfl) (by kernel_rfl) ⟨_, rfl, rfl, hS0⟩

def pSideOf (_N : Nat) (p0 : Int) : Option (Int) :=
 (if (Int.tmod p0 2) = 1 then some 2 else some 1)

set_option linter.unusedVariables false in
def pSideOf_R (r : Int) (w0 : World) (v : Value) (w : World) : Prop := v = .int .u8 r ∧ St [] w0 w []

set_option maxRecDepth 100000 in
set_option maxHeartbeats 4000000 in
theorem pSideOf_ok (N : Nat) (p0 : Int)  (r : Int) (hF : pSideOf N p0 = some r) (w0 : World)  :
  Calls Tryd.prog 22 #[.int .u8 p0] w0 fun e w => ∃ v, e = .returned v ∧ pSideOf_R r w0 v w := by
 have hS0 := St.start w0
 unfold pSideOf at hF
 refine calls_of Tryd.func22 rfl ⟨((.int .u8 p0) :: un 5 ([])).toArray, []⟩ (by kernel_rfl) ?_
 refine gx_seq (fun K1 hK2 => ?_)
 refine gx_region ?_
 refine gx_k (.int .u8 0) w0 ?_
 refine gx_nil ?_
 refine gx_thenN ?_
 refine hK2 _ _ ?_
 refine gx_seq (fun K3 hK4 => ?_)
 refine gx_seq (fun K5 hK6 => ?_)
 refine gx_region ?_
 refine gx_k (.int .u8 p0) w0 (gx_k (.int .u8 (Int.tmod p0 2)) w0 ?_)
 rcases if_in hF with ⟨h7, hF⟩ | ⟨h7, hF⟩
 ·refine gx_v (.bool true) w0 (run_boolE (decide_eq_true h7) (by kernel_rfl)) ?_
  refine gx_nil ?_
  refine gx_thenN ?_
  refine hK6 _ _ ?_
  refine gx_yes (by kernel_rfl) ?_
  refine gx_seq (fun K8 hK9 => ?_)
  refine gx_region ?_
  refine gx_k (.int .u8 2) w0 ?_
  refine gx_nil ?_
  refine gx_thenN ?_
  refine hK9 _ _ ?_
  refine gx_ret ?_
  refine gx_thenR ?_
  obtain rfl := Option.some.inj hF
  exact gx_fin (.int .u8 2) (by kernel_rfl) (by kernel_rfl) ⟨_, rfl, rfl, hS0⟩
 ·refine gx_v (.bool false) w0 (run_boolE (decide_eq_false h7) (by kernel_rfl)) ?_
  refine gx_nil ?_
  refine gx_thenN ?_
  refine hK6 _ _ ?_
  refine gx_no (by kernel_rfl) ?_
  refine gx_pass ?_
  refine gx_thenN ?_
  refine hK4 _ _ ?_
  refine gx_seq (fun K10 hK11 => ?_)
  refine gx_region ?_
  refine gx_k (.int .u8 1) w0 ?_
  refine gx_nil ?_
  refine gx_thenN ?_
  refine hK11 _ _ ?_
  refine gx_ret ?_
  obtain rfl := Option.some.inj hF
  exact gx_fin (.int .u8 1) (by kernel_rfl) (by kernel_rfl) ⟨_, rfl, rfl, hS0⟩

def pDir (_N : Nat) (p0 : Int) : Option (Int) :=
 (if p0 = 1 then some 1 else (if p0 = 2 then some 2 else (if p0 = 4 then some 2 else (if p0 = 7 then some 2 else some 0))))

set_option linter.unusedVariables false in
def pDir_R (r : Int) (w0 : World) (v : Value) (w : World) : Prop := v = .int .u8 r ∧ St [] w0 w []

set_option maxRecDepth 100000 in
set_option maxHeartbeats 4000000 in
theorem pDir_ok (N : Nat) (p0 : Int)  (r : Int) (hF : pDir N p0 = some r) (w0 : World)  :
  Calls Tryd.prog 39 #[.int .u8 p0] w0 fun e w => ∃ v, e = .returned v ∧ pDir_R r w0 v w := by
 have hS0 := St.start w0
 unfold pDir at hF
 refine calls_of Tryd.func39 rfl ⟨((.int .u8 p0) :: un 9 ([])).toArray, []⟩ (by kernel_rfl) ?_
 refine gx_seq (fun K1 hK2 => ?_)
 refine gx_region ?_
 refine gx_k (.int .u8 0) w0 ?_
 refine gx_nil ?_
 refine gx_thenN ?_
 refine hK2 _ _ ?_
 refine gx_seq (fun K3 hK4 => ?_)
 refine gx_seq (fun K5 hK6 => ?_)
 refine gx_region ?_
 refine gx_k (.int .u8 p0) w0 ?_
 refine gx_nil ?_
 refine gx_thenN ?_
 refine hK6 _ _ ?_
 refine gx_block ?_
 refine gx_seq (fun K7 hK8 => ?_)
 refine gx_region ?_
 rcases if_in hF with ⟨h9, hF⟩ | ⟨h9, hF⟩
 ·refine gx_v (.bool true) w0 (run_boolE (decide_eq_true h9) (by kernel_rfl)) ?_
  refine gx_k (.bool true) w0 ?_
  refine gx_nil ?_
  refine gx_thenN ?_
  refine hK8 _ _ ?_
  refine gx_yes (by kernel_rfl) ?_
  refine gx_seq (fun K10 hK11 => ?_)
  refine gx_region ?_
  refine gx_k (.int .u8 1) w0 ?_
  refine gx_nil ?_
  refine gx_thenN ?_
  refine hK11 _ _ ?_
  refine gx_ret ?_
  refine gx_blkR ?_
  refine gx_thenR ?_
  obtain rfl := Option.some.inj hF
  exact gx_fin (.int .u8 1) (by kernel_rfl) (by kernel_rfl) ⟨_, rfl, rfl, hS0⟩
 ·refine gx_v (.bool false) w0 (run_boolE (decide_eq_false h9) (by kernel_rfl)) ?_
  refine gx_k (.bool false) w0 ?_
  refine gx_nil ?_
  refine gx_thenN ?_
  refine hK8 _ _ ?_
  refine gx_no (by kernel_rfl) ?_
  refine gx_seq (fun K12 hK13 => ?_)
  refine gx_seq (fun K14 hK15 => ?_)
  refine gx_region ?_
  rcases if_in hF with ⟨h16, hF⟩ | ⟨h16, hF⟩
  ·refine gx_v (.bool true) w0 (run_boolE (decide_eq_true h16) (by kernel_rfl)) ?_
   refine gx_k (.bool true) w0 ?_
   refine gx_nil ?_
   refine gx_thenN ?_
   refine hK15 _ _ ?_
   refine gx_yes (by kernel_rfl) ?_
   refine gx_pass ?_
   refine gx_thenN ?_
   refine hK13 _ _ ?_
   refine gx_yes (by kernel_rfl) ?_
   refine gx_seq (fun K17 hK18 => ?_)
   refine gx_region ?_
   refine gx_k (.int .u8 2) w0 ?_
   refine gx_nil ?_
   refine gx_thenN ?_
   refine hK18 _ _ ?_
   refine gx_ret ?_
   refine gx_blkR ?_
   refine gx_thenR ?_
   obtain rfl := Option.some.inj hF
   exact gx_fin (.int .u8 2) (by kernel_rfl) (by kernel_rfl) ⟨_, rfl, rfl, hS0⟩
  ·refine gx_v (.bool false) w0 (run_boolE (decide_eq_false h16) (by kernel_rfl)) ?_
   refine gx_k (.bool false) w0 ?_
   refine gx_nil ?_
   refine gx_thenN ?_
   refine hK15 _ _ ?_
   refine gx_no (by kernel_rfl) ?_
   refine gx_seq (fun K19 hK20 => ?_)
   refine gx_region ?_
   rcases if_in hF with ⟨h21, hF⟩ | ⟨h21, hF⟩
   ·refine gx_v (.bool true) w0 (run_boolE (decide_eq_true h21) (by kernel_rfl)) ?_
    refine gx_k (.bool true) w0 ?_
    refine gx_nil ?_
    refine gx_thenN ?_
    refine hK20 _ _ ?_
    refine gx_yes (by kernel_rfl) ?_
    refine gx_pass ?_
    refine gx_thenN ?_
    refine hK13 _ _ ?_
    refine gx_yes (by kernel_rfl) ?_
    refine gx_seq (fun K22 hK23 => ?_)
    refine gx_region ?_
    refine gx_k (.int .u8 2) w0 ?_
    refine gx_nil ?_
    refine gx_thenN ?_
    refine hK23 _ _ ?_
    refine gx_ret ?_
    refine gx_blkR ?_
    refine gx_thenR ?_
    obtain rfl := Option.some.inj hF
    exact gx_fin (.int .u8 2) (by kernel_rfl) (by kernel_rfl) ⟨_, rfl, rfl, hS0⟩
   ·refine gx_v (.bool false) w0 (run_boolE (decide_eq_false h21) (by kernel_rfl)) ?_
    refine gx_k (.bool false) w0 ?_
    refine gx_nil ?_
    refine gx_thenN ?_
    refine hK20 _ _ ?_
    refine gx_no (by kernel_rfl) ?_
    refine gx_region ?_
    rcases if_in hF with ⟨h24, hF⟩ | ⟨h24, hF⟩
    ·refine gx_v (.bool true) w0 (run_boolE (decide_eq_true h24) (by kernel_rfl)) ?_
     refine gx_k (.bool true) w0 ?_
     refine gx_nil ?_
     refine gx_thenN ?_
     refine hK13 _ _ ?_
     refine gx_yes (by kernel_rfl) ?_
     refine gx_seq (fun K25 hK26 => ?_)
     refine gx_region ?_
     refine gx_k (.int .u8 2) w0 ?_
     refine gx_nil ?_
     refine gx_thenN ?_
     refine hK26 _ _ ?_
     refine gx_ret ?_
     refine gx_blkR ?_
     refine gx_thenR ?_
     obtain rfl := Option.some.inj hF
     exact gx_fin (.int .u8 2) (by kernel_rfl) (by kernel_rfl) ⟨_, rfl, rfl, hS0⟩
    ·refine gx_v (.bool false) w0 (run_boolE (decide_eq_false h24) (by kernel_rfl)) ?_
     refine gx_k (.bool false) w0 ?_
     refine gx_nil ?_
     refine gx_thenN ?_
     refine hK13 _ _ ?_
     refine gx_no (by kernel_rfl) ?_
     refine gx_pass ?_
     refine gx_blkN ?_
     refine gx_thenN ?_
     refine hK4 _ _ ?_
     refine gx_seq (fun K27 hK28 => ?_)
     refine gx_region ?_
     refine gx_k (.int .u8 0) w0 ?_
     refine gx_nil ?_
     refine gx_thenN ?_
     refine hK28 _ _ ?_
     refine gx_ret ?_
     obtain rfl := Option.some.inj hF
     exact gx_fin (.int .u8 0) (by kernel_rfl) (by kernel_rfl) ⟨_, rfl, rfl, hS0⟩

def pTurn_L1 (N : Nat) (p0 : List Int) (p1 : List Int) (p3 : Int) : Nat → (List Int) → Int → Option (List Int)
 | 0, _, _ => none
 | k17+1, l15, x16 => (if x16 < ((p0.length : Nat) : Int) then ((ix l15 x16).bind fun x30 => (if x30 = 10 then pTurn_L1 N p0 p1 p3 k17 l15 (IntKind.i64.wrap (x16 + 1)) else ((ix p1 x16).bind fun x37 => (if x37 ≠ 9 then some l15 else ((ix l15 x16).bind fun _x40 => ((setx l15 x16 p3).bind fun l44 => pTurn_L1 N p0 p1 p3 k17 l44 (IntKind.i64.wrap (x16 + 1)))))))) else some l15)
def pTurn (N : Nat) (p0 : List Int) (p1 : List Int) (p2 : Int) (p3 : Int) : Option (List Int) :=
 ((ix p0 p2).bind fun _x3 => ((setx p0 p2 p3).bind fun l7 => pTurn_L1 N p0 p1 p3 N l7 (IntKind.i64.wrap (p2 + 1))))

set_option linter.unusedVariables false in
def pTurn_R (p0 : List Int) (p1 : List Int) (p2 : Int) (p3 : Int) (A0 : Option Addr) (c0 : Nat) (A1 : Option Addr) (c1 : Nat) (r : List Int) (w0 : World) (v : Value) (w : World) : Prop := v = .tuple #[] ∧ St (foots [rowE .u8 33 A0 c0 p0]) w0 w [rowE .u8 33 A0 c0 r] ∧ r.length = p0.length

set_option maxRecDepth 100000 in
set_option maxHeartbeats 4000000 in
theorem pTurn_ok (N : Nat) (p0 : List Int) (p1 : List Int) (p2 : Int) (p3 : Int) (A0 : Option Addr) (c0 : Nat) (A1 : Option Addr) (c1 : Nat) (r : List Int) (hF : pTurn N p0 p1 p2 p3 = some r) (w0 : World) (hv1 : Vw (foots [rowE .u8 33 A0 c0 p0]) .u8 w0 A1 c1 p1) (hl : St (foots [rowE .u8 33 A0 c0 p0]) w0 w0 [rowE .u8 33 A0 c0 p0]) :
  Calls Tryd.prog 24 #[.slice A0 p0.length c0, .slice A1 p1.length c1, .int .i64 p2, .int .u8 p3] w0 fun e w => ∃ v, e = .returned v ∧ pTurn_R p0 p1 p2 p3 A0 c0 A1 c1 r w0 v w := by
 have hS0 := hl
 unfold pTurn at hF
 refine calls_of Tryd.func24 rfl ⟨((.slice A0 p0.length c0) :: (.slice A1 p1.length c1) :: (.int .i64 p2) :: (.int .u8 p3) :: un 31 ([])).toArray, []⟩ (by kernel_rfl) ?_
 refine gx_seq (fun K1 hK2 => ?_)
 refine gx_region ?_
 refine gx_k (.slice A0 p0.length c0) w0 (gx_k (.int .i64 p2) w0 (gx_k (.int .u8 p3) w0 ?_))
 obtain ⟨x3, hx4, hF⟩ := bind_in hF
 refine gx_v (.pointer (Option.map (fun (p : Addr) => p.add (Int.toNat p2 * 1)) A0)) w0 (run_ixaddr (E := 33) (s := 1) (k := .i64) (c := c0) rfl (by kernel_rfl) (by kernel_rfl) (by kernel_rfl) (fun _ => by kernel_rfl) (ix_in hx4).1 (ix_in hx4).2.1 (num_nil (hS0.row 0 rfl).1)) ?_
 obtain ⟨l7, hx8, hF⟩ := bind_in hF
 refine gx_s (st_storeix rfl (by kernel_rfl) (by kernel_rfl) (fun _ => by kernel_rfl) hS0 0 rfl hx8) ?_
 rintro w5 hS6
 have hS6 : St _ _ w5 [rowE .u8 33 A0 c0 l7] := hS6
 refine gx_nil ?_
 refine gx_thenN ?_
 refine hK2 _ _ ?_
 refine gx_seq (fun K9 hK10 => ?_)
 refine gx_region ?_
 refine gx_k (.int .i64 p2) w5 (gx_k (.int .i64 (IntKind.i64.wrap (p2 + 1))) w5 (gx_k (.int .i64 (IntKind.i64.wrap (p2 + 1))) w5 ?_))
 refine gx_nil ?_
 refine gx_thenN ?_
 refine hK10 _ _ ?_
 refine gx_block ?_
 refine gx_loop (fun k a w => ∃ (l15 : List Int) (x16 : Int), selfA (fun u13 => ⟨((.slice A0 p0.length c0) :: (.slice A1 p1.length c1) :: (.int .i64 p2) :: (.int .u8 p3) :: un 4 ((.int .i64 x16) :: (u13 9) :: (.int .i64 p2) :: (.int .u8 p3) :: (.pointer (Option.map (fun (p : Addr) => p.add (Int.toNat p2 * 1)) A0)) :: (.int .i64 p2) :: (.int .i64 (IntKind.i64.wrap (p2 + 1))) :: dd u13 15 20 ([]))).toArray, []⟩) a ∧ pTurn_L1 N p0 p1 p3 k l15 x16 = some r ∧ St (foots [rowE .u8 33 A0 c0 p0]) w0 w [rowE .u8 33 A0 c0 l15] ∧ p0.length = l15.length) N ?_ ?_
 ·exact ⟨l7, (IntKind.i64.wrap (p2 + 1)), selfA_i (by kernel_rfl), hF, hS6, (setx_len hx8).symm⟩
 ·rintro k17 _ w11 ⟨l15, x16, hq46, hL18, hS12, hn14⟩
  obtain ⟨u13, rfl⟩ := selfA_u hq46
  cases k17 with
  | zero => cases hL18
  | succ k17 =>
   first | rw [pTurn_L1] at hL18 | unfold pTurn_L1 at hL18
   refine gx_seq (fun K19 hK20 => ?_)
   refine gx_seq (fun K21 hK22 => ?_)
   refine gx_region ?_
   refine gx_k (.int .i64 x16) w11 (gx_k (.slice A0 p0.length c0) w11 (gx_k (.int .i64 ((p0.length : Nat) : Int)) w11 ?_))
   rcases if_in hL18 with ⟨h23, hL18⟩ | ⟨h23, hL18⟩
   ·refine gx_v (.bool true) w11 (run_boolE (decide_eq_true h23) (by kernel_rfl)) ?_
    refine gx_nil ?_
    refine gx_thenN ?_
    refine hK22 _ _ ?_
    refine gx_yes (by kernel_rfl) ?_
    refine gx_pass ?_
    refine gx_thenN ?_
    refine hK20 _ _ ?_
    refine gx_seq (fun K24 hK25 => ?_)
    refine gx_block ?_
    refine gx_seq (fun K26 hK27 => ?_)
    refine gx_seq (fun K28 hK29 => ?_)
    refine gx_region ?_
    refine gx_k (.slice A0 p0.length c0) w11 (gx_k (.int .i64 x16) w11 ?_)
    obtain ⟨x30, hx31, hL18⟩ := bind_in hL18
    refine gx_v (.pointer (Option.map (fun (p : Addr) => p.add (Int.toNat x16 * 1)) A0)) w11 (run_ixaddr (E := 33) (s := 1) (k := .i64) (c := c0) rfl (by kernel_rfl) (by kernel_rfl) (by kernel_rfl) (fun _ => by kernel_rfl) (ix_in hx31).1 (lt_len hn14 (ix_in hx31).2.1) (nil_len hn14 (num_nil (hS12.row 0 rfl).1))) ?_
    refine gx_v (.int .u8 x30) w11 (run_loadix rfl (by kernel_rfl) (fun _ => by kernel_rfl) (hS12.row 0 rfl).1 hx31) ?_
    rcases if_in hL18 with ⟨h32, hL18⟩ | ⟨h32, hL18⟩
    ·refine gx_v (.bool true) w11 (run_boolE (decide_eq_true h32) (by kernel_rfl)) ?_
     refine gx_nil ?_
     refine gx_thenN ?_
     refine hK29 _ _ ?_
     refine gx_yes (by kernel_rfl) ?_
     refine gx_exit ?_
     refine gx_thenE ?_
     refine gx_blkE ?_
     refine gx_thenN ?_
     refine hK25 _ _ ?_
     refine gx_region ?_
     refine gx_k (.int .i64 x16) w11 (gx_k (.int .i64 (IntKind.i64.wrap (x16 + 1))) w11 (gx_k (.int .i64 (IntKind.i64.wrap (x16 + 1))) w11 ?_))
     refine gx_nil ?_
     refine gx_thenN ?_
     exact ⟨k17, Nat.lt_succ_self k17, l15, (IntKind.i64.wrap (x16 + 1)), selfA_i (by kernel_rfl), hL18, hS12, hn14⟩
    ·refine gx_v (.bool false) w11 (run_boolE (decide_eq_false h32) (by kernel_rfl)) ?_
     refine gx_nil ?_
     refine gx_thenN ?_
     refine hK29 _ _ ?_
     refine gx_no (by kernel_rfl) ?_
     refine gx_pass ?_
     refine gx_thenN ?_
     refine hK27 _ _ ?_
     refine gx_seq (fun K33 hK34 => ?_)
     refine gx_seq (fun K35 hK36 => ?_)
     refine gx_region ?_
     refine gx_k (.slice A1 p1.length c1) w11 (gx_k (.int .i64 x16) w11 ?_)
     obtain ⟨x37, hx38, hL18⟩ := bind_in hL18
     refine gx_v (.pointer (Option.map (fun (p : Addr) => p.add (Int.toNat x16 * 1)) A1)) w11 (run_ixaddr (E := 33) (s := 1) (k := .i64) (c := c1) rfl (by kernel_rfl) (by kernel_rfl) (by kernel_rfl) (fun _ => by kernel_rfl) (ix_in hx38).1 (ix_in hx38).2.1 (num_nil (hS12.view hv1))) ?_
     refine gx_v (.int .u8 x37) w11 (run_loadix rfl (by kernel_rfl) (fun _ => by kernel_rfl) (hS12.view hv1) hx38) ?_
     rcases if_in hL18 with ⟨h39, hL18⟩ | ⟨h39, hL18⟩
     ·refine gx_v (.bool true) w11 (run_boolE (ne_yes h39) (by kernel_rfl)) ?_
      refine gx_nil ?_
      refine gx_thenN ?_
      refine hK36 _ _ ?_
      refine gx_yes (by kernel_rfl) ?_
      refine gx_ret ?_
      refine gx_thenR ?_
      refine gx_blkR ?_
      refine gx_thenR ?_
      refine gx_thenR ?_
      refine gx_blkR ?_
      obtain rfl := Option.some.inj hL18
      exact gx_fin (.tuple #[]) (by kernel_rfl) (by kernel_rfl) ⟨_, rfl, rfl, hS12, (hn14).symm⟩
     ·refine gx_v (.bool false) w11 (run_boolE (ne_no h39) (by kernel_rfl)) ?_
      refine gx_nil ?_
      refine gx_thenN ?_
      refine hK36 _ _ ?_
      refine gx_no (by kernel_rfl) ?_
      refine gx_pass ?_
      refine gx_thenN ?_
      refine hK34 _ _ ?_
      refine gx_region ?_
      refine gx_k (.slice A0 p0.length c0) w11 (gx_k (.int .i64 x16) w11 (gx_k (.int .u8 p3) w11 ?_))
      obtain ⟨x40, hx41, hL18⟩ := bind_in hL18
      refine gx_v (.pointer (Option.map (fun (p : Addr) => p.add (Int.toNat x16 * 1)) A0)) w11 (run_ixaddr (E := 33) (s := 1) (k := .i64) (c := c0) rfl (by kernel_rfl) (by kernel_rfl) (by kernel_rfl) (fun _ => by kernel_rfl) (ix_in hx41).1 (lt_len hn14 (ix_in hx41).2.1) (nil_len hn14 (num_nil (hS12.row 0 rfl).1))) ?_
      obtain ⟨l44, hx45, hL18⟩ := bind_in hL18
      refine gx_s (st_storeix rfl (by kernel_rfl) (by kernel_rfl) (fun _ => by kernel_rfl) hS12 0 rfl hx45) ?_
      rintro w42 hS43
      have hS43 : St _ _ w42 [rowE .u8 33 A0 c0 l44] := hS43
      refine gx_nil ?_
      refine gx_blkN ?_
      refine gx_thenN ?_
      refine hK25 _ _ ?_
      refine gx_region ?_
      refine gx_k (.int .i64 x16) w42 (gx_k (.int .i64 (IntKind.i64.wrap (x16 + 1))) w42 (gx_k (.int .i64 (IntKind.i64.wrap (x16 + 1))) w42 ?_))
      refine gx_nil ?_
      refine gx_thenN ?_
      exact ⟨k17, Nat.lt_succ_self k17, l44, (IntKind.i64.wrap (x16 + 1)), selfA_i (by kernel_rfl), hL18, hS43, (hn14.trans (setx_len hx45).symm)⟩
   ·refine gx_v (.bool false) w11 (run_boolE (decide_eq_false h23) (by kernel_rfl)) ?_
    refine gx_nil ?_
    refine gx_thenN ?_
    refine hK22 _ _ ?_
    refine gx_no (by kernel_rfl) ?_
    refine gx_exit ?_
    refine gx_thenE ?_
    refine gx_thenE ?_
    refine gx_blkE ?_
    obtain rfl := Option.some.inj hL18
    exact gx_finN (.tuple #[]) (by kernel_rfl) (by kernel_rfl) ⟨_, rfl, rfl, hS12, (hn14).symm⟩

def bDir (_N : Nat) (p0 : Int) : Option (Int) :=
 (if p0 = 1 then some 1 else (if p0 = 2 then some 2 else (if p0 = 4 then some 2 else (if p0 = 7 then some 2 else some 0))))

def bDir_R (r : Int) (w0 : World) (v : Value) (w : World) : Prop := v = .int .u8 r ∧ St [] w0 w []

set_option maxRecDepth 100000 in
set_option maxHeartbeats 4000000 in
theorem bDir_ok (N : Nat) (p0 : Int)  (r : Int) (hF : bDir N p0 = some r) (w0 : World)  :
  Calls Tryd.prog 39 #[.int .u8 p0] w0 fun e w => ∃ v, e = .returned v ∧ bDir_R r w0 v w := by
 have hS0 := St.start w0
 unfold bDir at hF
 refine calls_of Tryd.func39 rfl ⟨((.int .u8 p0) :: un 9 ([])).toArray, []⟩ (by kernel_rfl) ?_
 refine gx_seq (fun K1 hK2 => ?_)
 refine gx_region ?_
 refine gx_k (.int .u8 0) w0 ?_
 refine gx_nil ?_
 refine gx_thenN ?_
 refine hK2 _ _ ?_
 refine gx_seq (fun K3 hK4 => ?_)
 refine gx_seq (fun K5 hK6 => ?_)
 refine gx_region ?_
 refine gx_k (.int .u8 p0) w0 ?_
 refine gx_nil ?_
 refine gx_thenN ?_
 refine hK6 _ _ ?_
 refine gx_block ?_
 refine gx_seq (fun K7 hK8 => ?_)
 refine gx_region ?_
 rcases if_in hF with ⟨h9, hF⟩ | ⟨h9, hF⟩
 ·refine gx_v (.bool true) w0 (run_boolE (decide_eq_true h9) (by kernel_rfl)) ?_
  refine gx_k (.bool true) w0 ?_
  refine gx_nil ?_
  refine gx_thenN ?_
  refine hK8 _ _ ?_
  refine gx_yes (by kernel_rfl) ?_
  refine gx_seq (fun K10 hK11 => ?_)
  refine gx_region ?_
  refine gx_k (.int .u8 1) w0 ?_
  refine gx_nil ?_
  refine gx_thenN ?_
  refine hK11 _ _ ?_
  refine gx_ret ?_
  refine gx_blkR ?_
  refine gx_thenR ?_
  obtain rfl := Option.some.inj hF
  exact gx_fin (.int .u8 1) (by kernel_rfl) (by kernel_rfl) ⟨_, rfl, rfl, hS0⟩
 ·refine gx_v (.bool false) w0 (run_boolE (decide_eq_false h9) (by kernel_rfl)) ?_
  refine gx_k (.bool false) w0 ?_
  refine gx_nil ?_
  refine gx_thenN ?_
  refine hK8 _ _ ?_
  refine gx_no (by kernel_rfl) ?_
  refine gx_seq (fun K12 hK13 => ?_)
  refine gx_seq (fun K14 hK15 => ?_)
  refine gx_region ?_
  rcases if_in hF with ⟨h16, hF⟩ | ⟨h16, hF⟩
  ·refine gx_v (.bool true) w0 (run_boolE (decide_eq_true h16) (by kernel_rfl)) ?_
   refine gx_k (.bool true) w0 ?_
   refine gx_nil ?_
   refine gx_thenN ?_
   refine hK15 _ _ ?_
   refine gx_yes (by kernel_rfl) ?_
   refine gx_pass ?_
   refine gx_thenN ?_
   refine hK13 _ _ ?_
   refine gx_yes (by kernel_rfl) ?_
   refine gx_seq (fun K17 hK18 => ?_)
   refine gx_region ?_
   refine gx_k (.int .u8 2) w0 ?_
   refine gx_nil ?_
   refine gx_thenN ?_
   refine hK18 _ _ ?_
   refine gx_ret ?_
   refine gx_blkR ?_
   refine gx_thenR ?_
   obtain rfl := Option.some.inj hF
   exact gx_fin (.int .u8 2) (by kernel_rfl) (by kernel_rfl) ⟨_, rfl, rfl, hS0⟩
  ·refine gx_v (.bool false) w0 (run_boolE (decide_eq_false h16) (by kernel_rfl)) ?_
   refine gx_k (.bool false) w0 ?_
   refine gx_nil ?_
   refine gx_thenN ?_
   refine hK15 _ _ ?_
   refine gx_no (by kernel_rfl) ?_
   refine gx_seq (fun K19 hK20 => ?_)
   refine gx_region ?_
   rcases if_in hF with ⟨h21, hF⟩ | ⟨h21, hF⟩
   ·refine gx_v (.bool true) w0 (run_boolE (decide_eq_true h21) (by kernel_rfl)) ?_
    refine gx_k (.bool true) w0 ?_
    refine gx_nil ?_
    refine gx_thenN ?_
    refine hK20 _ _ ?_
    refine gx_yes (by kernel_rfl) ?_
    refine gx_pass ?_
    refine gx_thenN ?_
    refine hK13 _ _ ?_
    refine gx_yes (by kernel_rfl) ?_
    refine gx_seq (fun K22 hK23 => ?_)
    refine gx_region ?_
    refine gx_k (.int .u8 2) w0 ?_
    refine gx_nil ?_
    refine gx_thenN ?_
    refine hK23 _ _ ?_
    refine gx_ret ?_
    refine gx_blkR ?_
    refine gx_thenR ?_
    obtain rfl := Option.some.inj hF
    exact gx_fin (.int .u8 2) (by kernel_rfl) (by kernel_rfl) ⟨_, rfl, rfl, hS0⟩
   ·refine gx_v (.bool false) w0 (run_boolE (decide_eq_false h21) (by kernel_rfl)) ?_
    refine gx_k (.bool false) w0 ?_
    refine gx_nil ?_
    refine gx_thenN ?_
    refine hK20 _ _ ?_
    refine gx_no (by kernel_rfl) ?_
    refine gx_region ?_
    rcases if_in hF with ⟨h24, hF⟩ | ⟨h24, hF⟩
    ·refine gx_v (.bool true) w0 (run_boolE (decide_eq_true h24) (by kernel_rfl)) ?_
     refine gx_k (.bool true) w0 ?_
     refine gx_nil ?_
     refine gx_thenN ?_
     refine hK13 _ _ ?_
     refine gx_yes (by kernel_rfl) ?_
     refine gx_seq (fun K25 hK26 => ?_)
     refine gx_region ?_
     refine gx_k (.int .u8 2) w0 ?_
     refine gx_nil ?_
     refine gx_thenN ?_
     refine hK26 _ _ ?_
     refine gx_ret ?_
     refine gx_blkR ?_
     refine gx_thenR ?_
     obtain rfl := Option.some.inj hF
     exact gx_fin (.int .u8 2) (by kernel_rfl) (by kernel_rfl) ⟨_, rfl, rfl, hS0⟩
    ·refine gx_v (.bool false) w0 (run_boolE (decide_eq_false h24) (by kernel_rfl)) ?_
     refine gx_k (.bool false) w0 ?_
     refine gx_nil ?_
     refine gx_thenN ?_
     refine hK13 _ _ ?_
     refine gx_no (by kernel_rfl) ?_
     refine gx_pass ?_
     refine gx_blkN ?_
     refine gx_thenN ?_
     refine hK4 _ _ ?_
     refine gx_seq (fun K27 hK28 => ?_)
     refine gx_region ?_
     refine gx_k (.int .u8 0) w0 ?_
     refine gx_nil ?_
     refine gx_thenN ?_
     refine hK28 _ _ ?_
     refine gx_ret ?_
     obtain rfl := Option.some.inj hF
     exact gx_fin (.int .u8 0) (by kernel_rfl) (by kernel_rfl) ⟨_, rfl, rfl, hS0⟩

def pBack (_N : Nat) : Option (Unit) :=
 some ()

def pBack_R (A0 : Option Addr) (n0 : Nat) (c0 : Nat) (_r : Unit) (w0 : World) (v : Value) (w : World) : Prop := ∃ (g0' : Nat), v = .func (.func 63) #[] #[.pointer (some ⟨g0', 0, none⟩)] ∧ St [] w0 w [boxE g0' [.slice A0 n0 c0] 23]

set_option maxRecDepth 100000 in
set_option maxHeartbeats 4000000 in
theorem pBack_ok (N : Nat) (A0 : Option Addr) (n0 c0 : Nat) (r : Unit) (hF : pBack N = some r) (w0 : World)  :
  Calls Tryd.prog 56 #[.slice A0 n0 c0] w0 fun e w => ∃ v, e = .returned v ∧ pBack_R A0 n0 c0 r w0 v w := by
 have hS0 := St.start w0
 unfold pBack at hF
 refine calls_of Tryd.func56 rfl ⟨((.slice A0 n0 c0) :: un 3 ([])).toArray, []⟩ (by kernel_rfl) ?_
 refine gx_seq (fun K1 hK2 => ?_)
 refine gx_region ?_
 refine gx_r (st_boxed [.slice A0 n0 c0] 23 hS0 (by kernel_rfl)) ?_
 rintro _ w3 ⟨rfl, hS4⟩
 have hS4 : St _ _ w3 [boxE w0.heap.size [.slice A0 n0 c0] 23] := hS4
 refine gx_k (Value.nilFunc) w3 ?_
 refine gx_nil ?_
 refine gx_thenN ?_
 refine hK2 _ _ ?_
 refine gx_seq (fun K5 hK6 => ?_)
 refine gx_region ?_
 refine gx_k (.func (.func 63) #[] #[.pointer (some ⟨w0.heap.size, 0, none⟩)]) w3 (gx_k (.func (.func 63) #[] #[.pointer (some ⟨w0.heap.size, 0, none⟩)]) w3 ?_)
 refine gx_nil ?_
 refine gx_thenN ?_
 refine hK6 _ _ ?_
 refine gx_ret ?_
 obtain rfl := Option.some.inj hF
 exact gx_fin (.func (.func 63) #[] #[.pointer (some ⟨w0.heap.size, 0, none⟩)]) (by kernel_rfl) (by kernel_rfl) ⟨_, rfl, w0.heap.size, rfl, hS4⟩
def encint_apiClass (x : Int × Int) : Array Value := #[.int .i64 x.1, .int .u8 x.2]

def pBack1_L1 (N : Nat) (p1 : List Int) : Nat → Int → Option (List (Int × Int))
 | 0, _ => none
 | k11+1, x6 => (if x6 ≥ 0 then ((ix p1 x6).bind fun x22 => (Option.map (fun is => (x6, x22) :: is) (pBack1_L1 N p1 k11 (IntKind.i64.wrap (x6 - 1))))) else some [])
def pBack1 (N : Nat) (p1 : List Int) : Option (List (Int × Int)) :=
 pBack1_L1 N p1 N (IntKind.i64.wrap (((p1.length : Nat) : Int) - 1))

def pBack1_kp (g1 : Nat) (A1 : Option Addr) (c1 : Nat) (p1 : List Int) (W : World) : Prop := W.heap[g1]? = some (.cells [.slice A1 p1.length c1].toArray 23 (0, 0)) ∧ NumZ .u8 W (.slice A1 p1.length c1) p1

theorem pBack1_kp_ab {g1 : Nat} {A1 : Option Addr} {c1 : Nat} {p1 : List Int} {W W' : World} (hk : pBack1_kp g1 A1 c1 p1 W) (hb : Below W.heap.size W W') : pBack1_kp g1 A1 c1 p1 W' := ⟨(hb.block _ (own_row_lt hk.1)).trans hk.1, hk.2.below hb⟩

set_option maxRecDepth 100000 in
set_option maxHeartbeats 4000000 in
theorem pBack1_iter (N : Nat) (p1 : List Int) (items : List (Int × Int)) (hF : pBack1 N p1 = some items) (g1 : Nat) (A1 : Option Addr) (c1 : Nat) (hn1 : A1 = none → c1 = 0) : Iter Tryd.prog (.func (.func 63) #[] #[.pointer (some ⟨g1, 0, none⟩)]) encint_apiClass items (pBack1_kp g1 A1 c1 p1) := by
 refine ⟨_, _, rfl, fun _ _ => by kernel_rfl, ?_⟩
 intro n l J Jx W hab habx hY hk hJ
 have hS0 := St.start W
 unfold pBack1 at hF
 refine callsin_of Tryd.func63 rfl ⟨((.func (.yield l) #[] #[]) :: (.pointer (some ⟨g1, 0, none⟩)) :: un 17 ([])).toArray, []⟩ (by kernel_rfl) ?_
 refine gx_seq (fun K1 hK2 => ?_)
 refine gx_region ?_
 refine gx_v (.slice A1 p1.length c1) W (run_load1 rfl (by kernel_rfl) (fun _ => by kernel_rfl) (hS0.read hk.1 0 rfl)) ?_
 refine gx_k (.int .i64 ((p1.length : Nat) : Int)) W (gx_k (.int .i64 (IntKind.i64.wrap (((p1.length : Nat) : Int) - 1))) W (gx_k (.int .i64 (IntKind.i64.wrap (((p1.length : Nat) : Int) - 1))) W ?_))
 refine gx_nil ?_
 refine gx_thenN ?_
 refine hK2 _ _ ?_
 refine gx_block ?_
 refine gx_loop (fun k a w => ∃ (x6 : Int) (wb7 : World) (its8 : List (Int × Int)) (u5 : Nat → Value), a = ⟨((.func (.yield l) #[] #[]) :: (.pointer (some ⟨g1, 0, none⟩)) :: undef :: (.int .i64 x6) :: (.slice A1 p1.length c1) :: (.int .i64 ((p1.length : Nat) : Int)) :: (.int .i64 (IntKind.i64.wrap (((p1.length : Nat) : Int) - 1))) :: dd u5 0 12 ([])).toArray, []⟩ ∧ pBack1_L1 N p1 k x6 = some its8 ∧ St [] wb7 w [] ∧ J its8 wb7 ∧ (pBack1_kp g1 A1 c1 p1) wb7) N ?_ ?_
 ·exact ⟨(IntKind.i64.wrap (((p1.length : Nat) : Int) - 1)), W, items, (fun i => List.getD (undef :: undef :: undef :: undef :: undef :: undef :: undef :: undef :: undef :: undef :: undef :: undef :: []) i undef), by kernel_rfl, hF, hS0, hJ, hk⟩
 ·rintro k11 _ w3 ⟨x6, wb7, its8, u5, rfl, hL12, hS4, hJ9, hk10⟩
  cases k11 with
  | zero => cases hL12
  | succ k11 =>
   first | rw [pBack1_L1] at hL12 | unfold pBack1_L1 at hL12
   refine gx_seq (fun K13 hK14 => ?_)
   refine gx_seq (fun K15 hK16 => ?_)
   refine gx_region ?_
   refine gx_k (.int .i64 x6) w3 ?_
   rcases if_in hL12 with ⟨h17, hL12⟩ | ⟨h17, hL12⟩
   ·refine gx_v (.bool true) w3 (run_boolE (decide_eq_true h17) (by kernel_rfl)) ?_
    refine gx_nil ?_
    refine gx_thenN ?_
    refine hK16 _ _ ?_
    refine gx_yes (by kernel_rfl) ?_
    refine gx_pass ?_
    refine gx_thenN ?_
    refine hK14 _ _ ?_
    refine gx_seq (fun K18 hK19 => ?_)
    refine gx_block ?_
    refine gx_seq (fun K20 hK21 => ?_)
    refine gx_region ?_
    refine gx_k (.func (.yield l) #[] #[]) w3 (gx_k (.int .i64 x6) w3 ?_)
    refine gx_v (.slice A1 p1.length c1) w3 (run_load1 rfl (by kernel_rfl) (fun _ => by kernel_rfl) (hS4.read hk10.1 0 rfl)) ?_
    refine gx_k (.int .i64 x6) w3 ?_
    obtain ⟨x22, hx23, hL12⟩ := bind_in hL12
    refine gx_v (.pointer (Option.map (fun (p : Addr) => p.add (Int.toNat x6 * 1)) A1)) w3 (run_ixaddr (E := 33) (s := 1) (k := .i64) (c := c1) rfl (by kernel_rfl) (by kernel_rfl) (by kernel_rfl) (fun _ => by kernel_rfl) (ix_in hx23).1 (ix_in hx23).2.1 (num_nil (hS4.view (Vw.of hk10.2 hn1)))) ?_
    refine gx_v (.int .u8 x22) w3 (run_loadix rfl (by kernel_rfl) (fun _ => by kernel_rfl) (hS4.view (Vw.of hk10.2 hn1)) hx23) ?_
    obtain ⟨its24, hL12, hq25⟩ := Option.map_eq_some_iff.1 hL12
    rw [← hq25] at hJ9
    refine gx_yield (fun v w => (v = .bool true ∧ J its24 w ∧ (pBack1_kp g1 A1 c1 p1) w) ∨ (v = .bool false ∧ Jx w ∧ (pBack1_kp g1 A1 c1 p1) w)) (by kernel_rfl) (run_yieldcall2 rfl (by kernel_rfl) (by kernel_rfl) (by kernel_rfl)) (yield_out (hY _ _ _ (hab _ _ _ hJ9 hS4.below) (pBack1_kp_ab hk10 hS4.below))) ?_
    rintro _ w26 (⟨rfl, hJ27, hk28⟩ | ⟨rfl, hx29, hk28⟩)
    ·have hS30 := St.start w26
     refine gx_k (.bool false) w26 ?_
     refine gx_nil ?_
     refine gx_thenN ?_
     refine hK21 _ _ ?_
     refine gx_no (by kernel_rfl) ?_
     refine gx_pass ?_
     refine gx_blkN ?_
     refine gx_thenN ?_
     refine hK19 _ _ ?_
     refine gx_region ?_
     refine gx_k (.int .i64 x6) w26 (gx_k (.int .i64 (IntKind.i64.wrap (x6 - 1))) w26 (gx_k (.int .i64 (IntKind.i64.wrap (x6 - 1))) w26 ?_))
     refine gx_nil ?_
     refine gx_thenN ?_
     exact ⟨k11, Nat.lt_succ_self k11, (IntKind.i64.wrap (x6 - 1)), w26, its24, (fun i => List.getD ((.int .i64 x6) :: (.bool true) :: (.int .i64 x6) :: (.int .i64 (IntKind.i64.wrap (x6 - 1))) :: (.func (.yield l) #[] #[]) :: (.int .i64 x6) :: (.slice A1 p1.length c1) :: (.int .i64 x6) :: (.pointer (Option.map (fun (p : Addr) => p.add (Int.toNat x6 * 1)) A1)) :: (.int .u8 x22) :: (.bool true) :: (.bool false) :: []) i undef), by kernel_rfl, hL12, hS30, hJ27, hk28⟩
    ·have hS30 := St.start w26
     refine gx_k (.bool true) w26 ?_
     refine gx_nil ?_
     refine gx_thenN ?_
     refine hK21 _ _ ?_
     refine gx_yes (by kernel_rfl) ?_
     refine gx_ret ?_
     refine gx_blkR ?_
     refine gx_thenR ?_
     refine gx_thenR ?_
     refine gx_blkR ?_
     exact gx_fin (.tuple #[]) (by kernel_rfl) (by kernel_rfl) ⟨⟨_, rfl⟩, .inr (habx _ _ hx29 hS30.below)⟩
   ·refine gx_v (.bool false) w3 (run_boolE (decide_eq_false h17) (by kernel_rfl)) ?_
    refine gx_nil ?_
    refine gx_thenN ?_
    refine hK16 _ _ ?_
    refine gx_no (by kernel_rfl) ?_
    refine gx_exit ?_
    refine gx_thenE ?_
    refine gx_thenE ?_
    refine gx_blkE ?_
    obtain rfl := Option.some.inj hL12
    exact gx_finN (.tuple #[]) (by kernel_rfl) (by kernel_rfl) ⟨⟨_, rfl⟩, .inl (hab _ _ _ hJ9 hS4.below)⟩

def pAhead_X1 (N : Nat) : List (Int × Int) → Int → Option (Ctl (Int) (Int))
 | [], x17 => some (Ctl.go x17)
 | (_x22, x23) :: its24, x17 => ((bDir N x23).bind fun x39 => (if x39 ≠ 0 then some (Ctl.ret x39) else pAhead_X1 N its24 x17))
def pAhead (N : Nat) (p0 : List Int) (p1 : Int) : Option (Int) :=
 ((pBack1 N p0).bind fun its13 => ((pAhead_X1 N its13 0).bind fun | Ctl.go _x17 => some p1 | Ctl.ret x17 => some x17))

def pAhead_R (r : Int) (w0 : World) (v : Value) (w : World) : Prop := v = .int .u8 r ∧ St [] w0 w []

set_option maxRecDepth 100000 in
set_option maxHeartbeats 4000000 in
theorem pAhead_ok (N : Nat) (p0 : List Int) (p1 : Int) (A0 : Option Addr) (c0 : Nat) (r : Int) (hF : pAhead N p0 p1 = some r) (w0 : World) (hv0 : Vw [] .u8 w0 A0 c0 p0) :
  Calls Tryd.prog 40 #[.slice A0 p0.length c0, .int .u8 p1] w0 fun e w => ∃ v, e = .returned v ∧ pAhead_R r w0 v w := by
 have hS0 := St.start w0
 unfold pAhead at hF
 refine calls_ofM Tryd.func40 rfl ⟨((.slice A0 p0.length c0) :: (.int .u8 p1) :: un 16 ([])).toArray, []⟩ (by kernel_rfl) ?_
 refine gx_seq (fun K1 hK2 => ?_)
 refine gx_region ?_
 refine gx_r (st_boxed [.int .u8 0] 33 hS0 (by kernel_rfl)) ?_
 rintro _ w3 ⟨rfl, hS4⟩
 have hS4 : St _ _ w3 [boxE w0.heap.size [.int .u8 0] 33] := hS4
 refine gx_nil ?_
 refine gx_thenN ?_
 refine hK2 _ _ ?_
 refine gx_seq (fun K5 hK6 => ?_)
 refine gx_seq (fun K7 hK8 => ?_)
 refine gx_region ?_
 refine gx_k (.slice A0 p0.length c0) w3 ?_
 refine gx_c (pBack_R A0 p0.length c0 () w3) (pBack_ok N  A0 p0.length c0 _ rfl w3) ?_
 rintro _ w9 ⟨g12, rfl, hT11⟩
 have hS10 : St _ _ w9 [boxE w0.heap.size [.int .u8 0] 33, boxE g12 [.slice A0 p0.length c0] 23] := hS4.take _ hT11
 refine gx_nil ?_
 refine gx_thenN ?_
 refine hK8 _ _ ?_
 refine gx_block ?_
 obtain ⟨its13, hi16, hF⟩ := bind_in hF
 have hS15 : St _ _ w9 ([boxE w0.heap.size [.int .u8 0] 33] ++ [boxE g12 [.slice A0 p0.length c0] 23]) := hS10.pick [0, 1] rfl rfl
 have hit14 := pBack1_iter N p0 _ hi16 g12 A0 c0 hv0.nn
 have hS21 : St _ _ w9 ([boxE w0.heap.size [.int .u8 0] 33] ++ [boxE g12 [.slice A0 p0.length c0] 23]) := hS15.pick [0, 1] rfl rfl
 obtain ⟨c18, hE19, hO20⟩ := bind_in hF
 refine gx_range (v := .func (.func 63) #[] #[.pointer (some ⟨g12, 0, none⟩)]) (enc := encint_apiClass) (items := its13) (kp := (pBack1_kp g12 A0 c0 p0)) (es := [boxE w0.heap.size [.int .u8 0] 33]) (ks := [boxE g12 [.slice A0 p0.length c0] 23]) (by kernel_rfl) hit14 (fun ⟨_, _⟩ => rfl) hS21 (fun W es h => ⟨((fun e he => (h.holds e he).1) (boxE g12 [.slice A0 p0.length c0] 23) (by simp)), (h.view hv0)⟩) (fun rest es => ∃ (x17 : Int), pAhead_X1 N rest x17 = some c18 ∧ es = [boxE w0.heap.size [.int .u8 x17] 33]) (fun es => ∃ (x17 : Int), c18 = Ctl.ret x17 ∧ es = [boxE w0.heap.size [.int .u8 x17] 33]) .ret ⟨0, hE19, rfl⟩ ?_ ?_ ?_
 ·rintro l26 r27 r28 ⟨x22, x23⟩ its24 w29 _ ⟨x17, hL25, rfl⟩ hS30
  rw [pAhead_X1] at hL25
  refine gx_act ⟨((.slice A0 p0.length c0) :: (.int .u8 p1) :: undef :: undef :: (.pointer (some ⟨w0.heap.size, 0, none⟩)) :: un 3 ((.slice A0 p0.length c0) :: (.func (.func 63) #[] #[.pointer (some ⟨g12, 0, none⟩)]) :: (.int .i64 x22) :: (.int .u8 x23) :: un 6 ([]))).toArray, []⟩ (by kernel_rfl) ?_
  refine gx_region ?_
  refine gx_k (.int .u8 x23) w29 ?_
  refine gx_nil ?_
  refine gx_thenN ?_
  refine ⟨[boxE w0.heap.size [.int .u8 x17] 33], hS30, fun w31 hS32 => ?_⟩
  have hS32 : St _ _ w31 [objE l26 r28, boxE w0.heap.size [.int .u8 x17] 33] := hS32
  refine gx_block ?_
  refine gx_seq (fun K33 hK34 => ?_)
  refine gx_region ?_
  refine gx_k (.int .u8 x23) w31 ?_
  obtain ⟨x39, hc36, hL25⟩ := bind_in hL25
  try dsimp only at hL25
  refine gx_c (bDir_R  x39 w31) (bDir_ok N x23 _ hc36 w31 ) ?_
  rintro _ w37 ⟨rfl, hT40⟩
  have hS38 : St _ _ w37 [objE l26 r28, boxE w0.heap.size [.int .u8 x17] 33] := hS32.take _ hT40
  refine gx_k (.int .u8 x39) w37 ?_
  refine gx_nil ?_
  refine gx_thenN ?_
  refine hK34 _ _ ?_
  refine gx_seq (fun K41 hK42 => ?_)
  refine gx_region ?_
  refine gx_k (.int .u8 x39) w37 ?_
  rcases if_in hL25 with ⟨h43, hL25⟩ | ⟨h43, hL25⟩
  ·refine gx_v (.bool true) w37 (run_boolE (ne_yes h43) (by kernel_rfl)) ?_
   refine gx_nil ?_
   refine gx_thenN ?_
   refine hK42 _ _ ?_
   refine gx_yes (by kernel_rfl) ?_
   refine gx_seq (fun K44 hK45 => ?_)
   refine gx_region ?_
   refine gx_k (.int .u8 x39) w37 ?_
   refine gx_s (st_store (j := 0) (v := (.int .u8 x39)) rfl (by kernel_rfl) (by kernel_rfl) rfl (fun _ => by kernel_rfl) hS38 1 rfl (by show 0 < 1; decide)) ?_
   rintro w46 hS47
   have hS47 : St _ _ w46 [objE l26 r28, boxE w0.heap.size [.int .u8 x39] 33] := hS47
   refine gx_nil ?_
   refine gx_thenN ?_
   refine hK45 _ _ ?_
   refine gx_ret ?_
   refine gx_blkR ?_
   exact ⟨⟨rfl, [boxE w0.heap.size [.int .u8 x39] 33], hS47, x39, (Option.some.inj hL25).symm, rfl⟩⟩
  ·refine gx_v (.bool false) w37 (run_boolE (ne_no h43) (by kernel_rfl)) ?_
   refine gx_nil ?_
   refine gx_thenN ?_
   refine hK42 _ _ ?_
   refine gx_no (by kernel_rfl) ?_
   refine gx_pass ?_
   refine gx_blkN ?_
   exact ⟨⟨[boxE w0.heap.size [.int .u8 x17] 33], hS38, x17, hL25, rfl⟩⟩
 ·rintro D48 w49 _ ⟨x17, hL25, rfl⟩ hS50
  rw [pAhead_X1] at hL25
  obtain rfl := Option.some.inj hL25
  try dsimp only at hO20
  have hS50 : St _ _ w49 [objE D48 (.deferred (some [])), boxE w0.heap.size [.int .u8 x17] 33, boxE g12 [.slice A0 p0.length c0] 23] := hS50
  refine gx_blkN ?_
  refine gx_thenN ?_
  refine hK6 _ _ ?_
  refine gx_seq (fun K51 hK52 => ?_)
  refine gx_region ?_
  refine gx_k (.int .u8 p1) w49 ?_
  refine gx_s (st_store (j := 0) (v := (.int .u8 p1)) rfl (by kernel_rfl) (by kernel_rfl) rfl (fun _ => by kernel_rfl) hS50 1 rfl (by show 0 < 1; decide)) ?_
  rintro w53 hS54
  have hS54 : St _ _ w53 [objE D48 (.deferred (some [])), boxE w0.heap.size [.int .u8 p1] 33, boxE g12 [.slice A0 p0.length c0] 23] := hS54
  refine gx_nil ?_
  refine gx_thenN ?_
  refine hK52 _ _ ?_
  refine gx_ret ?_
  obtain rfl := Option.some.inj hO20
  exact gx_finM1 (es := [boxE w0.heap.size [.int .u8 p1] 33]) (.int .u8 p1) (by kernel_rfl) (hS54.pick [0, 1] rfl rfl) (fun w hS => ⟨(res_c1 rfl (by kernel_rfl) (by kernel_rfl) (hS.box 0 rfl 0 rfl)), _, rfl, rfl, hS.pick [] rfl rfl⟩)
 ·rintro D48 w49 _ ⟨x17, rfl, rfl⟩ hS50
  try dsimp only at hO20
  have hS50 : St _ _ w49 [objE D48 (.deferred (some [])), boxE w0.heap.size [.int .u8 x17] 33, boxE g12 [.slice A0 p0.length c0] 23] := hS50
  refine gx_ret ?_
  refine gx_blkR ?_
  refine gx_thenR ?_
  obtain rfl := Option.some.inj hO20
  exact gx_finM1 (es := [boxE w0.heap.size [.int .u8 x17] 33]) (.int .u8 x17) (by kernel_rfl) (hS50.pick [0, 1] rfl rfl) (fun w hS => ⟨(res_c1 rfl (by kernel_rfl) (by kernel_rfl) (hS.box 0 rfl 0 rfl)), _, rfl, rfl, hS.pick [] rfl rfl⟩)

end Go.Proofs.YtdfgecndbfmgnaaDoor
