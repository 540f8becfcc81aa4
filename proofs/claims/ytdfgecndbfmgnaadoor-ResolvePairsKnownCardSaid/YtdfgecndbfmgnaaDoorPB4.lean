/-
  The program, walked.
-/
import Derived.Test.YtdfgecndbfmgnaaDoorPB3
namespace Go.Proofs.YtdfgecndbfmgnaaDoor
open Go Go.RowKit
set_option linter.unusedVariables false

def pMk (_N : Nat) (_p1 : Int) (_p2 : Int) : Option (Unit) :=
 some ()

def pMk_R (A0 : Option Addr) (n0 : Nat) (c0 : Nat) (p1 : Int) (p2 : Int) (_r : Unit) (w0 : World) (v : Value) (w : World) : Prop := ∃ (g0' g1' g2' : Nat), v = .func (.func 38) #[] #[.pointer (some ⟨g0', 0, none⟩), .pointer (some ⟨g1', 0, none⟩), .pointer (some ⟨g2', 0, none⟩)] ∧ St [] w0 w [boxE g0' [.slice A0 n0 c0] 23, boxE g1' [.int .u8 p1] 33, boxE g2' [.int .u8 p2] 33]

set_option maxRecDepth 100000 in
set_option maxHeartbeats 4000000 in
theorem pMk_ok (N : Nat) (p1 : Int) (p2 : Int) (A0 : Option Addr) (n0 c0 : Nat) (r : Unit) (hF : pMk N p1 p2 = some r) (w0 : World)  :
  Calls Tryd.prog 21 #[.slice A0 n0 c0, .int .u8 p1, .int .u8 p2] w0 fun e w => ∃ v, e = .returned v ∧ pMk_R A0 n0 c0 p1 p2 r w0 v w := by
 have hS0 := St.start w0
 unfold pMk at hF
 refine calls_of Tryd.func21 rfl ⟨((.slice A0 n0 c0) :: (.int .u8 p1) :: (.int .u8 p2) :: un 5 ([])).toArray, []⟩ (by kernel_rfl) ?_
 refine gx_seq (fun K1 hK2 => ?_)
 refine gx_region ?_
 refine gx_r (st_boxed [.slice A0 n0 c0] 23 hS0 (by kernel_rfl)) ?_
 rintro _ w3 ⟨rfl, hS4⟩
 have hS4 : St _ _ w3 [boxE w0.heap.size [.slice A0 n0 c0] 23] := hS4
 refine gx_r (st_boxed [.int .u8 p1] 33 hS4 (by kernel_rfl)) ?_
 rintro _ w5 ⟨rfl, hS6⟩
 have hS6 : St _ _ w5 [boxE w0.heap.size [.slice A0 n0 c0] 23, boxE w3.heap.size [.int .u8 p1] 33] := hS6
 refine gx_r (st_boxed [.int .u8 p2] 33 hS6 (by kernel_rfl)) ?_
 rintro _ w7 ⟨rfl, hS8⟩
 have hS8 : St _ _ w7 [boxE w0.heap.size [.slice A0 n0 c0] 23, boxE w3.heap.size [.int .u8 p1] 33, boxE w5.heap.size [.int .u8 p2] 33] := hS8
 refine gx_k (Value.nilFunc) w7 ?_
 refine gx_nil ?_
 refine gx_thenN ?_
 refine hK2 _ _ ?_
 refine gx_seq (fun K9 hK10 => ?_)
 refine gx_region ?_
 refine gx_k (.func (.func 38) #[] #[.pointer (some ⟨w0.heap.size, 0, none⟩), .pointer (some ⟨w3.heap.size, 0, none⟩), .pointer (some ⟨w5.heap.size, 0, none⟩)]) w7 (gx_k (.func (.func 38) #[] #[.pointer (some ⟨w0.heap.size, 0, none⟩), .pointer (some ⟨w3.heap.size, 0, none⟩), .pointer (some ⟨w5.heap.size, 0, none⟩)]) w7 ?_)
 refine gx_nil ?_
 refine gx_thenN ?_
 refine hK10 _ _ ?_
 refine gx_ret ?_
 obtain rfl := Option.some.inj hF
 exact gx_fin (.func (.func 38) #[] #[.pointer (some ⟨w0.heap.size, 0, none⟩), .pointer (some ⟨w3.heap.size, 0, none⟩), .pointer (some ⟨w5.heap.size, 0, none⟩)]) (by kernel_rfl) (by kernel_rfl) ⟨_, rfl, w0.heap.size, w3.heap.size, w5.heap.size, rfl, hS8⟩

def pCloneS (_N : Nat) (p0 : List Int) : Option (List Int) :=
  ((apx ([]) p0).bind fun l11 => some l11)

def pCloneS_R (r : List Int) (w0 : World) (v : Value) (w : World) : Prop := ∃ (A0' : Option Addr) (c0' : Nat), v = .slice A0' r.length c0' ∧ St [] w0 w [rowE .u8 33 A0' c0' r]

set_option maxRecDepth 100000 in
set_option maxHeartbeats 4000000 in
theorem pCloneS_ok (N : Nat) (p0 : List Int) (a0 : Addr) (c0 : Nat) (r : List Int) (hF : pCloneS N p0 = some r) (w0 : World) (hv0 : Vw [] .u8 w0 (some a0) c0 p0) :
    Calls Tryd.prog 20 #[.slice (some a0) p0.length c0] w0 fun e w => ∃ v, e = .returned v ∧ pCloneS_R r w0 v w := by
  have hS0 := St.start w0
  unfold pCloneS at hF
  refine calls_of Tryd.func20 rfl ⟨((.slice (some a0) p0.length c0) :: un 7 ([])).toArray, []⟩ (by kernel_rfl) ?_
  refine gx_seq (fun K1 hK2 => ?_)
  refine gx_region ?_
  refine gx_val (.slice none 0 0) w0 (by kernel_rfl) (by kernel_rfl) ?_
  refine gx_nil ?_
  refine gx_thenN ?_
  refine hK2 _ _ ?_
  refine gx_seq (fun K3 hK4 => ?_)
  refine gx_seq (fun K5 hK6 => ?_)
  refine gx_region ?_
  refine gx_val (.slice (some a0) p0.length c0) w0 (by kernel_rfl) (by kernel_rfl) ?_
  refine gx_val (.bool false) w0 (by kernel_rfl) (by kernel_rfl) ?_
  refine gx_nil ?_
  refine gx_thenN ?_
  refine hK6 _ _ ?_
  refine gx_no (by kernel_rfl) ?_
  refine gx_pass ?_
  refine gx_thenN ?_
  refine hK4 _ _ ?_
  refine gx_seq (fun K7 hK8 => ?_)
  refine gx_region ?_
  refine gx_R (by kernel_rfl) (st_made .u8 33 [] hS0 (by show 0 ≤ 1000000000; decide) (by kernel_rfl)) ?_
  rintro _ w9 ⟨rfl, hS10⟩
  have hS10 : St _ _ w9 [rowE .u8 33 (some ⟨w0.heap.size, 0, none⟩) 0 ([])] := hS10
  refine gx_val (.slice (some a0) p0.length c0) w9 (by kernel_rfl) (by kernel_rfl) ?_
  obtain ⟨l11, ha12, hF⟩ := bind_in hF
  obtain ⟨ha12, hq13⟩ := apx_in ha12
  refine gx_R (by kernel_rfl) (st_append rfl (by kernel_rfl) (by kernel_rfl) hS10 0 rfl (hS10.view hv0) hv0.nn ha12 (by kernel_rfl) (by kernel_rfl)) ?_
  rintro _ w16 ⟨A14, c15, rfl, hS17⟩
  rw [← hq13] at hS17 ⊢
  have hS17 : St _ _ w16 [rowE .u8 33 A14 c15 l11] := hS17
  refine gx_val (.slice A14 l11.length c15) w16 (by kernel_rfl) (by kernel_rfl) ?_
  refine gx_nil ?_
  refine gx_thenN ?_
  refine hK8 _ _ ?_
  refine gx_ret ?_
  obtain rfl := Option.some.inj hF
  exact gx_fin (.slice A14 l11.length c15) (by kernel_rfl) (by kernel_rfl) ⟨_, rfl, A14, c15, rfl, hS17⟩

def pCloneN (_N : Nat) : Option (List Int) :=
  some ([])

def pCloneN_R (r : List Int) (w0 : World) (v : Value) (w : World) : Prop := ∃ (A0' : Option Addr) (c0' : Nat), v = .slice A0' r.length c0' ∧ St [] w0 w [rowE .u8 33 A0' c0' r]

set_option maxRecDepth 100000 in
set_option maxHeartbeats 4000000 in
theorem pCloneN_ok (N : Nat)  (r : List Int) (hF : pCloneN N = some r) (w0 : World)  :
    Calls Tryd.prog 20 #[.slice none ((([] : List Int)).length) 0] w0 fun e w => ∃ v, e = .returned v ∧ pCloneN_R r w0 v w := by
  have hS0 := St.start w0
  unfold pCloneN at hF
  refine calls_of Tryd.func20 rfl ⟨((.slice none ((([] : List Int)).length) 0) :: un 7 ([])).toArray, []⟩ (by kernel_rfl) ?_
  refine gx_seq (fun K1 hK2 => ?_)
  refine gx_region ?_
  refine gx_val (.slice none 0 0) w0 (by kernel_rfl) (by kernel_rfl) ?_
  refine gx_nil ?_
  refine gx_thenN ?_
  refine hK2 _ _ ?_
  refine gx_seq (fun K3 hK4 => ?_)
  refine gx_seq (fun K5 hK6 => ?_)
  refine gx_region ?_
  refine gx_val (.slice none ((([] : List Int)).length) 0) w0 (by kernel_rfl) (by kernel_rfl) ?_
  refine gx_val (.bool true) w0 (by kernel_rfl) (by kernel_rfl) ?_
  refine gx_nil ?_
  refine gx_thenN ?_
  refine hK6 _ _ ?_
  refine gx_yes (by kernel_rfl) ?_
  refine gx_seq (fun K7 hK8 => ?_)
  refine gx_region ?_
  refine gx_val (.slice none 0 0) w0 (by kernel_rfl) (by kernel_rfl) ?_
  refine gx_nil ?_
  refine gx_thenN ?_
  refine hK8 _ _ ?_
  refine gx_ret ?_
  refine gx_thenR ?_
  have hS9 : St _ _ w0 [rowE .u8 33 none 0 ([])] := hS0.nilrow .u8 33
  obtain rfl := Option.some.inj hF
  exact gx_fin (.slice none (([] : List Int).length) 0) (by kernel_rfl) (by kernel_rfl) ⟨_, rfl, none, 0, rfl, hS9⟩

def pClone (N : Nat) (p0 : List Int) : Option (List Int) := pCloneS N p0
def pClone_R (r : List Int) (w0 : World) (v : Value) (w : World) : Prop := pCloneS_R r w0 v w
theorem pClone_ok (N : Nat) (p0 : List Int) (A0 : Option Addr) (c0 : Nat) (r : List Int) (hF : pClone N p0 = some r) (w0 : World) (hv0 : Vw [] .u8 w0 A0 c0 p0) :
    Calls Tryd.prog 20 #[.slice A0 p0.length c0] w0 fun e w => ∃ v, e = .returned v ∧ pClone_R r w0 v w := by
  cases A0 with
  | some a => exact pCloneS_ok N p0 a c0 r hF w0 hv0
  | none =>
    obtain rfl : p0 = [] := List.length_eq_zero_iff.1 (num_nil hv0.num rfl)
    obtain rfl := hv0.nn rfl
    have hr : r = [] := (Option.some.inj hF).symm
    subst hr
    exact pCloneN_ok N [] rfl w0

def pPairs_L1 (N : Nat) (p1 : List Int) (x41 : Int) (x47 : Int) (l72 : List (Int × Int)) : Nat → (List Int) → Int → Option (List Int)
 | 0, _, _ => none
 | k95+1, l93, x94 => (if x94 < ((l72.length : Nat) : Int) then ((ixg l72 x94).bind fun x106 => ((pBec N x106.1 x106.2 l93 x41 x47).bind fun x129 => (if x129 ≠ 0 then ((pTurn N l93 p1 x106.1 x129).bind fun l137 => ((pTurn N l137 p1 x106.2 x129).bind fun l144 => pPairs_L1 N p1 x41 x47 l72 k95 l144 (IntKind.i64.wrap (x94 + 1)))) else pPairs_L1 N p1 x41 x47 l72 k95 l93 (IntKind.i64.wrap (x94 + 1))))) else some (l93))
def pPairs (N : Nat) (p0 : List Int) (p1 : List Int) (p2 : List Int) (p3 : Int) (p4 : Int) : Option (List Int × Int) :=
 (if ((p0.length : Nat) : Int) > 65536 then some ([], 3) else (((if ((p1.length : Nat) : Int) ≠ ((p0.length : Nat) : Int) then some (Ctl.ret ([], 2)) else (if ((p2.length : Nat) : Int) ≠ ((p0.length : Nat) : Int) then some (Ctl.ret ([], 2)) else some (Ctl.go ()))) : Option (Ctl (Unit) (List Int × Int))).bind fun | Ctl.go () => ((pClone N p2).bind fun l33 => ((pSideOf N p3).bind fun x41 => ((pEdge N p4).bind fun x47 => ((((pPrs N p0 p2).bind fun l72 => pPairs_L1 N p1 x41 x47 l72 N l33 0) : Option (List Int)).bind fun l64 => some (l64, 0))))) | Ctl.ret r => some r))

set_option linter.unusedVariables false in
def pPairs_R (r : List Int × Int) (w0 : World) (v : Value) (w : World) : Prop := ∃ (A0' : Option Addr) (c0' : Nat), v = .tuple #[.slice A0' r.1.length c0', .int .i64 r.2] ∧ St [] w0 w [rowE .u8 33 A0' c0' r.1]

set_option maxRecDepth 100000 in
set_option maxHeartbeats 4000000 in
theorem pPairs_ok (N : Nat) (p0 : List Int) (p1 : List Int) (p2 : List Int) (p3 : Int) (p4 : Int) (A0 : Option Addr) (c0 : Nat) (A1 : Option Addr) (c1 : Nat) (A2 : Option Addr) (c2 : Nat) (r : List Int × Int) (hF : pPairs N p0 p1 p2 p3 p4 = some r) (w0 : World) (hv0 : Vw [] .i32 w0 A0 c0 p0) (hv1 : Vw [] .u8 w0 A1 c1 p1) (hv2 : Vw [] .u8 w0 A2 c2 p2) (hcd : MirW w0) :
  Calls Tryd.prog 12 #[.slice A0 p0.length c0, .slice A1 p1.length c1, .slice A2 p2.length c2, .int .u8 p3, .int .u8 p4] w0 fun e w => ∃ v, e = .returned v ∧ pPairs_R r w0 v w := by
 have hS0 := (St.start w0).pool0
 unfold pPairs at hF
 refine calls_of Tryd.func12 rfl ⟨((.slice A0 p0.length c0) :: (.slice A1 p1.length c1) :: (.slice A2 p2.length c2) :: (.int .u8 p3) :: (.int .u8 p4) :: un 62 ([])).toArray, []⟩ (by kernel_rfl) ?_
 refine gx_seq (fun K1 hK2 => ?_)
 refine gx_region ?_
 refine gx_k (.slice none 0 0) w0 (gx_k (.int .i64 0) w0 ?_)
 refine gx_nil ?_
 refine gx_thenN ?_
 refine hK2 _ _ ?_
 refine gx_seq (fun K3 hK4 => ?_)
 refine gx_seq (fun K5 hK6 => ?_)
 refine gx_region ?_
 refine gx_k (.slice A0 p0.length c0) w0 (gx_k (.int .i64 ((p0.length : Nat) : Int)) w0 ?_)
 rcases if_in hF with ⟨h7, hF⟩ | ⟨h7, hF⟩
 ·refine gx_v (.bool true) w0 (run_boolE (decide_eq_true h7) (by kernel_rfl)) ?_
  refine gx_nil ?_
  refine gx_thenN ?_
  refine hK6 _ _ ?_
  refine gx_yes (by kernel_rfl) ?_
  refine gx_seq (fun K8 hK9 => ?_)
  refine gx_region ?_
  refine gx_k (.slice none 0 0) w0 (gx_k (.int .i64 3) w0 ?_)
  refine gx_nil ?_
  refine gx_thenN ?_
  refine hK9 _ _ ?_
  refine gx_ret ?_
  refine gx_thenR ?_
  have hS10 : St _ _ w0 [poolE ([]) w0, rowE .u8 33 none 0 ([])] := hS0.nilrow .u8 33
  obtain rfl := Option.some.inj hF
  exact gx_fin (.tuple #[.slice none (([] : List Int).length) 0, .int .i64 3]) (by kernel_rfl) (by kernel_rfl) ⟨_, rfl, none, 0, rfl, (hS10.pick [1] rfl rfl)⟩
 ·refine gx_v (.bool false) w0 (run_boolE (decide_eq_false h7) (by kernel_rfl)) ?_
  refine gx_nil ?_
  refine gx_thenN ?_
  refine hK6 _ _ ?_
  refine gx_no (by kernel_rfl) ?_
  refine gx_pass ?_
  refine gx_thenN ?_
  refine hK4 _ _ ?_
  obtain ⟨c14, hE15, hO16⟩ := bind_in hF
  refine gx_cut (fun a w => selfA (fun u13 => ⟨((.slice A0 p0.length c0) :: (.slice A1 p1.length c1) :: (.slice A2 p2.length c2) :: (.int .u8 p3) :: (.int .u8 p4) :: un 5 (dd u13 10 2 (un 5 ((u13 17) :: (.int .i64 ((p0.length : Nat) : Int)) :: (.bool false) :: dd u13 20 12 (un 35 ([])))))).toArray, []⟩) a ∧ Ctl.go () = c14 ∧ St [] w0 w [poolE ([]) w0]) ?_ ?_
  ·refine gx_seq (fun K17 hK18 => ?_)
   refine gx_region ?_
   refine gx_k (.slice A1 p1.length c1) w0 (gx_k (.int .i64 ((p1.length : Nat) : Int)) w0 (gx_k (.slice A0 p0.length c0) w0 (gx_k (.int .i64 ((p0.length : Nat) : Int)) w0 ?_)))
   rcases if_in hE15 with ⟨h19, hE15⟩ | ⟨h19, hE15⟩
   ·refine gx_v (.bool true) w0 (run_boolE (ne_yes h19) (by kernel_rfl)) ?_
    refine gx_k (.bool true) w0 (gx_o (gx_o (gx_o (gx_o (gx_o (gx_k (.bool true) w0 ?_))))))
    refine gx_nil ?_
    refine gx_thenN ?_
    refine hK18 _ _ ?_
    refine gx_yes (by kernel_rfl) ?_
    refine gx_seq (fun K20 hK21 => ?_)
    refine gx_region ?_
    refine gx_k (.slice none 0 0) w0 (gx_k (.int .i64 2) w0 ?_)
    refine gx_nil ?_
    refine gx_thenN ?_
    refine hK21 _ _ ?_
    refine gx_ret ?_
    refine gx_thenR ?_
    obtain rfl := Option.some.inj hE15
    try dsimp only at hO16
    have hS22 : St _ _ w0 [poolE ([]) w0, rowE .u8 33 none 0 ([])] := hS0.nilrow .u8 33
    obtain rfl := Option.some.inj hO16
    exact gx_fin (.tuple #[.slice none (([] : List Int).length) 0, .int .i64 2]) (by kernel_rfl) (by kernel_rfl) ⟨_, rfl, none, 0, rfl, (hS22.pick [1] rfl rfl)⟩
   ·refine gx_v (.bool false) w0 (run_boolE (ne_no h19) (by kernel_rfl)) ?_
    refine gx_k (.bool false) w0 (gx_k (.slice A2 p2.length c2) w0 (gx_k (.int .i64 ((p2.length : Nat) : Int)) w0 (gx_k (.slice A0 p0.length c0) w0 (gx_k (.int .i64 ((p0.length : Nat) : Int)) w0 ?_))))
    rcases if_in hE15 with ⟨h23, hE15⟩ | ⟨h23, hE15⟩
    ·refine gx_v (.bool true) w0 (run_boolE (ne_yes h23) (by kernel_rfl)) ?_
     refine gx_k (.bool true) w0 ?_
     refine gx_nil ?_
     refine gx_thenN ?_
     refine hK18 _ _ ?_
     refine gx_yes (by kernel_rfl) ?_
     refine gx_seq (fun K24 hK25 => ?_)
     refine gx_region ?_
     refine gx_k (.slice none 0 0) w0 (gx_k (.int .i64 2) w0 ?_)
     refine gx_nil ?_
     refine gx_thenN ?_
     refine hK25 _ _ ?_
     refine gx_ret ?_
     refine gx_thenR ?_
     obtain rfl := Option.some.inj hE15
     try dsimp only at hO16
     have hS26 : St _ _ w0 [poolE ([]) w0, rowE .u8 33 none 0 ([])] := hS0.nilrow .u8 33
     obtain rfl := Option.some.inj hO16
     exact gx_fin (.tuple #[.slice none (([] : List Int).length) 0, .int .i64 2]) (by kernel_rfl) (by kernel_rfl) ⟨_, rfl, none, 0, rfl, (hS26.pick [1] rfl rfl)⟩
    ·refine gx_v (.bool false) w0 (run_boolE (ne_no h23) (by kernel_rfl)) ?_
     refine gx_k (.bool false) w0 ?_
     refine gx_nil ?_
     refine gx_thenN ?_
     refine hK18 _ _ ?_
     refine gx_no (by kernel_rfl) ?_
     refine gx_pass ?_
     refine gx_thenN ?_
     exact ⟨selfA_i (by kernel_rfl), (Option.some.inj hE15), hS0⟩
  ·rintro _ w11 ⟨hq155, rfl, hS12⟩
   obtain ⟨u13, rfl⟩ := selfA_u hq155
   try dsimp only at hO16
   refine gx_seq (fun K27 hK28 => ?_)
   refine gx_region ?_
   refine gx_k (.slice A2 p2.length c2) w11 ?_
   obtain ⟨l33, hc30, hO16⟩ := bind_in hO16
   try dsimp only at hO16
   refine gx_c (pClone_R  l33 w11) (pClone_ok N p2 A2 c2 _ hc30 w11 (Vw.of (hS12.view hv2) hv2.nn)) ?_
   rintro _ w31 ⟨A34, c35, rfl, hT36⟩
   have hS32 : St _ _ w31 [poolE ([]) w0, rowE .u8 33 A34 c35 l33] := hS12.take _ hT36
   refine gx_k (.slice A34 l33.length c35) w31 ?_
   refine gx_nil ?_
   refine gx_thenN ?_
   refine hK28 _ _ ?_
   refine gx_seq (fun K37 hK38 => ?_)
   refine gx_region ?_
   refine gx_k (.slice A34 l33.length c35) w31 (gx_k (.int .u8 p3) w31 ?_)
   have hP39 : St _ _ w31 ([] ++ [poolE ([]) w0, rowE .u8 33 A34 c35 l33]) := hS32
   obtain ⟨x41, hc40, hO16⟩ := bind_in hO16
   try dsimp only at hO16
   refine gx_c (pSideOf_R x41 w31) (pSideOf_ok N p3 _ hc40 w31 ) ?_
   rintro _ w42 ⟨rfl, hT44⟩
   have hS43 : St _ _ w42 [poolE ([]) w0, rowE .u8 33 A34 c35 l33] := hS32.take _ hT44
   refine gx_k (.int .u8 p4) w42 ?_
   have hP45 : St _ _ w42 ([] ++ [poolE ([]) w0, rowE .u8 33 A34 c35 l33]) := hS43
   obtain ⟨x47, hc46, hO16⟩ := bind_in hO16
   try dsimp only at hO16
   refine gx_c (pEdge_R x47 w42) (pEdge_ok N p4 _ hc46 w42 ) ?_
   rintro _ w48 ⟨rfl, hT50⟩
   have hS49 : St _ _ w48 [poolE ([]) w0, rowE .u8 33 A34 c35 l33] := hS43.take _ hT50
   refine gx_c (pMk_R A34 l33.length c35 x41 x47 () w48) (pMk_ok N x41 x47 A34 l33.length c35 _ rfl w48) ?_
   rintro _ w54 ⟨g51, g52, g53, rfl, hT56⟩
   have hS55 : St _ _ w54 [poolE ([]) w0, rowE .u8 33 A34 c35 l33, boxE g51 [.slice A34 l33.length c35] 23, boxE g52 [.int .u8 x41] 33, boxE g53 [.int .u8 x47] 33] := hS49.take _ hT56
   refine gx_k (.func (.func 38) #[] #[.pointer (some ⟨g51, 0, none⟩), .pointer (some ⟨g52, 0, none⟩), .pointer (some ⟨g53, 0, none⟩)]) w54 ?_
   refine gx_nil ?_
   refine gx_thenN ?_
   refine hK38 _ _ ?_
   obtain ⟨c65, hE66, hO67⟩ := bind_in hO16
   refine gx_cut (fun a w => ∃ (l64 : List Int) (ft60 : List Nat) (W61 : World), selfA (fun u59 => ⟨(dd u59 0 3 ((.int .u8 p3) :: (.int .u8 p4) :: un 5 (dd u13 10 2 ((.slice A34 l33.length c35) :: (.func (.func 38) #[] #[.pointer (some ⟨g51, 0, none⟩), .pointer (some ⟨g52, 0, none⟩), .pointer (some ⟨g53, 0, none⟩)]) :: undef :: dd u59 15 2 ((u13 17) :: (.int .i64 ((p0.length : Nat) : Int)) :: (.bool false) :: dd u13 20 12 (dd u59 32 3 ((.int .u8 p3) :: (.int .u8 x41) :: (.int .u8 p4) :: (.int .u8 x47) :: (.func (.func 38) #[] #[.pointer (some ⟨g51, 0, none⟩), .pointer (some ⟨g52, 0, none⟩), .pointer (some ⟨g53, 0, none⟩)]) :: dd u59 40 26 (undef :: [])))))))).toArray, []⟩) a ∧ l64 = c65 ∧ St [] w0 w [poolE ft60 W61, rowE .u8 33 A34 c35 l64] ∧ Turn [] w0 w0 ([]) W61 ft60 ∧ l33.length = l64.length) ?_ ?_
   ·refine gx_seq (fun K68 hK69 => ?_)
    refine gx_region ?_
    refine gx_k (.slice A0 p0.length c0) w54 (gx_k (.slice A2 p2.length c2) w54 ?_)
    have hP70 : St _ _ w54 ([] ++ [poolE ([]) w0, rowE .u8 33 A34 c35 l33, boxE g51 [.slice A34 l33.length c35] 23, boxE g52 [.int .u8 x41] 33, boxE g53 [.int .u8 x47] 33]) := hS55
    obtain ⟨l72, hc71, hE66⟩ := bind_in hE66
    try dsimp only at hE66
    refine gx_c (pPrs_R l72 w54) (pPrs_ok N p0 p2 A0 c0 A2 c2 _ hc71 w54 (hP70.vwA hv0) (hP70.vwA hv2) (MirW.at hcd hS55.below)) ?_
    rintro _ w78 ⟨A73, c74, vs75, ft77, rfl, hT80, hf76⟩
    have hS79 : St _ _ w78 [poolE ([]) w0, rowE .u8 33 A34 c35 l33, boxE g51 [.slice A34 l33.length c35] 23, boxE g52 [.int .u8 x41] 33, boxE g53 [.int .u8 x47] 33, rowG 30 2 (.slice A73 l72.length c74) l72.length vs75, poolE ft77 w78] := hS55.take _ hT80
    obtain ⟨ft81, W82, hS83, hT84, hU85⟩ := hS79.merge 6 0 rfl rfl (by decide)
    have hS83 : St _ _ w78 [poolE ft81 W82, rowE .u8 33 A34 c35 l33, boxE g51 [.slice A34 l33.length c35] 23, boxE g52 [.int .u8 x41] 33, boxE g53 [.int .u8 x47] 33, rowG 30 2 (.slice A73 l72.length c74) l72.length vs75] := hS83
    have hT84 : Turn [] w0 w0 ([]) W82 ft81 := hT84
    have hf88 : (fEach (pairE (intE .i64) (intE .i64)) vs75 l72).rd W82 ft81 := hU85 _ hf76
    refine gx_k (.int .i64 ((l72.length : Nat) : Int)) w78 (gx_k (.int .i64 0) w78 ?_)
    refine gx_nil ?_
    refine gx_thenN ?_
    refine hK69 _ _ ?_
    refine gx_block ?_
    refine gx_loop (fun k a w => ∃ (l93 : List Int) (x94 : Int), selfA (fun u91 => ⟨((u91 0) :: (.slice A1 p1.length c1) :: (u91 2) :: (.int .u8 p3) :: (.int .u8 p4) :: un 5 (dd u13 10 2 ((.slice A34 l33.length c35) :: (.func (.func 38) #[] #[.pointer (some ⟨g51, 0, none⟩), .pointer (some ⟨g52, 0, none⟩), .pointer (some ⟨g53, 0, none⟩)]) :: undef :: dd u91 15 2 ((u13 17) :: (.int .i64 ((p0.length : Nat) : Int)) :: (.bool false) :: dd u13 20 12 (dd u91 32 3 ((.int .u8 p3) :: (.int .u8 x41) :: (.int .u8 p4) :: (.int .u8 x47) :: (.func (.func 38) #[] #[.pointer (some ⟨g51, 0, none⟩), .pointer (some ⟨g52, 0, none⟩), .pointer (some ⟨g53, 0, none⟩)]) :: dd u91 40 2 ((.slice A73 l72.length c74) :: (.int .i64 ((l72.length : Nat) : Int)) :: (.int .i64 x94) :: dd u91 45 21 (undef :: [])))))))).toArray, []⟩) a ∧ pPairs_L1 N p1 x41 x47 l72 k l93 x94 = some c65 ∧ St [] w0 w [poolE ft81 W82, rowE .u8 33 A34 c35 l93, rowG 30 2 (.slice A73 l72.length c74) l72.length vs75, boxE g51 [.slice A34 l33.length c35] 23, boxE g52 [.int .u8 x41] 33, boxE g53 [.int .u8 x47] 33] ∧ l33.length = l93.length) N ?_ ?_
    ·exact ⟨l33, 0, selfA_i (by kernel_rfl), hE66, (hS83.pick [0, 1, 5, 2, 3, 4] rfl rfl), rfl⟩
    ·rintro k95 _ w89 ⟨l93, x94, hq151, hL96, hS90, hn92⟩
     obtain ⟨u91, rfl⟩ := selfA_u hq151
     cases k95 with
     | zero => cases hL96
     | succ k95 =>
      first | rw [pPairs_L1] at hL96 | unfold pPairs_L1 at hL96
      refine gx_seq (fun K97 hK98 => ?_)
      refine gx_region ?_
      rcases if_in hL96 with ⟨h99, hL96⟩ | ⟨h99, hL96⟩
      ·refine gx_v (.bool true) w89 (run_boolE (decide_eq_true h99) (by kernel_rfl)) ?_
       refine gx_nil ?_
       refine gx_thenN ?_
       refine hK98 _ _ ?_
       refine gx_seq (fun K100 hK101 => ?_)
       refine gx_yes (by kernel_rfl) ?_
       refine gx_pass ?_
       refine gx_thenN ?_
       refine hK101 _ _ ?_
       refine gx_seq (fun K102 hK103 => ?_)
       refine gx_block ?_
       refine gx_seq (fun K104 hK105 => ?_)
       refine gx_region ?_
       obtain ⟨x106, hx107, hL96⟩ := bind_in hL96
       obtain ⟨g108, o109, e110, hA111, he112, h113, ha114⟩ := elem_at (e := (pairE (intE .i64) (intE .i64))) (rowG_lies (e := (pairE (intE .i64) (intE .i64))) rfl (hS90.get 2 rfl)) hf88 hx107 (by decide)
       obtain ⟨e115, e116, rfl, h117, h118⟩ := h113
       obtain rfl := h117
       obtain rfl := h118
       have ha114 : ∀ w', Lies w' A73 vs75 → w'.rangeAt g108 o109 [.int .i64 x106.1, .int .i64 x106.2] := ha114
       refine gx_v (.pointer (some ⟨g108, o109, none⟩)) w89 (run_ixaddrN (E := 30) (s := 2) (k := .i64) (c := c74) rfl (by kernel_rfl) (by kernel_rfl) (by kernel_rfl) (fun _ => by kernel_rfl) (ixg_in hx107).1 (ixg_in hx107).2.1 hA111) ?_
       refine gx_v (.agg #[.int .i64 x106.1, .int .i64 x106.2]) w89 (run_loadNG (d := _) (ec := [.int .i64 x106.1, .int .i64 x106.2]) rfl (by kernel_rfl) (ha114 _ (rowG_lies (e := (pairE (intE .i64) (intE .i64))) rfl (hS90.get 2 rfl))) rfl rfl (by kernel_rfl)) ?_
       refine gx_r (st_boxed [.int .i64 0, .int .i64 0] 30 hS90 (by kernel_rfl)) ?_
       rintro _ w119 ⟨rfl, hS120⟩
       have hS120 : St _ _ w119 [poolE ft81 W82, rowE .u8 33 A34 c35 l93, rowG 30 2 (.slice A73 l72.length c74) l72.length vs75, boxE g51 [.slice A34 l33.length c35] 23, boxE g52 [.int .u8 x41] 33, boxE g53 [.int .u8 x47] 33, boxE w89.heap.size [.int .i64 0, .int .i64 0] 30] := hS120
       refine gx_s (st_storeG (cs := [.int .i64 0, .int .i64 0]) (ds := [.int .i64 x106.1, .int .i64 x106.2]) rfl (by kernel_rfl) (by kernel_rfl) (by kernel_rfl) rfl rfl hS120 6 rfl) ?_
       rintro w121 hS122
       have hS122 : St _ _ w121 [poolE ft81 W82, rowE .u8 33 A34 c35 l93, rowG 30 2 (.slice A73 l72.length c74) l72.length vs75, boxE g51 [.slice A34 l33.length c35] 23, boxE g52 [.int .u8 x41] 33, boxE g53 [.int .u8 x47] 33, boxE w89.heap.size [.int .i64 x106.1, .int .i64 x106.2] 30] := hS122
       refine gx_nil ?_
       refine gx_thenN ?_
       refine hK105 _ _ ?_
       refine gx_seq (fun K123 hK124 => ?_)
       refine gx_region ?_
       refine gx_k (.func (.func 38) #[] #[.pointer (some ⟨g51, 0, none⟩), .pointer (some ⟨g52, 0, none⟩), .pointer (some ⟨g53, 0, none⟩)]) w121 ?_
       refine gx_v (.agg #[.int .i64 x106.1, .int .i64 x106.2]) w121 (run_loadG (d := _) rfl (by kernel_rfl) (hS122.get 6 rfl) rfl rfl (by kernel_rfl)) ?_
       obtain ⟨x129, hc125, hL96⟩ := bind_in hL96
       try dsimp only at hL96
       refine gx_c (pBec_R x129 w121) (pBec_ok N x106.1 x106.2 l93 x41 x47 g51 A34 c35 g52 g53 _ hc125 w121 (hS122.row 1 rfl).2 ⟨(by rw [← hn92]; exact (hS122.get 3 rfl)), (hS122.row 1 rfl).1, hS122.get 4 rfl, hS122.get 5 rfl⟩) ?_
       rintro _ w126 ⟨rfl, hT128⟩
       have hS127 : St _ _ w126 [poolE ft81 W82, rowE .u8 33 A34 c35 l93, rowG 30 2 (.slice A73 l72.length c74) l72.length vs75, boxE g51 [.slice A34 l33.length c35] 23, boxE g52 [.int .u8 x41] 33, boxE g53 [.int .u8 x47] 33, boxE w89.heap.size [.int .i64 x106.1, .int .i64 x106.2] 30] := hS122.take _ hT128
       refine gx_k (.int .u8 x129) w126 ?_
       refine gx_nil ?_
       refine gx_thenN ?_
       refine hK124 _ _ ?_
       refine gx_seq (fun K130 hK131 => ?_)
       refine gx_region ?_
       refine gx_k (.int .u8 x129) w126 ?_
       rcases if_in hL96 with ⟨h132, hL96⟩ | ⟨h132, hL96⟩
       ·refine gx_v (.bool true) w126 (run_boolE (ne_yes h132) (by kernel_rfl)) ?_
        refine gx_nil ?_
        refine gx_thenN ?_
        refine hK131 _ _ ?_
        refine gx_yes (by kernel_rfl) ?_
        refine gx_seq (fun K133 hK134 => ?_)
        refine gx_region ?_
        refine gx_k (.slice A34 l33.length c35) w126 (gx_k (.slice A1 p1.length c1) w126 (gx_k (.pointer (some ⟨w89.heap.size, 0, none⟩)) w126 ?_))
        refine gx_v (.int .i64 x106.1) w126 (run_load1 rfl (by kernel_rfl) (fun _ => by kernel_rfl) (hS127.box 6 rfl 0 rfl)) ?_
        refine gx_k (.int .u8 x129) w126 ?_
        have hP135 : St _ _ w126 ([rowE .u8 33 A34 c35 l93] ++ [poolE ft81 W82, rowG 30 2 (.slice A73 l72.length c74) l72.length vs75, boxE g51 [.slice A34 l33.length c35] 23, boxE g52 [.int .u8 x41] 33, boxE g53 [.int .u8 x47] 33, boxE w89.heap.size [.int .i64 x106.1, .int .i64 x106.2] 30]) := hS127.pick [1, 0, 2, 3, 4, 5, 6] rfl rfl
        obtain ⟨l137, hc136, hL96⟩ := bind_in hL96
        try dsimp only at hL96
        refine gx_call (pTurn_R l93 p1 x106.1 x129 A34 c35 A1 c1 l137 w126) (by kernel_rfl) (by rw [← hn92] <;> kernel_rfl) (pTurn_ok N l93 p1 x106.1 x129 A34 c35 A1 c1 _ hc136 w126 (hP135.vwA hv1) hP135.part) ?_
        rintro _ w139 ⟨rfl, hT141, hl138⟩
        have hS140 : St _ _ w139 [poolE ft81 W82, rowG 30 2 (.slice A73 l72.length c74) l72.length vs75, boxE g51 [.slice A34 l33.length c35] 23, boxE g52 [.int .u8 x41] 33, boxE g53 [.int .u8 x47] 33, boxE w89.heap.size [.int .i64 x106.1, .int .i64 x106.2] 30, rowE .u8 33 A34 c35 l137] := hP135.lendN _ hT141
        refine gx_nil ?_
        refine gx_thenN ?_
        refine hK134 _ _ ?_
        refine gx_region ?_
        refine gx_k (.slice A34 l33.length c35) w139 (gx_k (.slice A1 p1.length c1) w139 (gx_k (.pointer (some ⟨w89.heap.size, 1, none⟩)) w139 ?_))
        refine gx_v (.int .i64 x106.2) w139 (run_load1 rfl (by kernel_rfl) (fun _ => by kernel_rfl) (hS140.box 5 rfl 1 rfl)) ?_
        refine gx_k (.int .u8 x129) w139 ?_
        have hP142 : St _ _ w139 ([rowE .u8 33 A34 c35 l137] ++ [poolE ft81 W82, rowG 30 2 (.slice A73 l72.length c74) l72.length vs75, boxE g51 [.slice A34 l33.length c35] 23, boxE g52 [.int .u8 x41] 33, boxE g53 [.int .u8 x47] 33, boxE w89.heap.size [.int .i64 x106.1, .int .i64 x106.2] 30]) := hS140.pick [6, 0, 1, 2, 3, 4, 5] rfl rfl
        obtain ⟨l144, hc143, hL96⟩ := bind_in hL96
        try dsimp only at hL96
        refine gx_call (pTurn_R l137 p1 x106.2 x129 A34 c35 A1 c1 l144 w139) (by kernel_rfl) (by rw [← (hn92.trans hl138.symm)] <;> kernel_rfl) (pTurn_ok N l137 p1 x106.2 x129 A34 c35 A1 c1 _ hc143 w139 (hP142.vwA hv1) hP142.part) ?_
        rintro _ w146 ⟨rfl, hT148, hl145⟩
        have hS147 : St _ _ w146 [poolE ft81 W82, rowG 30 2 (.slice A73 l72.length c74) l72.length vs75, boxE g51 [.slice A34 l33.length c35] 23, boxE g52 [.int .u8 x41] 33, boxE g53 [.int .u8 x47] 33, boxE w89.heap.size [.int .i64 x106.1, .int .i64 x106.2] 30, rowE .u8 33 A34 c35 l144] := hP142.lendN _ hT148
        refine gx_nil ?_
        refine gx_blkN ?_
        refine gx_thenN ?_
        refine hK103 _ _ ?_
        refine gx_region ?_
        refine gx_k (.int .i64 (IntKind.i64.wrap (x94 + 1))) w146 (gx_k (.int .i64 (IntKind.i64.wrap (x94 + 1))) w146 ?_)
        refine gx_nil ?_
        refine gx_thenN ?_
        exact ⟨k95, Nat.lt_succ_self k95, l144, (IntKind.i64.wrap (x94 + 1)), selfA_i (by kernel_rfl), hL96, (hS147.pick [0, 6, 1, 2, 3, 4] rfl rfl), ((hn92.trans hl138.symm).trans hl145.symm)⟩
       ·refine gx_v (.bool false) w126 (run_boolE (ne_no h132) (by kernel_rfl)) ?_
        refine gx_nil ?_
        refine gx_thenN ?_
        refine hK131 _ _ ?_
        refine gx_no (by kernel_rfl) ?_
        refine gx_pass ?_
        refine gx_blkN ?_
        refine gx_thenN ?_
        refine hK103 _ _ ?_
        refine gx_region ?_
        refine gx_k (.int .i64 (IntKind.i64.wrap (x94 + 1))) w126 (gx_k (.int .i64 (IntKind.i64.wrap (x94 + 1))) w126 ?_)
        refine gx_nil ?_
        refine gx_thenN ?_
        exact ⟨k95, Nat.lt_succ_self k95, l93, (IntKind.i64.wrap (x94 + 1)), selfA_i (by kernel_rfl), hL96, (hS127.pick [0, 1, 2, 3, 4, 5] rfl rfl), hn92⟩
      ·refine gx_v (.bool false) w89 (run_boolE (decide_eq_false h99) (by kernel_rfl)) ?_
       refine gx_nil ?_
       refine gx_thenN ?_
       refine hK98 _ _ ?_
       refine gx_seq (fun K149 hK150 => ?_)
       refine gx_no (by kernel_rfl) ?_
       refine gx_exit ?_
       refine gx_thenE ?_
       refine gx_thenE ?_
       refine gx_blkE ?_
       refine gx_thenN ?_
       exact ⟨l93, ft81, W82, selfA_i (by kernel_rfl), (Option.some.inj hL96), (hS90.pick [0, 1] rfl rfl), hT84, hn92⟩
   ·rintro _ w57 ⟨l64, ft60, W61, hq154, rfl, hS58, hT62, hn63⟩
    obtain ⟨u59, rfl⟩ := selfA_u hq154
    try dsimp only at hO67
    refine gx_seq (fun K152 hK153 => ?_)
    refine gx_region ?_
    refine gx_k (.slice A34 l33.length c35) w57 (gx_k (.slice A34 l33.length c35) w57 (gx_k (.int .i64 0) w57 ?_))
    refine gx_nil ?_
    refine gx_thenN ?_
    refine hK153 _ _ ?_
    refine gx_ret ?_
    obtain rfl := Option.some.inj hO67
    exact gx_fin (.tuple #[.slice A34 l33.length c35, .int .i64 0]) (by kernel_rfl) (by kernel_rfl) ⟨_, rfl, A34, c35, by rw [← hn63] <;> kernel_rfl, (hS58.pick [1] rfl rfl)⟩

end Go.Proofs.YtdfgecndbfmgnaaDoor
