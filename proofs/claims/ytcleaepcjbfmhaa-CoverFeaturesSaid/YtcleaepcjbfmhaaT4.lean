/-
 Iterators, and who ranges over them.
-/
import Derived.Test.YtcleaepcjbfmhaaT3
import Derived.Test.YtcleaepcjbfmhaaRf
namespace Go.Proofs.Ytcleaepcjbfmhaa
open Go Go.RowKit

def cListed (_N : Nat) : Option (Unit) :=
 some ()

def cListed_R (A0 : Option Addr) (n0 : Nat) (c0 : Nat) (_r : Unit) (w0 : World) (v : Value) (w : World) : Prop := ∃ (g0' : Nat), v = .func (.func 43) #[] #[.pointer (some ⟨g0', 0, none⟩)] ∧ St [] w0 w [boxE g0' [.slice A0 n0 c0] 38]

set_option maxRecDepth 100000 in
set_option maxHeartbeats 4000000 in
theorem cListed_ok (N : Nat) (A0 : Option Addr) (n0 c0 : Nat) (r : Unit) (hF : cListed N = some r) (w0 : World)  :
  Calls Try.prog 34 #[.slice A0 n0 c0] w0 fun e w => ∃ v, e = .returned v ∧ cListed_R A0 n0 c0 r w0 v w := by
 have hS0 := St.start w0
 unfold cListed at hF
 refine calls_of Try.func34 rfl ⟨((.slice A0 n0 c0) :: undef :: undef :: undef :: []).toArray, []⟩ (by kernel_rfl) ?_
 refine gx_seq (fun K1 hK2 => ?_)
 refine gx_region ?_
 refine gx_r (st_boxed [.slice A0 n0 c0] 38 hS0 (by kernel_rfl)) ?_
 rintro _ w3 ⟨rfl, hS4⟩
 have hS4 : St _ _ w3 [boxE w0.heap.size [.slice A0 n0 c0] 38] := hS4
 refine gx_k (Value.nilFunc) w3 ?_
 refine gx_nil ?_
 refine gx_thenN ?_
 refine hK2 _ _ ?_
 refine gx_seq (fun K5 hK6 => ?_)
 refine gx_region ?_
 refine gx_k (.func (.func 43) #[] #[.pointer (some ⟨w0.heap.size, 0, none⟩)]) w3 (gx_k (.func (.func 43) #[] #[.pointer (some ⟨w0.heap.size, 0, none⟩)]) w3 ?_)
 refine gx_nil ?_
 refine gx_thenN ?_
 refine hK6 _ _ ?_
 refine gx_ret ?_
 obtain rfl := Option.some.inj hF
 exact gx_fin (.func (.func 43) #[] #[.pointer (some ⟨w0.heap.size, 0, none⟩)]) (by kernel_rfl) (by kernel_rfl) ⟨_, rfl, w0.heap.size, rfl, hS4⟩

def enccoverinterval (x : Int × Int × Int) : Array Value := #[.agg #[.int .i64 x.1, .int .i64 x.2.1, .int .i64 x.2.2]]

def cListed1_L1 (N : Nat) (p1 : List Int) : Nat → Int → Option (List (Int × Int × Int))
 | 0, _ => none
 | k11+1, x6 => (if x6 < ((p1.length : Nat) : Int) then ((ix p1 x6).bind fun x22 => (Option.map (fun is => ((IntKind.i64.wrap x22), (IntKind.i64.wrap x22), x6) :: is) (cListed1_L1 N p1 k11 (IntKind.i64.wrap (x6 + 1))))) else some [])
def cListed1 (N : Nat) (p1 : List Int) : Option (List (Int × Int × Int)) :=
 cListed1_L1 N p1 N 0

def cListed1_kp (g1 : Nat) (A1 : Option Addr) (c1 : Nat) (p1 : List Int) (W : World) : Prop := W.heap[g1]? = some (.cells [.slice A1 p1.length c1].toArray 38 (0, 0)) ∧ NumZ .u16 W (.slice A1 p1.length c1) p1

theorem cListed1_kp_ab {g1 : Nat} {A1 : Option Addr} {c1 : Nat} {p1 : List Int} {W W' : World} (hk : cListed1_kp g1 A1 c1 p1 W) (hb : Below W.heap.size W W') : cListed1_kp g1 A1 c1 p1 W' := ⟨(hb.block _ (own_row_lt hk.1)).trans hk.1, hk.2.below hb⟩

set_option maxRecDepth 100000 in
set_option maxHeartbeats 4000000 in
theorem cListed1_iter (N : Nat) (p1 : List Int) (items : List (Int × Int × Int)) (hF : cListed1 N p1 = some items) (g1 : Nat) (A1 : Option Addr) (c1 : Nat) (hn1 : A1 = none → c1 = 0) : Iter Try.prog (.func (.func 43) #[] #[.pointer (some ⟨g1, 0, none⟩)]) enccoverinterval items (cListed1_kp g1 A1 c1 p1) := by
 refine ⟨_, _, rfl, fun _ _ => by kernel_rfl, ?_⟩
 intro n l J Jx W hab habx hY hk hJ
 have hS0 := St.start W
 unfold cListed1 at hF
 refine callsin_of Try.func43 rfl ⟨((.func (.yield l) #[] #[]) :: (.pointer (some ⟨g1, 0, none⟩)) :: undef :: undef :: undef :: undef :: undef :: undef :: undef :: undef :: undef :: undef :: undef :: undef :: undef :: undef :: undef :: undef :: undef :: undef :: undef :: undef :: []).toArray, []⟩ (by kernel_rfl) ?_
 refine gx_seq (fun K1 hK2 => ?_)
 refine gx_region ?_
 refine gx_v (.slice A1 p1.length c1) W (run_load1 rfl (by kernel_rfl) (fun _ => by kernel_rfl) (hS0.read hk.1 0 rfl)) ?_
 refine gx_k (.int .i64 ((p1.length : Nat) : Int)) W (gx_k (.int .i64 0) W ?_)
 refine gx_nil ?_
 refine gx_thenN ?_
 refine hK2 _ _ ?_
 refine gx_block ?_
 refine gx_loop (fun k a w => ∃ (x6 : Int) (wb7 : World) (its8 : List (Int × Int × Int)) (u5 : Nat → Value), a = ⟨((.func (.yield l) #[] #[]) :: (.pointer (some ⟨g1, 0, none⟩)) :: undef :: (u5 0) :: (u5 1) :: (.slice A1 p1.length c1) :: (.int .i64 ((p1.length : Nat) : Int)) :: (.int .i64 x6) :: (u5 2) :: (u5 3) :: (u5 4) :: (u5 5) :: (u5 6) :: (u5 7) :: (u5 8) :: (u5 9) :: (u5 10) :: (u5 11) :: (u5 12) :: (u5 13) :: (u5 14) :: (u5 15) :: []).toArray, []⟩ ∧ cListed1_L1 N p1 k x6 = some its8 ∧ St [] wb7 w [] ∧ J its8 wb7 ∧ (cListed1_kp g1 A1 c1 p1) wb7) N ?_ ?_
 ·exact ⟨0, W, items, (fun i => List.getD (undef :: undef :: undef :: undef :: undef :: undef :: undef :: undef :: undef :: undef :: undef :: undef :: undef :: undef :: undef :: undef :: []) i undef), by kernel_rfl, hF, hS0, hJ, hk⟩
 ·rintro k11 _ w3 ⟨x6, wb7, its8, u5, rfl, hL12, hS4, hJ9, hk10⟩
  cases k11 with
  | zero => cases hL12
  | succ k11 =>
   rw [cListed1_L1] at hL12
   refine gx_seq (fun K13 hK14 => ?_)
   refine gx_region ?_
   rcases if_in hL12 with ⟨h15, hL12⟩ | ⟨h15, hL12⟩
   ·refine gx_v (.bool true) w3 (run_boolE (decide_eq_true h15) (by kernel_rfl)) ?_
    refine gx_nil ?_
    refine gx_thenN ?_
    refine hK14 _ _ ?_
    refine gx_seq (fun K16 hK17 => ?_)
    refine gx_yes (by kernel_rfl) ?_
    refine gx_pass ?_
    refine gx_thenN ?_
    refine hK17 _ _ ?_
    refine gx_seq (fun K18 hK19 => ?_)
    refine gx_block ?_
    refine gx_seq (fun K20 hK21 => ?_)
    refine gx_region ?_
    refine gx_k (.int .i64 x6) w3 ?_
    obtain ⟨x22, hx23, hL12⟩ := bind_in hL12
    refine gx_v (.pointer (Option.map (fun p => p.add (Int.toNat x6 * 1)) A1)) w3 (run_ixaddr (E := 45) (s := 1) (k := .i64) (c := c1) rfl (by kernel_rfl) (by kernel_rfl) (by kernel_rfl) (fun _ => by kernel_rfl) (ix_in hx23).1 (ix_in hx23).2.1 (num_nil (hS4.view (Vw.of hk10.2 hn1)))) ?_
    refine gx_v (.int .u16 x22) w3 (run_loadix rfl (by kernel_rfl) (fun _ => by kernel_rfl) (hS4.view (Vw.of hk10.2 hn1)) hx23) ?_
    refine gx_k (.int .i64 x6) w3 (gx_k (.int .u16 x22) w3 ?_)
    refine gx_nil ?_
    refine gx_thenN ?_
    refine hK21 _ _ ?_
    refine gx_seq (fun K24 hK25 => ?_)
    refine gx_region ?_
    refine gx_k (.func (.yield l) #[] #[]) w3 (gx_k (.int .u16 x22) w3 (gx_k (.int .i64 (IntKind.i64.wrap x22)) w3 (gx_k (.int .u16 x22) w3 (gx_k (.int .i64 (IntKind.i64.wrap x22)) w3 (gx_k (.int .i64 x6) w3 (gx_k (.agg #[.int .i64 (IntKind.i64.wrap x22), .int .i64 (IntKind.i64.wrap x22), .int .i64 x6]) w3 ?_))))))
    obtain ⟨its26, hL12, hq27⟩ := Option.map_eq_some_iff.1 hL12
    rw [← hq27] at hJ9
    refine gx_yield (fun v w => (v = .bool true ∧ J its26 w ∧ (cListed1_kp g1 A1 c1 p1) w) ∨ (v = .bool false ∧ Jx w ∧ (cListed1_kp g1 A1 c1 p1) w)) (by kernel_rfl) (run_yieldcall rfl (by kernel_rfl) (by kernel_rfl)) (yield_out (hY _ _ _ (hab _ _ _ hJ9 hS4.below) (cListed1_kp_ab hk10 hS4.below))) ?_
    rintro _ w28 (⟨rfl, hJ29, hk30⟩ | ⟨rfl, hx31, hk30⟩)
    ·have hS32 := St.start w28
     refine gx_k (.bool false) w28 ?_
     refine gx_nil ?_
     refine gx_thenN ?_
     refine hK25 _ _ ?_
     refine gx_no (by kernel_rfl) ?_
     refine gx_pass ?_
     refine gx_blkN ?_
     refine gx_thenN ?_
     refine hK19 _ _ ?_
     refine gx_region ?_
     refine gx_k (.int .i64 (IntKind.i64.wrap (x6 + 1))) w28 (gx_k (.int .i64 (IntKind.i64.wrap (x6 + 1))) w28 ?_)
     refine gx_nil ?_
     refine gx_thenN ?_
     exact ⟨k11, Nat.lt_succ_self k11, (IntKind.i64.wrap (x6 + 1)), w28, its26, (fun i => List.getD ((.int .i64 x6) :: (.int .u16 x22) :: (.bool true) :: (.int .i64 x6) :: (.pointer (Option.map (fun p => p.add (Int.toNat x6 * 1)) A1)) :: (.int .u16 x22) :: (.func (.yield l) #[] #[]) :: (.int .u16 x22) :: (.int .i64 (IntKind.i64.wrap x22)) :: (.int .u16 x22) :: (.int .i64 (IntKind.i64.wrap x22)) :: (.int .i64 x6) :: (.agg #[.int .i64 (IntKind.i64.wrap x22), .int .i64 (IntKind.i64.wrap x22), .int .i64 x6]) :: (.bool true) :: (.bool false) :: (.int .i64 (IntKind.i64.wrap (x6 + 1))) :: []) i undef), by kernel_rfl, hL12, hS32, hJ29, hk30⟩
    ·have hS32 := St.start w28
     refine gx_k (.bool true) w28 ?_
     refine gx_nil ?_
     refine gx_thenN ?_
     refine hK25 _ _ ?_
     refine gx_yes (by kernel_rfl) ?_
     refine gx_ret ?_
     refine gx_blkR ?_
     refine gx_thenR ?_
     refine gx_thenR ?_
     refine gx_blkR ?_
     exact gx_fin (.tuple #[]) (by kernel_rfl) (by kernel_rfl) ⟨⟨_, rfl⟩, .inr (habx _ _ hx31 hS32.below)⟩
   ·refine gx_v (.bool false) w3 (run_boolE (decide_eq_false h15) (by kernel_rfl)) ?_
    refine gx_nil ?_
    refine gx_thenN ?_
    refine hK14 _ _ ?_
    refine gx_seq (fun K33 hK34 => ?_)
    refine gx_no (by kernel_rfl) ?_
    refine gx_exit ?_
    refine gx_thenE ?_
    refine gx_thenE ?_
    refine gx_blkE ?_
    obtain rfl := Option.some.inj hL12
    exact gx_finN (.tuple #[]) (by kernel_rfl) (by kernel_rfl) ⟨⟨_, rfl⟩, .inl (hab _ _ _ hJ9 hS4.below)⟩

def cRanged (_N : Nat) : Option (Unit) :=
 some ()

def cRanged_R (A0 : Option Addr) (n0 : Nat) (c0 : Nat) (_r : Unit) (w0 : World) (v : Value) (w : World) : Prop := ∃ (g0' : Nat), v = .func (.func 44) #[] #[.pointer (some ⟨g0', 0, none⟩)] ∧ St [] w0 w [boxE g0' [.slice A0 n0 c0] 38]

set_option maxRecDepth 100000 in
set_option maxHeartbeats 4000000 in
theorem cRanged_ok (N : Nat) (A0 : Option Addr) (n0 c0 : Nat) (r : Unit) (hF : cRanged N = some r) (w0 : World)  :
  Calls Try.prog 35 #[.slice A0 n0 c0] w0 fun e w => ∃ v, e = .returned v ∧ cRanged_R A0 n0 c0 r w0 v w := by
 have hS0 := St.start w0
 unfold cRanged at hF
 refine calls_of Try.func35 rfl ⟨((.slice A0 n0 c0) :: undef :: undef :: undef :: []).toArray, []⟩ (by kernel_rfl) ?_
 refine gx_seq (fun K1 hK2 => ?_)
 refine gx_region ?_
 refine gx_r (st_boxed [.slice A0 n0 c0] 38 hS0 (by kernel_rfl)) ?_
 rintro _ w3 ⟨rfl, hS4⟩
 have hS4 : St _ _ w3 [boxE w0.heap.size [.slice A0 n0 c0] 38] := hS4
 refine gx_k (Value.nilFunc) w3 ?_
 refine gx_nil ?_
 refine gx_thenN ?_
 refine hK2 _ _ ?_
 refine gx_seq (fun K5 hK6 => ?_)
 refine gx_region ?_
 refine gx_k (.func (.func 44) #[] #[.pointer (some ⟨w0.heap.size, 0, none⟩)]) w3 (gx_k (.func (.func 44) #[] #[.pointer (some ⟨w0.heap.size, 0, none⟩)]) w3 ?_)
 refine gx_nil ?_
 refine gx_thenN ?_
 refine hK6 _ _ ?_
 refine gx_ret ?_
 obtain rfl := Option.some.inj hF
 exact gx_fin (.func (.func 44) #[] #[.pointer (some ⟨w0.heap.size, 0, none⟩)]) (by kernel_rfl) (by kernel_rfl) ⟨_, rfl, w0.heap.size, rfl, hS4⟩

def cRanged1_L1 (N : Nat) (p1 : List Int) : Nat → Int → Option (List (Int × Int × Int))
 | 0, _ => none
 | k11+1, x6 => (if x6 < ((p1.length : Nat) : Int) then ((ix p1 (IntKind.i64.wrap (x6 - 2))).bind fun x24 => ((ix p1 (IntKind.i64.wrap (x6 - 1))).bind fun x26 => ((ix p1 x6).bind fun x28 => (Option.map (fun is => ((IntKind.i64.wrap x24), (IntKind.i64.wrap x26), (IntKind.i64.wrap x28)) :: is) (cRanged1_L1 N p1 k11 (IntKind.i64.wrap (x6 + 3))))))) else some [])
def cRanged1 (N : Nat) (p1 : List Int) : Option (List (Int × Int × Int)) :=
 cRanged1_L1 N p1 N 2

def cRanged1_kp (g1 : Nat) (A1 : Option Addr) (c1 : Nat) (p1 : List Int) (W : World) : Prop := W.heap[g1]? = some (.cells [.slice A1 p1.length c1].toArray 38 (0, 0)) ∧ NumZ .u16 W (.slice A1 p1.length c1) p1

theorem cRanged1_kp_ab {g1 : Nat} {A1 : Option Addr} {c1 : Nat} {p1 : List Int} {W W' : World} (hk : cRanged1_kp g1 A1 c1 p1 W) (hb : Below W.heap.size W W') : cRanged1_kp g1 A1 c1 p1 W' := ⟨(hb.block _ (own_row_lt hk.1)).trans hk.1, hk.2.below hb⟩

set_option maxRecDepth 100000 in
set_option maxHeartbeats 4000000 in
theorem cRanged1_iter (N : Nat) (p1 : List Int) (items : List (Int × Int × Int)) (hF : cRanged1 N p1 = some items) (g1 : Nat) (A1 : Option Addr) (c1 : Nat) (hn1 : A1 = none → c1 = 0) : Iter Try.prog (.func (.func 44) #[] #[.pointer (some ⟨g1, 0, none⟩)]) enccoverinterval items (cRanged1_kp g1 A1 c1 p1) := by
 refine ⟨_, _, rfl, fun _ _ => by kernel_rfl, ?_⟩
 intro n l J Jx W hab habx hY hk hJ
 have hS0 := St.start W
 unfold cRanged1 at hF
 refine callsin_of Try.func44 rfl ⟨((.func (.yield l) #[] #[]) :: (.pointer (some ⟨g1, 0, none⟩)) :: undef :: undef :: undef :: undef :: undef :: undef :: undef :: undef :: undef :: undef :: undef :: undef :: undef :: undef :: undef :: undef :: undef :: undef :: undef :: undef :: undef :: undef :: undef :: undef :: undef :: undef :: undef :: undef :: undef :: []).toArray, []⟩ (by kernel_rfl) ?_
 refine gx_seq (fun K1 hK2 => ?_)
 refine gx_region ?_
 refine gx_k (.int .i64 2) W ?_
 refine gx_nil ?_
 refine gx_thenN ?_
 refine hK2 _ _ ?_
 refine gx_block ?_
 refine gx_loop (fun k a w => ∃ (x6 : Int) (wb7 : World) (its8 : List (Int × Int × Int)) (u5 : Nat → Value), a = ⟨((.func (.yield l) #[] #[]) :: (.pointer (some ⟨g1, 0, none⟩)) :: undef :: (.int .i64 x6) :: (u5 0) :: (u5 1) :: (u5 2) :: (u5 3) :: (u5 4) :: (u5 5) :: (u5 6) :: (u5 7) :: (u5 8) :: (u5 9) :: (u5 10) :: (u5 11) :: (u5 12) :: (u5 13) :: (u5 14) :: (u5 15) :: (u5 16) :: (u5 17) :: (u5 18) :: (u5 19) :: (u5 20) :: (u5 21) :: (u5 22) :: (u5 23) :: (u5 24) :: (u5 25) :: (u5 26) :: []).toArray, []⟩ ∧ cRanged1_L1 N p1 k x6 = some its8 ∧ St [] wb7 w [] ∧ J its8 wb7 ∧ (cRanged1_kp g1 A1 c1 p1) wb7) N ?_ ?_
 ·exact ⟨2, W, items, (fun i => List.getD (undef :: undef :: undef :: undef :: undef :: undef :: undef :: undef :: undef :: undef :: undef :: undef :: undef :: undef :: undef :: undef :: undef :: undef :: undef :: undef :: undef :: undef :: undef :: undef :: undef :: undef :: undef :: []) i undef), by kernel_rfl, hF, hS0, hJ, hk⟩
 ·rintro k11 _ w3 ⟨x6, wb7, its8, u5, rfl, hL12, hS4, hJ9, hk10⟩
  cases k11 with
  | zero => cases hL12
  | succ k11 =>
   rw [cRanged1_L1] at hL12
   refine gx_seq (fun K13 hK14 => ?_)
   refine gx_seq (fun K15 hK16 => ?_)
   refine gx_region ?_
   refine gx_k (.int .i64 x6) w3 ?_
   refine gx_v (.slice A1 p1.length c1) w3 (run_load1 rfl (by kernel_rfl) (fun _ => by kernel_rfl) (hS4.read hk10.1 0 rfl)) ?_
   refine gx_k (.int .i64 ((p1.length : Nat) : Int)) w3 ?_
   rcases if_in hL12 with ⟨h17, hL12⟩ | ⟨h17, hL12⟩
   ·refine gx_v (.bool true) w3 (run_boolE (decide_eq_true h17) (by kernel_rfl)) ?_
    refine gx_nil ?_
    refine gx_thenN ?_
    refine hK16 _ _ ?_
    refine gx_yes (by kernel_rfl) ?_
    refine gx_pass ?_
    refine gx_thenN ?_
    refine hK14 _ _ ?_
    refine gx_seq (fun K18 hK19 => ?_)
    refine gx_block ?_
    refine gx_seq (fun K20 hK21 => ?_)
    refine gd_start (fun w => ∃ wb, (cRanged1_kp g1 A1 c1 p1) wb ∧ St [] wb w []) 21 #[false, false, false, false, false, false, false, false, false, false, false, false, false, false, false, false, false, false, false, false, false] (by kernel_rfl) (by kernel_rfl) ?_
    have hS23 := hS4.drew
    generalize w3.drew = w22 at hS23 ⊢
    refine gd1 0 { dst := some 10, op := _, type := _, pos := _, after := _, guard := _ } (.func (.yield l) #[] #[]) rfl ⟨_, hk10, hS23⟩ (fun w ⟨_, hkw, hSw⟩ => by kernel_rfl) ?_
    refine gd1 1 { dst := some 11, op := _, type := _, pos := _, after := _, guard := _ } (.slice A1 p1.length c1) rfl ⟨_, hk10, hS23⟩ (fun w ⟨_, hkw, hSw⟩ => run_load1 rfl (by kernel_rfl) (fun _ => by kernel_rfl) (hSw.read hkw.1 0 rfl)) ?_
    refine gd1 2 { dst := some 12, op := _, type := _, pos := _, after := _, guard := _ } (.int .i64 x6) rfl ⟨_, hk10, hS23⟩ (fun w ⟨_, hkw, hSw⟩ => by kernel_rfl) ?_
    refine gd1 3 { dst := some 13, op := _, type := _, pos := _, after := _, guard := _ } (.int .i64 (IntKind.i64.wrap (x6 - 2))) rfl ⟨_, hk10, hS23⟩ (fun w ⟨_, hkw, hSw⟩ => by kernel_rfl) ?_
    obtain ⟨x24, hx25, hL12⟩ := bind_in hL12
    refine gd1 4 { dst := some 14, op := _, type := _, pos := _, after := _, guard := _ } (.pointer (Option.map (fun p => p.add (Int.toNat (IntKind.i64.wrap (x6 - 2)) * 1)) A1)) rfl ⟨_, hk10, hS23⟩ (fun w ⟨_, hkw, hSw⟩ => run_ixaddr (E := 45) (s := 1) (k := .i64) (c := c1) rfl (by kernel_rfl) (by kernel_rfl) (by kernel_rfl) (fun _ => by kernel_rfl) (ix_in hx25).1 (ix_in hx25).2.1 (num_nil (hSw.view (Vw.of hkw.2 hn1)))) ?_
    refine gd1 5 { dst := some 15, op := _, type := _, pos := _, after := _, guard := _ } (.int .u16 x24) rfl ⟨_, hk10, hS23⟩ (fun w ⟨_, hkw, hSw⟩ => run_loadix rfl (by kernel_rfl) (fun _ => by kernel_rfl) (hSw.view (Vw.of hkw.2 hn1)) hx25) ?_
    refine gd1 6 { dst := some 16, op := _, type := _, pos := _, after := _, guard := _ } (.int .i64 (IntKind.i64.wrap x24)) rfl ⟨_, hk10, hS23⟩ (fun w ⟨_, hkw, hSw⟩ => by kernel_rfl) ?_
    refine gd1 7 { dst := some 17, op := _, type := _, pos := _, after := _, guard := _ } (.slice A1 p1.length c1) rfl ⟨_, hk10, hS23⟩ (fun w ⟨_, hkw, hSw⟩ => run_load1 rfl (by kernel_rfl) (fun _ => by kernel_rfl) (hSw.read hkw.1 0 rfl)) ?_
    refine gd1 8 { dst := some 18, op := _, type := _, pos := _, after := _, guard := _ } (.int .i64 x6) rfl ⟨_, hk10, hS23⟩ (fun w ⟨_, hkw, hSw⟩ => by kernel_rfl) ?_
    refine gd1 9 { dst := some 19, op := _, type := _, pos := _, after := _, guard := _ } (.int .i64 (IntKind.i64.wrap (x6 - 1))) rfl ⟨_, hk10, hS23⟩ (fun w ⟨_, hkw, hSw⟩ => by kernel_rfl) ?_
    obtain ⟨x26, hx27, hL12⟩ := bind_in hL12
    refine gd1 10 { dst := some 20, op := _, type := _, pos := _, after := _, guard := _ } (.pointer (Option.map (fun p => p.add (Int.toNat (IntKind.i64.wrap (x6 - 1)) * 1)) A1)) rfl ⟨_, hk10, hS23⟩ (fun w ⟨_, hkw, hSw⟩ => run_ixaddr (E := 45) (s := 1) (k := .i64) (c := c1) rfl (by kernel_rfl) (by kernel_rfl) (by kernel_rfl) (fun _ => by kernel_rfl) (ix_in hx27).1 (ix_in hx27).2.1 (num_nil (hSw.view (Vw.of hkw.2 hn1)))) ?_
    refine gd1 11 { dst := some 21, op := _, type := _, pos := _, after := _, guard := _ } (.int .u16 x26) rfl ⟨_, hk10, hS23⟩ (fun w ⟨_, hkw, hSw⟩ => run_loadix rfl (by kernel_rfl) (fun _ => by kernel_rfl) (hSw.view (Vw.of hkw.2 hn1)) hx27) ?_
    refine gd1 12 { dst := some 22, op := _, type := _, pos := _, after := _, guard := _ } (.int .i64 (IntKind.i64.wrap x26)) rfl ⟨_, hk10, hS23⟩ (fun w ⟨_, hkw, hSw⟩ => by kernel_rfl) ?_
    refine gd1 13 { dst := some 23, op := _, type := _, pos := _, after := _, guard := _ } (.slice A1 p1.length c1) rfl ⟨_, hk10, hS23⟩ (fun w ⟨_, hkw, hSw⟩ => run_load1 rfl (by kernel_rfl) (fun _ => by kernel_rfl) (hSw.read hkw.1 0 rfl)) ?_
    refine gd1 14 { dst := some 24, op := _, type := _, pos := _, after := _, guard := _ } (.int .i64 x6) rfl ⟨_, hk10, hS23⟩ (fun w ⟨_, hkw, hSw⟩ => by kernel_rfl) ?_
    obtain ⟨x28, hx29, hL12⟩ := bind_in hL12
    refine gd1 15 { dst := some 25, op := _, type := _, pos := _, after := _, guard := _ } (.pointer (Option.map (fun p => p.add (Int.toNat x6 * 1)) A1)) rfl ⟨_, hk10, hS23⟩ (fun w ⟨_, hkw, hSw⟩ => run_ixaddr (E := 45) (s := 1) (k := .i64) (c := c1) rfl (by kernel_rfl) (by kernel_rfl) (by kernel_rfl) (fun _ => by kernel_rfl) (ix_in hx29).1 (ix_in hx29).2.1 (num_nil (hSw.view (Vw.of hkw.2 hn1)))) ?_
    refine gd1 16 { dst := some 26, op := _, type := _, pos := _, after := _, guard := _ } (.int .u16 x28) rfl ⟨_, hk10, hS23⟩ (fun w ⟨_, hkw, hSw⟩ => run_loadix rfl (by kernel_rfl) (fun _ => by kernel_rfl) (hSw.view (Vw.of hkw.2 hn1)) hx29) ?_
    refine gd1 17 { dst := some 27, op := _, type := _, pos := _, after := _, guard := _ } (.int .i64 (IntKind.i64.wrap x28)) rfl ⟨_, hk10, hS23⟩ (fun w ⟨_, hkw, hSw⟩ => by kernel_rfl) ?_
    refine gd1 18 { dst := some 28, op := _, type := _, pos := _, after := _, guard := _ } (.agg #[.int .i64 (IntKind.i64.wrap x24), .int .i64 (IntKind.i64.wrap x26), .int .i64 (IntKind.i64.wrap x28)]) rfl ⟨_, hk10, hS23⟩ (fun w ⟨_, hkw, hSw⟩ => by kernel_rfl) ?_
    obtain ⟨its30, hL12, hq31⟩ := Option.map_eq_some_iff.1 hL12
    rw [← hq31] at hJ9
    refine gdY 19 { dst := some 29, op := _, type := _, pos := _, after := _, guard := _ } (fun v w => (v = .bool true ∧ J its30 w ∧ (cRanged1_kp g1 A1 c1 p1) w) ∨ (v = .bool false ∧ Jx w ∧ (cRanged1_kp g1 A1 c1 p1) w)) rfl (run_yieldcall rfl (by kernel_rfl) (by kernel_rfl)) (yield_out (hY _ _ _ (hab _ _ _ hJ9 hS23.below) (cRanged1_kp_ab hk10 hS23.below))) ?_
    rintro _ w32 (⟨rfl, hJ33, hk34⟩ | ⟨rfl, hx35, hk34⟩)
    ·have hS36 := St.start w32
     refine ⟨⟨_, hk34, hS36⟩, ?_⟩
     refine gd1 20 { dst := some 30, op := _, type := _, pos := _, after := _, guard := _ } (.bool false) rfl ⟨_, hk34, hS36⟩ (fun w ⟨_, hkw, hSw⟩ => by kernel_rfl) ?_
     refine gd_done (by kernel_rfl) ?_
     refine gx_thenN ?_
     refine hK21 _ _ ?_
     refine gx_no (by kernel_rfl) ?_
     refine gx_pass ?_
     refine gx_blkN ?_
     refine gx_thenN ?_
     refine hK19 _ _ ?_
     refine gx_region ?_
     refine gx_k (.int .i64 x6) w32 (gx_k (.int .i64 (IntKind.i64.wrap (x6 + 3))) w32 (gx_k (.int .i64 (IntKind.i64.wrap (x6 + 3))) w32 ?_))
     refine gx_nil ?_
     refine gx_thenN ?_
     exact ⟨k11, Nat.lt_succ_self k11, (IntKind.i64.wrap (x6 + 3)), w32, its30, (fun i => List.getD ((.int .i64 x6) :: (.slice A1 p1.length c1) :: (.int .i64 ((p1.length : Nat) : Int)) :: (.bool true) :: (.int .i64 x6) :: (.int .i64 (IntKind.i64.wrap (x6 + 3))) :: (.func (.yield l) #[] #[]) :: (.slice A1 p1.length c1) :: (.int .i64 x6) :: (.int .i64 (IntKind.i64.wrap (x6 - 2))) :: (.pointer (Option.map (fun p => p.add (Int.toNat (IntKind.i64.wrap (x6 - 2)) * 1)) A1)) :: (.int .u16 x24) :: (.int .i64 (IntKind.i64.wrap x24)) :: (.slice A1 p1.length c1) :: (.int .i64 x6) :: (.int .i64 (IntKind.i64.wrap (x6 - 1))) :: (.pointer (Option.map (fun p => p.add (Int.toNat (IntKind.i64.wrap (x6 - 1)) * 1)) A1)) :: (.int .u16 x26) :: (.int .i64 (IntKind.i64.wrap x26)) :: (.slice A1 p1.length c1) :: (.int .i64 x6) :: (.pointer (Option.map (fun p => p.add (Int.toNat x6 * 1)) A1)) :: (.int .u16 x28) :: (.int .i64 (IntKind.i64.wrap x28)) :: (.agg #[.int .i64 (IntKind.i64.wrap x24), .int .i64 (IntKind.i64.wrap x26), .int .i64 (IntKind.i64.wrap x28)]) :: (.bool true) :: (.bool false) :: []) i undef), by kernel_rfl, hL12, hS36, hJ33, hk34⟩
    ·have hS36 := St.start w32
     refine ⟨⟨_, hk34, hS36⟩, ?_⟩
     refine gd1 20 { dst := some 30, op := _, type := _, pos := _, after := _, guard := _ } (.bool true) rfl ⟨_, hk34, hS36⟩ (fun w ⟨_, hkw, hSw⟩ => by kernel_rfl) ?_
     refine gd_done (by kernel_rfl) ?_
     refine gx_thenN ?_
     refine hK21 _ _ ?_
     refine gx_yes (by kernel_rfl) ?_
     refine gx_ret ?_
     refine gx_blkR ?_
     refine gx_thenR ?_
     refine gx_thenR ?_
     refine gx_blkR ?_
     exact gx_fin (.tuple #[]) (by kernel_rfl) (by kernel_rfl) ⟨⟨_, rfl⟩, .inr (habx _ _ hx35 hS36.below)⟩
   ·refine gx_v (.bool false) w3 (run_boolE (decide_eq_false h17) (by kernel_rfl)) ?_
    refine gx_nil ?_
    refine gx_thenN ?_
    refine hK16 _ _ ?_
    refine gx_no (by kernel_rfl) ?_
    refine gx_exit ?_
    refine gx_thenE ?_
    refine gx_thenE ?_
    refine gx_blkE ?_
    obtain rfl := Option.some.inj hL12
    exact gx_finN (.tuple #[]) (by kernel_rfl) (by kernel_rfl) ⟨⟨_, rfl⟩, .inl (hab _ _ _ hJ9 hS4.below)⟩

def cClassed (_N : Nat) (_p0 : Int) : Option (Unit) :=
 some ()

def cClassed_R (A1 : Option Addr) (n1 : Nat) (c1 : Nat) (p0 : Int) (_r : Unit) (w0 : World) (v : Value) (w : World) : Prop := ∃ (g0' g1' : Nat), v = .func (.func 45) #[] #[.pointer (some ⟨g0', 0, none⟩), .pointer (some ⟨g1', 0, none⟩)] ∧ St [] w0 w [boxE g0' [.slice A1 n1 c1] 38, boxE g1' [.int .i64 p0] 3]

set_option maxRecDepth 100000 in
set_option maxHeartbeats 4000000 in
theorem cClassed_ok (N : Nat) (p0 : Int) (A1 : Option Addr) (n1 c1 : Nat) (r : Unit) (hF : cClassed N p0 = some r) (w0 : World)  :
  Calls Try.prog 36 #[.int .i64 p0, .slice A1 n1 c1] w0 fun e w => ∃ v, e = .returned v ∧ cClassed_R A1 n1 c1 p0 r w0 v w := by
 have hS0 := St.start w0
 unfold cClassed at hF
 refine calls_of Try.func36 rfl ⟨((.int .i64 p0) :: (.slice A1 n1 c1) :: undef :: undef :: undef :: undef :: []).toArray, []⟩ (by kernel_rfl) ?_
 refine gx_seq (fun K1 hK2 => ?_)
 refine gx_region ?_
 refine gx_r (st_boxed [.int .i64 p0] 3 hS0 (by kernel_rfl)) ?_
 rintro _ w3 ⟨rfl, hS4⟩
 have hS4 : St _ _ w3 [boxE w0.heap.size [.int .i64 p0] 3] := hS4
 refine gx_r (st_boxed [.slice A1 n1 c1] 38 hS4 (by kernel_rfl)) ?_
 rintro _ w5 ⟨rfl, hS6⟩
 have hS6 : St _ _ w5 [boxE w0.heap.size [.int .i64 p0] 3, boxE w3.heap.size [.slice A1 n1 c1] 38] := hS6
 refine gx_k (Value.nilFunc) w5 ?_
 refine gx_nil ?_
 refine gx_thenN ?_
 refine hK2 _ _ ?_
 refine gx_seq (fun K7 hK8 => ?_)
 refine gx_region ?_
 refine gx_k (.func (.func 45) #[] #[.pointer (some ⟨w3.heap.size, 0, none⟩), .pointer (some ⟨w0.heap.size, 0, none⟩)]) w5 (gx_k (.func (.func 45) #[] #[.pointer (some ⟨w3.heap.size, 0, none⟩), .pointer (some ⟨w0.heap.size, 0, none⟩)]) w5 ?_)
 refine gx_nil ?_
 refine gx_thenN ?_
 refine hK8 _ _ ?_
 refine gx_ret ?_
 obtain rfl := Option.some.inj hF
 exact gx_fin (.func (.func 45) #[] #[.pointer (some ⟨w3.heap.size, 0, none⟩), .pointer (some ⟨w0.heap.size, 0, none⟩)]) (by kernel_rfl) (by kernel_rfl) ⟨_, rfl, w3.heap.size, w0.heap.size, rfl, (hS6.pick [1, 0] rfl rfl)⟩

def cClassed1_L1 (N : Nat) (p1 : List Int) (p2 : Int) : Nat → Int → Option (List (Int × Int × Int))
 | 0, _ => none
 | k11+1, x6 => (if x6 < ((p1.length : Nat) : Int) then ((ix p1 x6).bind fun x22 => (Option.map (fun is => ((IntKind.i64.wrap (p2 + x6)), (IntKind.i64.wrap (p2 + x6)), (IntKind.i64.wrap x22)) :: is) (cClassed1_L1 N p1 p2 k11 (IntKind.i64.wrap (x6 + 1))))) else some [])
def cClassed1 (N : Nat) (p1 : List Int) (p2 : Int) : Option (List (Int × Int × Int)) :=
 cClassed1_L1 N p1 p2 N 0

def cClassed1_kp (g1 : Nat) (A1 : Option Addr) (c1 : Nat) (g2 : Nat) (p1 : List Int) (p2 : Int) (W : World) : Prop := W.heap[g1]? = some (.cells [.slice A1 p1.length c1].toArray 38 (0, 0)) ∧ NumZ .u16 W (.slice A1 p1.length c1) p1 ∧ W.heap[g2]? = some (.cells [.int .i64 p2].toArray 3 (0, 0))

theorem cClassed1_kp_ab {g1 : Nat} {A1 : Option Addr} {c1 : Nat} {g2 : Nat} {p1 : List Int} {p2 : Int} {W W' : World} (hk : cClassed1_kp g1 A1 c1 g2 p1 p2 W) (hb : Below W.heap.size W W') : cClassed1_kp g1 A1 c1 g2 p1 p2 W' := ⟨(hb.block _ (own_row_lt hk.1)).trans hk.1, hk.2.1.below hb, (hb.block _ (own_row_lt hk.2.2)).trans hk.2.2⟩

set_option maxRecDepth 100000 in
set_option maxHeartbeats 4000000 in
theorem cClassed1_iter (N : Nat) (p1 : List Int) (p2 : Int) (items : List (Int × Int × Int)) (hF : cClassed1 N p1 p2 = some items) (g1 : Nat) (A1 : Option Addr) (c1 : Nat) (g2 : Nat) (hn1 : A1 = none → c1 = 0) : Iter Try.prog (.func (.func 45) #[] #[.pointer (some ⟨g1, 0, none⟩), .pointer (some ⟨g2, 0, none⟩)]) enccoverinterval items (cClassed1_kp g1 A1 c1 g2 p1 p2) := by
 refine ⟨_, _, rfl, fun _ _ => by kernel_rfl, ?_⟩
 intro n l J Jx W hab habx hY hk hJ
 have hS0 := St.start W
 unfold cClassed1 at hF
 refine callsin_of Try.func45 rfl ⟨((.func (.yield l) #[] #[]) :: (.pointer (some ⟨g1, 0, none⟩)) :: (.pointer (some ⟨g2, 0, none⟩)) :: undef :: undef :: undef :: undef :: undef :: undef :: undef :: undef :: undef :: undef :: undef :: undef :: undef :: undef :: undef :: undef :: undef :: undef :: undef :: undef :: undef :: undef :: undef :: []).toArray, []⟩ (by kernel_rfl) ?_
 refine gx_seq (fun K1 hK2 => ?_)
 refine gx_region ?_
 refine gx_v (.slice A1 p1.length c1) W (run_load1 rfl (by kernel_rfl) (fun _ => by kernel_rfl) (hS0.read hk.1 0 rfl)) ?_
 refine gx_k (.int .i64 ((p1.length : Nat) : Int)) W (gx_k (.int .i64 0) W ?_)
 refine gx_nil ?_
 refine gx_thenN ?_
 refine hK2 _ _ ?_
 refine gx_block ?_
 refine gx_loop (fun k a w => ∃ (x6 : Int) (wb7 : World) (its8 : List (Int × Int × Int)) (u5 : Nat → Value), a = ⟨((.func (.yield l) #[] #[]) :: (.pointer (some ⟨g1, 0, none⟩)) :: (.pointer (some ⟨g2, 0, none⟩)) :: undef :: (u5 0) :: (u5 1) :: (.slice A1 p1.length c1) :: (.int .i64 ((p1.length : Nat) : Int)) :: (.int .i64 x6) :: (u5 2) :: (u5 3) :: (u5 4) :: (u5 5) :: (u5 6) :: (u5 7) :: (u5 8) :: (u5 9) :: (u5 10) :: (u5 11) :: (u5 12) :: (u5 13) :: (u5 14) :: (u5 15) :: (u5 16) :: (u5 17) :: (u5 18) :: []).toArray, []⟩ ∧ cClassed1_L1 N p1 p2 k x6 = some its8 ∧ St [] wb7 w [] ∧ J its8 wb7 ∧ (cClassed1_kp g1 A1 c1 g2 p1 p2) wb7) N ?_ ?_
 ·exact ⟨0, W, items, (fun i => List.getD (undef :: undef :: undef :: undef :: undef :: undef :: undef :: undef :: undef :: undef :: undef :: undef :: undef :: undef :: undef :: undef :: undef :: undef :: undef :: []) i undef), by kernel_rfl, hF, hS0, hJ, hk⟩
 ·rintro k11 _ w3 ⟨x6, wb7, its8, u5, rfl, hL12, hS4, hJ9, hk10⟩
  cases k11 with
  | zero => cases hL12
  | succ k11 =>
   rw [cClassed1_L1] at hL12
   refine gx_seq (fun K13 hK14 => ?_)
   refine gx_region ?_
   rcases if_in hL12 with ⟨h15, hL12⟩ | ⟨h15, hL12⟩
   ·refine gx_v (.bool true) w3 (run_boolE (decide_eq_true h15) (by kernel_rfl)) ?_
    refine gx_nil ?_
    refine gx_thenN ?_
    refine hK14 _ _ ?_
    refine gx_seq (fun K16 hK17 => ?_)
    refine gx_yes (by kernel_rfl) ?_
    refine gx_pass ?_
    refine gx_thenN ?_
    refine hK17 _ _ ?_
    refine gx_seq (fun K18 hK19 => ?_)
    refine gx_block ?_
    refine gx_seq (fun K20 hK21 => ?_)
    refine gx_region ?_
    refine gx_k (.int .i64 x6) w3 ?_
    obtain ⟨x22, hx23, hL12⟩ := bind_in hL12
    refine gx_v (.pointer (Option.map (fun p => p.add (Int.toNat x6 * 1)) A1)) w3 (run_ixaddr (E := 45) (s := 1) (k := .i64) (c := c1) rfl (by kernel_rfl) (by kernel_rfl) (by kernel_rfl) (fun _ => by kernel_rfl) (ix_in hx23).1 (ix_in hx23).2.1 (num_nil (hS4.view (Vw.of hk10.2.1 hn1)))) ?_
    refine gx_v (.int .u16 x22) w3 (run_loadix rfl (by kernel_rfl) (fun _ => by kernel_rfl) (hS4.view (Vw.of hk10.2.1 hn1)) hx23) ?_
    refine gx_k (.int .i64 x6) w3 (gx_k (.int .u16 x22) w3 ?_)
    refine gx_nil ?_
    refine gx_thenN ?_
    refine hK21 _ _ ?_
    refine gx_seq (fun K24 hK25 => ?_)
    refine gx_region ?_
    refine gx_k (.func (.yield l) #[] #[]) w3 ?_
    refine gx_v (.int .i64 p2) w3 (run_load1 rfl (by kernel_rfl) (fun _ => by kernel_rfl) (hS4.read hk10.2.2 0 rfl)) ?_
    refine gx_k (.int .i64 x6) w3 (gx_k (.int .i64 (IntKind.i64.wrap (p2 + x6))) w3 ?_)
    refine gx_v (.int .i64 p2) w3 (run_load1 rfl (by kernel_rfl) (fun _ => by kernel_rfl) (hS4.read hk10.2.2 0 rfl)) ?_
    refine gx_k (.int .i64 x6) w3 (gx_k (.int .i64 (IntKind.i64.wrap (p2 + x6))) w3 (gx_k (.int .u16 x22) w3 (gx_k (.int .i64 (IntKind.i64.wrap x22)) w3 (gx_k (.agg #[.int .i64 (IntKind.i64.wrap (p2 + x6)), .int .i64 (IntKind.i64.wrap (p2 + x6)), .int .i64 (IntKind.i64.wrap x22)]) w3 ?_))))
    obtain ⟨its26, hL12, hq27⟩ := Option.map_eq_some_iff.1 hL12
    rw [← hq27] at hJ9
    refine gx_yield (fun v w => (v = .bool true ∧ J its26 w ∧ (cClassed1_kp g1 A1 c1 g2 p1 p2) w) ∨ (v = .bool false ∧ Jx w ∧ (cClassed1_kp g1 A1 c1 g2 p1 p2) w)) (by kernel_rfl) (run_yieldcall rfl (by kernel_rfl) (by kernel_rfl)) (yield_out (hY _ _ _ (hab _ _ _ hJ9 hS4.below) (cClassed1_kp_ab hk10 hS4.below))) ?_
    rintro _ w28 (⟨rfl, hJ29, hk30⟩ | ⟨rfl, hx31, hk30⟩)
    ·have hS32 := St.start w28
     refine gx_k (.bool false) w28 ?_
     refine gx_nil ?_
     refine gx_thenN ?_
     refine hK25 _ _ ?_
     refine gx_no (by kernel_rfl) ?_
     refine gx_pass ?_
     refine gx_blkN ?_
     refine gx_thenN ?_
     refine hK19 _ _ ?_
     refine gx_region ?_
     refine gx_k (.int .i64 (IntKind.i64.wrap (x6 + 1))) w28 (gx_k (.int .i64 (IntKind.i64.wrap (x6 + 1))) w28 ?_)
     refine gx_nil ?_
     refine gx_thenN ?_
     exact ⟨k11, Nat.lt_succ_self k11, (IntKind.i64.wrap (x6 + 1)), w28, its26, (fun i => List.getD ((.int .i64 x6) :: (.int .u16 x22) :: (.bool true) :: (.int .i64 x6) :: (.pointer (Option.map (fun p => p.add (Int.toNat x6 * 1)) A1)) :: (.int .u16 x22) :: (.func (.yield l) #[] #[]) :: (.int .i64 p2) :: (.int .i64 x6) :: (.int .i64 (IntKind.i64.wrap (p2 + x6))) :: (.int .i64 p2) :: (.int .i64 x6) :: (.int .i64 (IntKind.i64.wrap (p2 + x6))) :: (.int .u16 x22) :: (.int .i64 (IntKind.i64.wrap x22)) :: (.agg #[.int .i64 (IntKind.i64.wrap (p2 + x6)), .int .i64 (IntKind.i64.wrap (p2 + x6)), .int .i64 (IntKind.i64.wrap x22)]) :: (.bool true) :: (.bool false) :: (.int .i64 (IntKind.i64.wrap (x6 + 1))) :: []) i undef), by kernel_rfl, hL12, hS32, hJ29, hk30⟩
    ·have hS32 := St.start w28
     refine gx_k (.bool true) w28 ?_
     refine gx_nil ?_
     refine gx_thenN ?_
     refine hK25 _ _ ?_
     refine gx_yes (by kernel_rfl) ?_
     refine gx_ret ?_
     refine gx_blkR ?_
     refine gx_thenR ?_
     refine gx_thenR ?_
     refine gx_blkR ?_
     exact gx_fin (.tuple #[]) (by kernel_rfl) (by kernel_rfl) ⟨⟨_, rfl⟩, .inr (habx _ _ hx31 hS32.below)⟩
   ·refine gx_v (.bool false) w3 (run_boolE (decide_eq_false h15) (by kernel_rfl)) ?_
    refine gx_nil ?_
    refine gx_thenN ?_
    refine hK14 _ _ ?_
    refine gx_seq (fun K33 hK34 => ?_)
    refine gx_no (by kernel_rfl) ?_
    refine gx_exit ?_
    refine gx_thenE ?_
    refine gx_thenE ?_
    refine gx_blkE ?_
    obtain rfl := Option.some.inj hL12
    exact gx_finN (.tuple #[]) (by kernel_rfl) (by kernel_rfl) ⟨⟨_, rfl⟩, .inl (hab _ _ _ hJ9 hS4.below)⟩

def cRows (_N : Nat) : Option (Unit) :=
 some ()

def cRows_R (A0 : Option Addr) (n0 : Nat) (c0 : Nat) (_r : Unit) (w0 : World) (v : Value) (w : World) : Prop := ∃ (g0' : Nat), v = .func (.func 37) #[] #[.pointer (some ⟨g0', 0, none⟩)] ∧ St [] w0 w [boxE g0' [.slice A0 n0 c0] 22]

set_option maxRecDepth 100000 in
set_option maxHeartbeats 4000000 in
theorem cRows_ok (N : Nat) (A0 : Option Addr) (n0 c0 : Nat) (r : Unit) (hF : cRows N = some r) (w0 : World)  :
  Calls Try.prog 25 #[.slice A0 n0 c0] w0 fun e w => ∃ v, e = .returned v ∧ cRows_R A0 n0 c0 r w0 v w := by
 have hS0 := St.start w0
 unfold cRows at hF
 refine calls_of Try.func25 rfl ⟨((.slice A0 n0 c0) :: undef :: undef :: undef :: []).toArray, []⟩ (by kernel_rfl) ?_
 refine gx_seq (fun K1 hK2 => ?_)
 refine gx_region ?_
 refine gx_r (st_boxed [.slice A0 n0 c0] 22 hS0 (by kernel_rfl)) ?_
 rintro _ w3 ⟨rfl, hS4⟩
 have hS4 : St _ _ w3 [boxE w0.heap.size [.slice A0 n0 c0] 22] := hS4
 refine gx_k (Value.nilFunc) w3 ?_
 refine gx_nil ?_
 refine gx_thenN ?_
 refine hK2 _ _ ?_
 refine gx_seq (fun K5 hK6 => ?_)
 refine gx_region ?_
 refine gx_k (.func (.func 37) #[] #[.pointer (some ⟨w0.heap.size, 0, none⟩)]) w3 (gx_k (.func (.func 37) #[] #[.pointer (some ⟨w0.heap.size, 0, none⟩)]) w3 ?_)
 refine gx_nil ?_
 refine gx_thenN ?_
 refine hK6 _ _ ?_
 refine gx_ret ?_
 obtain rfl := Option.some.inj hF
 exact gx_fin (.func (.func 37) #[] #[.pointer (some ⟨w0.heap.size, 0, none⟩)]) (by kernel_rfl) (by kernel_rfl) ⟨_, rfl, w0.heap.size, rfl, hS4⟩

def cRows1_L2 (N : Nat) (p1 : List Int) (x22 : Int) : Nat → Int → Option (Int)
 | 0, _ => none
 | k35+1, x34 => (if x34 < ((p1.length : Nat) : Int) then ((ix p1 x34).bind fun x42 => (if x42 = x22 then cRows1_L2 N p1 x22 k35 (IntKind.i64.wrap (x34 + 1)) else some (x34))) else some (x34))
def cRows1_L1 (N : Nat) (p1 : List Int) : Nat → Int → Option (List (Int × Int × Int))
 | 0, _ => none
 | k11+1, x6 => (if x6 < ((p1.length : Nat) : Int) then ((ix p1 x6).bind fun x22 => ((cRows1_L2 N p1 x22 N x6 : Option (Int)).bind fun x27 => (if x22 ≠ 0 then (Option.map (fun is => (x6, (IntKind.i64.wrap (x27 - 1)), (IntKind.i64.wrap x22)) :: is) (cRows1_L1 N p1 k11 x27)) else cRows1_L1 N p1 k11 x27))) else some [])
def cRows1 (N : Nat) (p1 : List Int) : Option (List (Int × Int × Int)) :=
 cRows1_L1 N p1 N 0

def cRows1_kp (g1 : Nat) (A1 : Option Addr) (c1 : Nat) (p1 : List Int) (W : World) : Prop := W.heap[g1]? = some (.cells [.slice A1 p1.length c1].toArray 22 (0, 0)) ∧ NumZ .u8 W (.slice A1 p1.length c1) p1

theorem cRows1_kp_ab {g1 : Nat} {A1 : Option Addr} {c1 : Nat} {p1 : List Int} {W W' : World} (hk : cRows1_kp g1 A1 c1 p1 W) (hb : Below W.heap.size W W') : cRows1_kp g1 A1 c1 p1 W' := ⟨(hb.block _ (own_row_lt hk.1)).trans hk.1, hk.2.below hb⟩

set_option maxRecDepth 100000 in
set_option maxHeartbeats 4000000 in
theorem cRows1_iter (N : Nat) (p1 : List Int) (items : List (Int × Int × Int)) (hF : cRows1 N p1 = some items) (g1 : Nat) (A1 : Option Addr) (c1 : Nat) (hn1 : A1 = none → c1 = 0) : Iter Try.prog (.func (.func 37) #[] #[.pointer (some ⟨g1, 0, none⟩)]) enccoverinterval items (cRows1_kp g1 A1 c1 p1) := by
 refine ⟨_, _, rfl, fun _ _ => by kernel_rfl, ?_⟩
 intro n l J Jx W hab habx hY hk hJ
 have hS0 := St.start W
 unfold cRows1 at hF
 refine callsin_of Try.func37 rfl ⟨((.func (.yield l) #[] #[]) :: (.pointer (some ⟨g1, 0, none⟩)) :: undef :: undef :: undef :: undef :: undef :: undef :: undef :: undef :: undef :: undef :: undef :: undef :: undef :: undef :: undef :: undef :: undef :: undef :: undef :: undef :: undef :: undef :: undef :: undef :: undef :: undef :: undef :: undef :: undef :: undef :: undef :: undef :: undef :: undef :: undef :: undef :: undef :: undef :: undef :: undef :: []).toArray, []⟩ (by kernel_rfl) ?_
 refine gx_seq (fun K1 hK2 => ?_)
 refine gx_region ?_
 refine gx_k (.int .i64 0) W ?_
 refine gx_nil ?_
 refine gx_thenN ?_
 refine hK2 _ _ ?_
 refine gx_block ?_
 refine gx_loop (fun k a w => ∃ (x6 : Int) (wb7 : World) (its8 : List (Int × Int × Int)) (u5 : Nat → Value), a = ⟨((.func (.yield l) #[] #[]) :: (.pointer (some ⟨g1, 0, none⟩)) :: undef :: (.int .i64 x6) :: (u5 0) :: (u5 1) :: (u5 2) :: (u5 3) :: (u5 4) :: (u5 5) :: (u5 6) :: (u5 7) :: (u5 8) :: (u5 9) :: (u5 10) :: (u5 11) :: (u5 12) :: (u5 13) :: (u5 14) :: (u5 15) :: (u5 16) :: (u5 17) :: (u5 18) :: (u5 19) :: (u5 20) :: (u5 21) :: (u5 22) :: (u5 23) :: (u5 24) :: (u5 25) :: (u5 26) :: (u5 27) :: (u5 28) :: (u5 29) :: (u5 30) :: (u5 31) :: (u5 32) :: (u5 33) :: (u5 34) :: (u5 35) :: (u5 36) :: (u5 37) :: []).toArray, []⟩ ∧ cRows1_L1 N p1 k x6 = some its8 ∧ St [] wb7 w [] ∧ J its8 wb7 ∧ (cRows1_kp g1 A1 c1 p1) wb7) N ?_ ?_
 ·exact ⟨0, W, items, (fun i => List.getD (undef :: undef :: undef :: undef :: undef :: undef :: undef :: undef :: undef :: undef :: undef :: undef :: undef :: undef :: undef :: undef :: undef :: undef :: undef :: undef :: undef :: undef :: undef :: undef :: undef :: undef :: undef :: undef :: undef :: undef :: undef :: undef :: undef :: undef :: undef :: undef :: undef :: undef :: []) i undef), by kernel_rfl, hF, hS0, hJ, hk⟩
 ·rintro k11 _ w3 ⟨x6, wb7, its8, u5, rfl, hL12, hS4, hJ9, hk10⟩
  cases k11 with
  | zero => cases hL12
  | succ k11 =>
   rw [cRows1_L1] at hL12
   refine gx_seq (fun K13 hK14 => ?_)
   refine gx_seq (fun K15 hK16 => ?_)
   refine gx_region ?_
   refine gx_k (.int .i64 x6) w3 ?_
   refine gx_v (.slice A1 p1.length c1) w3 (run_load1 rfl (by kernel_rfl) (fun _ => by kernel_rfl) (hS4.read hk10.1 0 rfl)) ?_
   refine gx_k (.int .i64 ((p1.length : Nat) : Int)) w3 ?_
   rcases if_in hL12 with ⟨h17, hL12⟩ | ⟨h17, hL12⟩
   ·refine gx_v (.bool true) w3 (run_boolE (decide_eq_true h17) (by kernel_rfl)) ?_
    refine gx_nil ?_
    refine gx_thenN ?_
    refine hK16 _ _ ?_
    refine gx_yes (by kernel_rfl) ?_
    refine gx_pass ?_
    refine gx_thenN ?_
    refine hK14 _ _ ?_
    refine gx_block ?_
    refine gx_seq (fun K18 hK19 => ?_)
    refine gd_start (fun w => St [] wb7 w []) 7 #[false, false, false, false, false, false, false] (by kernel_rfl) (by kernel_rfl) ?_
    have hS21 := hS4.drew
    generalize w3.drew = w20 at hS21 ⊢
    refine gd1 0 { dst := some 10, op := _, type := _, pos := _, after := _, guard := _ } (.int .i64 x6) rfl hS21 (fun w hSw => by kernel_rfl) ?_
    refine gd1 1 { dst := some 11, op := _, type := _, pos := _, after := _, guard := _ } (.slice A1 p1.length c1) rfl hS21 (fun w hSw => run_load1 rfl (by kernel_rfl) (fun _ => by kernel_rfl) (hSw.read hk10.1 0 rfl)) ?_
    refine gd1 2 { dst := some 12, op := _, type := _, pos := _, after := _, guard := _ } (.int .i64 x6) rfl hS21 (fun w hSw => by kernel_rfl) ?_
    obtain ⟨x22, hx23, hL12⟩ := bind_in hL12
    refine gd1 3 { dst := some 13, op := _, type := _, pos := _, after := _, guard := _ } (.pointer (Option.map (fun p => p.add (Int.toNat x6 * 1)) A1)) rfl hS21 (fun w hSw => run_ixaddr (E := 5) (s := 1) (k := .i64) (c := c1) rfl (by kernel_rfl) (by kernel_rfl) (by kernel_rfl) (fun _ => by kernel_rfl) (ix_in hx23).1 (ix_in hx23).2.1 (num_nil (hSw.view (Vw.of hk10.2 hn1)))) ?_
    refine gd1 4 { dst := some 14, op := _, type := _, pos := _, after := _, guard := _ } (.int .u8 x22) rfl hS21 (fun w hSw => run_loadix rfl (by kernel_rfl) (fun _ => by kernel_rfl) (hSw.view (Vw.of hk10.2 hn1)) hx23) ?_
    refine gd1 5 { dst := some 4, op := _, type := _, pos := _, after := _, guard := _ } (.int .i64 x6) rfl hS21 (fun w hSw => by kernel_rfl) ?_
    refine gd1 6 { dst := some 5, op := _, type := _, pos := _, after := _, guard := _ } (.int .u8 x22) rfl hS21 (fun w hSw => by kernel_rfl) ?_
    refine gd_done (by kernel_rfl) ?_
    refine gx_thenN ?_
    refine hK19 _ _ ?_
    obtain ⟨c28, hE29, hO30⟩ := bind_in hL12
    refine gx_cut (fun a w => ∃ (x27 : Int) (u26 : Nat → Value), a = ⟨((.func (.yield l) #[] #[]) :: (.pointer (some ⟨g1, 0, none⟩)) :: undef :: (.int .i64 x27) :: (.int .i64 x6) :: (.int .u8 x22) :: (.int .i64 x6) :: (.slice A1 p1.length c1) :: (.int .i64 ((p1.length : Nat) : Int)) :: (.bool true) :: (.int .i64 x6) :: (.slice A1 p1.length c1) :: (.int .i64 x6) :: (.pointer (Option.map (fun p => p.add (Int.toNat x6 * 1)) A1)) :: (.int .u8 x22) :: (u26 0) :: (u26 1) :: (u26 2) :: (u26 3) :: (u26 4) :: (u26 5) :: (u26 6) :: (u26 7) :: (u26 8) :: (u26 9) :: (u26 10) :: (u26 11) :: (u26 12) :: (u26 13) :: (u5 25) :: (u5 26) :: (u5 27) :: (u5 28) :: (u5 29) :: (u5 30) :: (u5 31) :: (u5 32) :: (u5 33) :: (u5 34) :: (u5 35) :: (u5 36) :: (u5 37) :: []).toArray, []⟩ ∧ x27 = c28 ∧ St [] wb7 w []) ?_ ?_
    ·refine gx_block ?_
     refine gx_loop (fun k a w => ∃ (x34 : Int) (u33 : Nat → Value), a = ⟨((.func (.yield l) #[] #[]) :: (.pointer (some ⟨g1, 0, none⟩)) :: undef :: (.int .i64 x34) :: (.int .i64 x6) :: (.int .u8 x22) :: (.int .i64 x6) :: (.slice A1 p1.length c1) :: (.int .i64 ((p1.length : Nat) : Int)) :: (.bool true) :: (.int .i64 x6) :: (.slice A1 p1.length c1) :: (.int .i64 x6) :: (.pointer (Option.map (fun p => p.add (Int.toNat x6 * 1)) A1)) :: (.int .u8 x22) :: (u33 0) :: (u33 1) :: (u33 2) :: (u33 3) :: (u33 4) :: (u33 5) :: (u33 6) :: (u33 7) :: (u33 8) :: (u33 9) :: (u33 10) :: (u33 11) :: (u33 12) :: (u33 13) :: (u5 25) :: (u5 26) :: (u5 27) :: (u5 28) :: (u5 29) :: (u5 30) :: (u5 31) :: (u5 32) :: (u5 33) :: (u5 34) :: (u5 35) :: (u5 36) :: (u5 37) :: []).toArray, []⟩ ∧ cRows1_L2 N p1 x22 k x34 = some c28 ∧ St [] wb7 w []) N ?_ ?_
     ·exact ⟨x6, (fun i => List.getD ((u5 11) :: (u5 12) :: (u5 13) :: (u5 14) :: (u5 15) :: (u5 16) :: (u5 17) :: (u5 18) :: (u5 19) :: (u5 20) :: (u5 21) :: (u5 22) :: (u5 23) :: (u5 24) :: []) i undef), by kernel_rfl, hE29, hS21⟩
     ·rintro k35 _ w31 ⟨x34, u33, rfl, hL36, hS32⟩
      cases k35 with
      | zero => cases hL36
      | succ k35 =>
       rw [cRows1_L2] at hL36
       refine gx_seq (fun K37 hK38 => ?_)
       refine gx_seq (fun K39 hK40 => ?_)
       refine gx_region ?_
       refine gx_k (.int .i64 x34) w31 ?_
       refine gx_v (.slice A1 p1.length c1) w31 (run_load1 rfl (by kernel_rfl) (fun _ => by kernel_rfl) (hS32.read hk10.1 0 rfl)) ?_
       refine gx_k (.int .i64 ((p1.length : Nat) : Int)) w31 ?_
       rcases if_in hL36 with ⟨h41, hL36⟩ | ⟨h41, hL36⟩
       ·refine gx_v (.bool true) w31 (run_boolE (decide_eq_true h41) (by kernel_rfl)) ?_
        refine gx_k (.bool true) w31 ?_
        refine gx_v (.slice A1 p1.length c1) w31 (run_load1 rfl (by kernel_rfl) (fun _ => by kernel_rfl) (hS32.read hk10.1 0 rfl)) ?_
        refine gx_k (.int .i64 x34) w31 ?_
        obtain ⟨x42, hx43, hL36⟩ := bind_in hL36
        refine gx_v (.pointer (Option.map (fun p => p.add (Int.toNat x34 * 1)) A1)) w31 (run_ixaddr (E := 5) (s := 1) (k := .i64) (c := c1) rfl (by kernel_rfl) (by kernel_rfl) (by kernel_rfl) (fun _ => by kernel_rfl) (ix_in hx43).1 (ix_in hx43).2.1 (num_nil (hS32.view (Vw.of hk10.2 hn1)))) ?_
        refine gx_v (.int .u8 x42) w31 (run_loadix rfl (by kernel_rfl) (fun _ => by kernel_rfl) (hS32.view (Vw.of hk10.2 hn1)) hx43) ?_
        refine gx_k (.int .u8 x22) w31 ?_
        rcases if_in hL36 with ⟨h44, hL36⟩ | ⟨h44, hL36⟩
        ·refine gx_v (.bool true) w31 (run_boolE (decide_eq_true h44) (by kernel_rfl)) ?_
         refine gx_k (.bool true) w31 ?_
         refine gx_nil ?_
         refine gx_thenN ?_
         refine hK40 _ _ ?_
         refine gx_yes (by kernel_rfl) ?_
         refine gx_pass ?_
         refine gx_thenN ?_
         refine hK38 _ _ ?_
         refine gx_block ?_
         refine gx_region ?_
         refine gx_k (.int .i64 x34) w31 (gx_k (.int .i64 (IntKind.i64.wrap (x34 + 1))) w31 (gx_k (.int .i64 (IntKind.i64.wrap (x34 + 1))) w31 ?_))
         refine gx_nil ?_
         refine gx_blkN ?_
         refine gx_thenN ?_
         exact ⟨k35, Nat.lt_succ_self k35, (IntKind.i64.wrap (x34 + 1)), (fun i => List.getD ((.int .i64 x34) :: (.slice A1 p1.length c1) :: (.int .i64 ((p1.length : Nat) : Int)) :: (.bool true) :: (.bool true) :: (.slice A1 p1.length c1) :: (.int .i64 x34) :: (.pointer (Option.map (fun p => p.add (Int.toNat x34 * 1)) A1)) :: (.int .u8 x42) :: (.int .u8 x22) :: (.bool true) :: (.bool true) :: (.int .i64 x34) :: (.int .i64 (IntKind.i64.wrap (x34 + 1))) :: []) i undef), by kernel_rfl, hL36, hS32⟩
        ·refine gx_v (.bool false) w31 (run_boolE (decide_eq_false h44) (by kernel_rfl)) ?_
         refine gx_k (.bool false) w31 ?_
         refine gx_nil ?_
         refine gx_thenN ?_
         refine hK40 _ _ ?_
         refine gx_no (by kernel_rfl) ?_
         refine gx_exit ?_
         refine gx_thenE ?_
         refine gx_thenE ?_
         refine gx_blkE ?_
         refine gx_thenN ?_
         exact ⟨x34, (fun i => List.getD ((.int .i64 x34) :: (.slice A1 p1.length c1) :: (.int .i64 ((p1.length : Nat) : Int)) :: (.bool true) :: (.bool true) :: (.slice A1 p1.length c1) :: (.int .i64 x34) :: (.pointer (Option.map (fun p => p.add (Int.toNat x34 * 1)) A1)) :: (.int .u8 x42) :: (.int .u8 x22) :: (.bool false) :: (.bool false) :: (u33 12) :: (u33 13) :: []) i undef), by kernel_rfl, (Option.some.inj hL36), hS32⟩
       ·refine gx_v (.bool false) w31 (run_boolE (decide_eq_false h41) (by kernel_rfl)) ?_
        refine gx_k (.bool false) w31 (gx_o (gx_o (gx_o (gx_o (gx_o (gx_o (gx_k (.bool false) w31 ?_)))))))
        refine gx_nil ?_
        refine gx_thenN ?_
        refine hK40 _ _ ?_
        refine gx_no (by kernel_rfl) ?_
        refine gx_exit ?_
        refine gx_thenE ?_
        refine gx_thenE ?_
        refine gx_blkE ?_
        refine gx_thenN ?_
        exact ⟨x34, (fun i => List.getD ((.int .i64 x34) :: (.slice A1 p1.length c1) :: (.int .i64 ((p1.length : Nat) : Int)) :: (.bool false) :: (.bool false) :: undef :: undef :: undef :: undef :: undef :: undef :: (.bool false) :: (u33 12) :: (u33 13) :: []) i undef), by kernel_rfl, (Option.some.inj hL36), hS32⟩
    ·rintro _ w24 ⟨x27, u26, rfl, rfl, hS25⟩
     try dsimp only at hO30
     refine gx_seq (fun K45 hK46 => ?_)
     refine gx_region ?_
     refine gx_k (.int .u8 x22) w24 ?_
     rcases if_in hO30 with ⟨h47, hO30⟩ | ⟨h47, hO30⟩
     ·refine gx_v (.bool true) w24 (run_boolE (ne_yes h47) (by kernel_rfl)) ?_
      refine gx_k (.bool true) w24 (gx_k (.func (.yield l) #[] #[]) w24 (gx_k (.int .i64 x6) w24 (gx_k (.int .i64 x27) w24 (gx_k (.int .i64 (IntKind.i64.wrap (x27 - 1))) w24 (gx_k (.int .u8 x22) w24 (gx_k (.int .i64 (IntKind.i64.wrap x22)) w24 (gx_k (.agg #[.int .i64 x6, .int .i64 (IntKind.i64.wrap (x27 - 1)), .int .i64 (IntKind.i64.wrap x22)]) w24 ?_)))))))
      obtain ⟨its48, hO30, hq49⟩ := Option.map_eq_some_iff.1 hO30
      rw [← hq49] at hJ9
      refine gx_yield (fun v w => (v = .bool true ∧ J its48 w ∧ (cRows1_kp g1 A1 c1 p1) w) ∨ (v = .bool false ∧ Jx w ∧ (cRows1_kp g1 A1 c1 p1) w)) (by kernel_rfl) (run_yieldcall rfl (by kernel_rfl) (by kernel_rfl)) (yield_out (hY _ _ _ (hab _ _ _ hJ9 hS25.below) (cRows1_kp_ab hk10 hS25.below))) ?_
      rintro _ w50 (⟨rfl, hJ51, hk52⟩ | ⟨rfl, hx53, hk52⟩)
      ·have hS54 := St.start w50
       refine gx_k (.bool false) w50 (gx_k (.bool false) w50 ?_)
       refine gx_nil ?_
       refine gx_thenN ?_
       refine hK46 _ _ ?_
       refine gx_no (by kernel_rfl) ?_
       refine gx_pass ?_
       refine gx_blkN ?_
       refine gx_thenN ?_
       exact ⟨k11, Nat.lt_succ_self k11, x27, w50, its48, (fun i => List.getD ((.int .i64 x6) :: (.int .u8 x22) :: (.int .i64 x6) :: (.slice A1 p1.length c1) :: (.int .i64 ((p1.length : Nat) : Int)) :: (.bool true) :: (.int .i64 x6) :: (.slice A1 p1.length c1) :: (.int .i64 x6) :: (.pointer (Option.map (fun p => p.add (Int.toNat x6 * 1)) A1)) :: (.int .u8 x22) :: (u26 0) :: (u26 1) :: (u26 2) :: (u26 3) :: (u26 4) :: (u26 5) :: (u26 6) :: (u26 7) :: (u26 8) :: (u26 9) :: (u26 10) :: (u26 11) :: (u26 12) :: (u26 13) :: (.int .u8 x22) :: (.bool true) :: (.bool true) :: (.func (.yield l) #[] #[]) :: (.int .i64 x6) :: (.int .i64 x27) :: (.int .i64 (IntKind.i64.wrap (x27 - 1))) :: (.int .u8 x22) :: (.int .i64 (IntKind.i64.wrap x22)) :: (.agg #[.int .i64 x6, .int .i64 (IntKind.i64.wrap (x27 - 1)), .int .i64 (IntKind.i64.wrap x22)]) :: (.bool true) :: (.bool false) :: (.bool false) :: []) i undef), by kernel_rfl, hO30, hS54, hJ51, hk52⟩
      ·have hS54 := St.start w50
       refine gx_k (.bool true) w50 (gx_k (.bool true) w50 ?_)
       refine gx_nil ?_
       refine gx_thenN ?_
       refine hK46 _ _ ?_
       refine gx_yes (by kernel_rfl) ?_
       refine gx_ret ?_
       refine gx_blkR ?_
       refine gx_thenR ?_
       refine gx_blkR ?_
       exact gx_fin (.tuple #[]) (by kernel_rfl) (by kernel_rfl) ⟨⟨_, rfl⟩, .inr (habx _ _ hx53 hS54.below)⟩
     ·refine gx_v (.bool false) w24 (run_boolE (ne_no h47) (by kernel_rfl)) ?_
      refine gx_k (.bool false) w24 (gx_o (gx_o (gx_o (gx_o (gx_o (gx_o (gx_o ?_)))))))
      refine gx_o (gx_o (gx_k (.bool false) w24 ?_))
      refine gx_nil ?_
      refine gx_thenN ?_
      refine hK46 _ _ ?_
      refine gx_no (by kernel_rfl) ?_
      refine gx_pass ?_
      refine gx_blkN ?_
      refine gx_thenN ?_
      exact ⟨k11, Nat.lt_succ_self k11, x27, wb7, its8, (fun i => List.getD ((.int .i64 x6) :: (.int .u8 x22) :: (.int .i64 x6) :: (.slice A1 p1.length c1) :: (.int .i64 ((p1.length : Nat) : Int)) :: (.bool true) :: (.int .i64 x6) :: (.slice A1 p1.length c1) :: (.int .i64 x6) :: (.pointer (Option.map (fun p => p.add (Int.toNat x6 * 1)) A1)) :: (.int .u8 x22) :: (u26 0) :: (u26 1) :: (u26 2) :: (u26 3) :: (u26 4) :: (u26 5) :: (u26 6) :: (u26 7) :: (u26 8) :: (u26 9) :: (u26 10) :: (u26 11) :: (u26 12) :: (u26 13) :: (.int .u8 x22) :: (.bool false) :: (.bool false) :: undef :: undef :: undef :: undef :: undef :: undef :: undef :: undef :: undef :: (.bool false) :: []) i undef), by kernel_rfl, hO30, hS25, hJ9, hk10⟩
   ·refine gx_v (.bool false) w3 (run_boolE (decide_eq_false h17) (by kernel_rfl)) ?_
    refine gx_nil ?_
    refine gx_thenN ?_
    refine hK16 _ _ ?_
    refine gx_no (by kernel_rfl) ?_
    refine gx_exit ?_
    refine gx_thenE ?_
    refine gx_thenE ?_
    refine gx_blkE ?_
    obtain rfl := Option.some.inj hL12
    exact gx_finN (.tuple #[]) (by kernel_rfl) (by kernel_rfl) ⟨⟨_, rfl⟩, .inl (hab _ _ _ hJ9 hS4.below)⟩

end Go.Proofs.Ytcleaepcjbfmhaa
