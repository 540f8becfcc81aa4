/-
  The program, walked.
-/
import Derived.Test.YtkcmemldhbifdaaDoorUc
import Derived.Test.YtkcmemldhbifdaaDoorGr
import Derived.Test.YtkcmemldhbifdaaDoorBa
namespace Go.Proofs.YtkcmemldhbifdaaDoor
open Go Go.RowKit
set_option linter.unusedVariables false
def pOwn (N : Nat) (p0 : Int) : Option (Int) :=
 ((ucSc N p0).bind fun x9 => (if x9 ≠ 1 then some x9 else some 0))
set_option linter.unusedVariables false in
def pOwn_R (r : Int) (w0 : World) (v : Value) (w : World) : Prop := v = .int .u8 r ∧ St [] w0 w []
set_option maxRecDepth 100000 in
set_option maxHeartbeats 4000000 in
theorem pOwn_ok (N : Nat) (p0 : Int)  (r : Int) (hF : pOwn N p0 = some r) (w0 : World)  :
  Calls Tryd.prog 35 #[.int .i32 p0] w0 fun e w => ∃ v, e = .returned v ∧ pOwn_R r w0 v w := by
 have hS0 := St.start w0
 unfold pOwn at hF
 refine calls_of Tryd.func35 rfl ⟨((.int .i32 p0) :: un 8 ([])).toArray, []⟩ (by kernel_rfl) ?_
 refine gx_seq (fun K1 hK2 => ?_)
 refine gx_region ?_
 refine gx_k (.int .u8 0) w0 ?_
 refine gx_nil ?_
 refine gx_thenN ?_
 refine hK2 _ _ ?_
 refine gx_seq (fun K3 hK4 => ?_)
 refine gx_seq (fun K5 hK6 => ?_)
 refine gx_region ?_
 refine gx_k (.int .i32 p0) w0 ?_
 have hP7 : St _ _ w0 ([] ++ []) := hS0
 obtain ⟨x9, hc8, hF⟩ := bind_in hF
 try dsimp only at hF
 refine gx_c (ucSc_R x9 w0) (ucSc_ok N p0 _ hc8 w0 ) ?_
 rintro _ w10 ⟨rfl, hT12⟩
 have hS11 : St _ _ w10 [] := hS0.take _ hT12
 refine gx_k (.int .u8 x9) w10 ?_
 refine gx_nil ?_
 refine gx_thenN ?_
 refine hK6 _ _ ?_
 refine gx_seq (fun K13 hK14 => ?_)
 refine gx_region ?_
 refine gx_k (.int .u8 x9) w10 ?_
 rcases if_in hF with ⟨h15, hF⟩ | ⟨h15, hF⟩
 ·refine gx_v (.bool true) w10 (run_boolE (ne_yes h15) (by kernel_rfl)) ?_
  refine gx_nil ?_
  refine gx_thenN ?_
  refine hK14 _ _ ?_
  refine gx_yes (by kernel_rfl) ?_
  refine gx_seq (fun K16 hK17 => ?_)
  refine gx_region ?_
  refine gx_k (.int .u8 x9) w10 (gx_k (.int .u8 x9) w10 ?_)
  refine gx_nil ?_
  refine gx_thenN ?_
  refine hK17 _ _ ?_
  refine gx_ret ?_
  refine gx_thenR ?_
  obtain rfl := Option.some.inj hF
  exact gx_fin (.int .u8 x9) (by kernel_rfl) (by kernel_rfl) ⟨_, rfl, rfl, hS11⟩
 ·refine gx_v (.bool false) w10 (run_boolE (ne_no h15) (by kernel_rfl)) ?_
  refine gx_nil ?_
  refine gx_thenN ?_
  refine hK14 _ _ ?_
  refine gx_no (by kernel_rfl) ?_
  refine gx_pass ?_
  refine gx_thenN ?_
  refine hK4 _ _ ?_
  refine gx_seq (fun K18 hK19 => ?_)
  refine gx_region ?_
  refine gx_k (.int .u8 0) w10 ?_
  refine gx_nil ?_
  refine gx_thenN ?_
  refine hK19 _ _ ?_
  refine gx_ret ?_
  obtain rfl := Option.some.inj hF
  exact gx_fin (.int .u8 0) (by kernel_rfl) (by kernel_rfl) ⟨_, rfl, rfl, hS11⟩
def pFst_L1 (N : Nat) (p0 : List Int) : Nat → Int → Option (Ctl (Unit) (Int))
 | 0, _ => none
 | k15+1, x14 => (if x14 < ((p0.length : Nat) : Int) then ((ix p0 x14).bind fun x26 => ((pOwn N x26).bind fun x32 => (if x32 ≠ 0 then some (Ctl.ret x32) else pFst_L1 N p0 k15 (IntKind.i64.wrap (x14 + 1))))) else some (Ctl.go ()))
def pFst (N : Nat) (p0 : List Int) : Option (Int) :=
 ((pFst_L1 N p0 N 0 : Option (Ctl (Unit) (Int))).bind fun | Ctl.go () => some 0 | Ctl.ret r => some r)
set_option linter.unusedVariables false in
def pFst_R (r : Int) (w0 : World) (v : Value) (w : World) : Prop := v = .int .u8 r ∧ St [] w0 w []
set_option maxRecDepth 100000 in
set_option maxHeartbeats 4000000 in
theorem pFst_ok (N : Nat) (p0 : List Int) (A0 : Option Addr) (c0 : Nat) (r : Int) (hF : pFst N p0 = some r) (w0 : World) (hv0 : Vw [] .i32 w0 A0 c0 p0) :
  Calls Tryd.prog 29 #[.slice A0 p0.length c0] w0 fun e w => ∃ v, e = .returned v ∧ pFst_R r w0 v w := by
 have hS0 := St.start w0
 unfold pFst at hF
 refine calls_of Tryd.func29 rfl ⟨((.slice A0 p0.length c0) :: un 17 ([])).toArray, []⟩ (by kernel_rfl) ?_
 refine gx_seq (fun K1 hK2 => ?_)
 refine gx_region ?_
 refine gx_k (.int .u8 0) w0 ?_
 refine gx_nil ?_
 refine gx_thenN ?_
 refine hK2 _ _ ?_
 obtain ⟨c6, hE7, hO8⟩ := bind_in hF
 refine gx_cut (fun a w => selfA (fun u5 => ⟨((u5 0) :: undef :: (u5 2) :: undef :: dd u5 4 14 ([])).toArray, []⟩) a ∧ Ctl.go () = c6 ∧ St [] w0 w []) ?_ ?_
 ·refine gx_seq (fun K9 hK10 => ?_)
  refine gx_region ?_
  refine gx_k (.slice A0 p0.length c0) w0 (gx_k (.int .i64 ((p0.length : Nat) : Int)) w0 (gx_k (.int .i64 0) w0 ?_))
  refine gx_nil ?_
  refine gx_thenN ?_
  refine hK10 _ _ ?_
  refine gx_block ?_
  refine gx_loop (fun k a w => ∃ (x14 : Int), selfA (fun u13 => ⟨((u13 0) :: undef :: (u13 2) :: undef :: dd u13 4 2 ((.slice A0 p0.length c0) :: (.int .i64 ((p0.length : Nat) : Int)) :: (.int .i64 x14) :: dd u13 9 9 ([]))).toArray, []⟩) a ∧ pFst_L1 N p0 k x14 = some c6 ∧ St [] w0 w []) N ?_ ?_
  ·exact ⟨0, selfA_i (by kernel_rfl), hE7, hS0⟩
  ·rintro k15 _ w11 ⟨x14, hq43, hL16, hS12⟩
   obtain ⟨u13, rfl⟩ := selfA_u hq43
   cases k15 with
   | zero => cases hL16
   | succ k15 =>
    first | rw [pFst_L1] at hL16 | unfold pFst_L1 at hL16
    refine gx_seq (fun K17 hK18 => ?_)
    refine gx_region ?_
    rcases if_in hL16 with ⟨h19, hL16⟩ | ⟨h19, hL16⟩
    ·refine gx_v (.bool true) w11 (run_boolE (decide_eq_true h19) (by kernel_rfl)) ?_
     refine gx_nil ?_
     refine gx_thenN ?_
     refine hK18 _ _ ?_
     refine gx_seq (fun K20 hK21 => ?_)
     refine gx_yes (by kernel_rfl) ?_
     refine gx_pass ?_
     refine gx_thenN ?_
     refine hK21 _ _ ?_
     refine gx_seq (fun K22 hK23 => ?_)
     refine gx_block ?_
     refine gx_seq (fun K24 hK25 => ?_)
     refine gx_region ?_
     obtain ⟨x26, hx27, hL16⟩ := bind_in hL16
     refine gx_v (.pointer (Option.map (fun (p : Addr) => p.add (Int.toNat x14 * 1)) A0)) w11 (run_ixaddr (E := 21) (s := 1) (k := .i64) (c := c0) rfl (by kernel_rfl) (by kernel_rfl) (by kernel_rfl) (fun _ => by kernel_rfl) (ix_in hx27).1 (ix_in hx27).2.1 (num_nil (hS12.view hv0))) ?_
     refine gx_v (.int .i32 x26) w11 (run_loadix rfl (by kernel_rfl) (fun _ => by kernel_rfl) (hS12.view hv0) hx27) ?_
     refine gx_k (.int .i32 x26) w11 ?_
     refine gx_nil ?_
     refine gx_thenN ?_
     refine hK25 _ _ ?_
     refine gx_seq (fun K28 hK29 => ?_)
     refine gx_region ?_
     refine gx_k (.int .i32 x26) w11 ?_
     have hP30 : St _ _ w11 ([] ++ []) := hS12
     obtain ⟨x32, hc31, hL16⟩ := bind_in hL16
     try dsimp only at hL16
     refine gx_c (pOwn_R x32 w11) (pOwn_ok N x26 _ hc31 w11 ) ?_
     rintro _ w33 ⟨rfl, hT35⟩
     have hS34 : St _ _ w33 [] := hS12.take _ hT35
     refine gx_k (.int .u8 x32) w33 ?_
     refine gx_nil ?_
     refine gx_thenN ?_
     refine hK29 _ _ ?_
     refine gx_seq (fun K36 hK37 => ?_)
     refine gx_region ?_
     refine gx_k (.int .u8 x32) w33 ?_
     rcases if_in hL16 with ⟨h38, hL16⟩ | ⟨h38, hL16⟩
     ·refine gx_v (.bool true) w33 (run_boolE (ne_yes h38) (by kernel_rfl)) ?_
      refine gx_nil ?_
      refine gx_thenN ?_
      refine hK37 _ _ ?_
      refine gx_yes (by kernel_rfl) ?_
      refine gx_seq (fun K39 hK40 => ?_)
      refine gx_region ?_
      refine gx_k (.int .u8 x32) w33 (gx_k (.int .u8 x32) w33 ?_)
      refine gx_nil ?_
      refine gx_thenN ?_
      refine hK40 _ _ ?_
      refine gx_ret ?_
      refine gx_blkR ?_
      refine gx_thenR ?_
      refine gx_thenR ?_
      refine gx_blkR ?_
      refine gx_thenR ?_
      obtain rfl := Option.some.inj hL16
      try dsimp only at hO8
      obtain rfl := Option.some.inj hO8
      exact gx_fin (.int .u8 x32) (by kernel_rfl) (by kernel_rfl) ⟨_, rfl, rfl, hS34⟩
     ·refine gx_v (.bool false) w33 (run_boolE (ne_no h38) (by kernel_rfl)) ?_
      refine gx_nil ?_
      refine gx_thenN ?_
      refine hK37 _ _ ?_
      refine gx_no (by kernel_rfl) ?_
      refine gx_pass ?_
      refine gx_blkN ?_
      refine gx_thenN ?_
      refine hK23 _ _ ?_
      refine gx_region ?_
      refine gx_k (.int .i64 (IntKind.i64.wrap (x14 + 1))) w33 (gx_k (.int .i64 (IntKind.i64.wrap (x14 + 1))) w33 ?_)
      refine gx_nil ?_
      refine gx_thenN ?_
      exact ⟨k15, Nat.lt_succ_self k15, (IntKind.i64.wrap (x14 + 1)), selfA_i (by kernel_rfl), hL16, hS34⟩
    ·refine gx_v (.bool false) w11 (run_boolE (decide_eq_false h19) (by kernel_rfl)) ?_
     refine gx_nil ?_
     refine gx_thenN ?_
     refine hK18 _ _ ?_
     refine gx_seq (fun K41 hK42 => ?_)
     refine gx_no (by kernel_rfl) ?_
     refine gx_exit ?_
     refine gx_thenE ?_
     refine gx_thenE ?_
     refine gx_blkE ?_
     refine gx_thenN ?_
     exact ⟨selfA_i (by kernel_rfl), (Option.some.inj hL16), hS12⟩
 ·rintro _ w3 ⟨hq46, rfl, hS4⟩
  obtain ⟨u5, rfl⟩ := selfA_u hq46
  try dsimp only at hO8
  refine gx_seq (fun K44 hK45 => ?_)
  refine gx_region ?_
  refine gx_k (.int .u8 0) w3 ?_
  refine gx_nil ?_
  refine gx_thenN ?_
  refine hK45 _ _ ?_
  refine gx_ret ?_
  obtain rfl := Option.some.inj hO8
  exact gx_fin (.int .u8 0) (by kernel_rfl) (by kernel_rfl) ⟨_, rfl, rfl, hS4⟩
def pParts (_N : Nat) : Option (Unit) :=
 some ()
def pParts_R (A0 : Option Addr) (n0 : Nat) (c0 : Nat) (_r : Unit) (w0 : World) (v : Value) (w : World) : Prop := ∃ (g0' : Nat), v = .func (.func 27) #[] #[.pointer (some ⟨g0', 0, none⟩)] ∧ St [] w0 w [boxE g0' [.slice A0 n0 c0] 22]
set_option maxRecDepth 100000 in
set_option maxHeartbeats 4000000 in
theorem pParts_ok (N : Nat) (A0 : Option Addr) (n0 c0 : Nat) (r : Unit) (hF : pParts N = some r) (w0 : World)  :
  Calls Tryd.prog 20 #[.slice A0 n0 c0] w0 fun e w => ∃ v, e = .returned v ∧ pParts_R A0 n0 c0 r w0 v w := by
 have hS0 := St.start w0
 unfold pParts at hF
 refine calls_of Tryd.func20 rfl ⟨((.slice A0 n0 c0) :: un 3 ([])).toArray, []⟩ (by kernel_rfl) ?_
 refine gx_seq (fun K1 hK2 => ?_)
 refine gx_region ?_
 refine gx_r (st_boxed [.slice A0 n0 c0] 22 hS0 (by kernel_rfl)) ?_
 rintro _ w3 ⟨rfl, hS4⟩
 have hS4 : St _ _ w3 [boxE w0.heap.size [.slice A0 n0 c0] 22] := hS4
 refine gx_k (Value.nilFunc) w3 ?_
 refine gx_nil ?_
 refine gx_thenN ?_
 refine hK2 _ _ ?_
 refine gx_seq (fun K5 hK6 => ?_)
 refine gx_region ?_
 refine gx_k (.func (.func 27) #[] #[.pointer (some ⟨w0.heap.size, 0, none⟩)]) w3 (gx_k (.func (.func 27) #[] #[.pointer (some ⟨w0.heap.size, 0, none⟩)]) w3 ?_)
 refine gx_nil ?_
 refine gx_thenN ?_
 refine hK6 _ _ ?_
 refine gx_ret ?_
 obtain rfl := Option.some.inj hF
 exact gx_fin (.func (.func 27) #[] #[.pointer (some ⟨w0.heap.size, 0, none⟩)]) (by kernel_rfl) (by kernel_rfl) ⟨_, rfl, w0.heap.size, rfl, hS4⟩
def encint_int (x : Int × Int) : Array Value := #[.int .i64 x.1, .int .i64 x.2]
def pParts1_L1 (N : Nat) (p1 : List Int) : Nat → Int → Int → Option (List (Int × Int))
 | 0, _, _ => none
 | k14+1, x8, x9 => (if x9 < ((p1.length : Nat) : Int) then ((ix p1 x9).bind fun x25 => ((ucCl N x25).bind fun x37 => (if x37 ≠ 11 then (if (IntKind.i64.wrap (x9 + 1)) < ((p1.length : Nat) : Int) then pParts1_L1 N p1 k14 x8 (IntKind.i64.wrap (x9 + 1)) else (Option.map (fun is => (x8, (IntKind.i64.wrap (x9 + 1))) :: is) (pParts1_L1 N p1 k14 (IntKind.i64.wrap (x9 + 1)) (IntKind.i64.wrap (x9 + 1))))) else (Option.map (fun is => (x8, (IntKind.i64.wrap (x9 + 1))) :: is) (pParts1_L1 N p1 k14 (IntKind.i64.wrap (x9 + 1)) (IntKind.i64.wrap (x9 + 1))))))) else some [])
def pParts1 (N : Nat) (p1 : List Int) : Option (List (Int × Int)) :=
 pParts1_L1 N p1 N 0 0
def pParts1_kp (g1 : Nat) (A1 : Option Addr) (c1 : Nat) (p1 : List Int) (W : World) : Prop := W.heap[g1]? = some (.cells [.slice A1 p1.length c1].toArray 22 (0, 0)) ∧ NumZ .i32 W (.slice A1 p1.length c1) p1
theorem pParts1_kp_ab {g1 : Nat} {A1 : Option Addr} {c1 : Nat} {p1 : List Int} {W W' : World} (hk : pParts1_kp g1 A1 c1 p1 W) (hb : Below W.heap.size W W') : pParts1_kp g1 A1 c1 p1 W' := ⟨(hb.block _ (own_row_lt hk.1)).trans hk.1, hk.2.below hb⟩
set_option maxRecDepth 100000 in
set_option maxHeartbeats 4000000 in
theorem pParts1_iter (N : Nat) (p1 : List Int) (items : List (Int × Int)) (hF : pParts1 N p1 = some items) (g1 : Nat) (A1 : Option Addr) (c1 : Nat) (hn1 : A1 = none → c1 = 0) : Iter Tryd.prog (.func (.func 27) #[] #[.pointer (some ⟨g1, 0, none⟩)]) encint_int items (pParts1_kp g1 A1 c1 p1) := by
 refine ⟨_, _, rfl, fun _ _ => by kernel_rfl, ?_⟩
 intro n l J Jx W hab habx hY hk hJ
 have hS0 := St.start W
 unfold pParts1 at hF
 refine callsin_of Tryd.func27 rfl ⟨((.func (.yield l) #[] #[]) :: (.pointer (some ⟨g1, 0, none⟩)) :: un 30 ([])).toArray, []⟩ (by kernel_rfl) ?_
 refine gx_seq (fun K1 hK2 => ?_)
 refine gx_region ?_
 refine gx_k (.int .i64 0) W ?_
 refine gx_nil ?_
 refine gx_thenN ?_
 refine hK2 _ _ ?_
 refine gx_seq (fun K3 hK4 => ?_)
 refine gx_region ?_
 refine gx_v (.slice A1 p1.length c1) W (run_load1 rfl (by kernel_rfl) (fun _ => by kernel_rfl) (hS0.read hk.1 0 rfl)) ?_
 refine gx_k (.int .i64 ((p1.length : Nat) : Int)) W (gx_k (.int .i64 0) W ?_)
 refine gx_nil ?_
 refine gx_thenN ?_
 refine hK4 _ _ ?_
 refine gx_block ?_
 refine gx_loop (fun k a w => ∃ (x8 : Int) (x9 : Int) (wb10 : World) (its11 : List (Int × Int)) (u7 : Nat → Value), a = ⟨((.func (.yield l) #[] #[]) :: (.pointer (some ⟨g1, 0, none⟩)) :: undef :: (.int .i64 x8) :: dd u7 0 3 ((.slice A1 p1.length c1) :: (.int .i64 ((p1.length : Nat) : Int)) :: (.int .i64 x9) :: dd u7 3 22 ([]))).toArray, []⟩ ∧ pParts1_L1 N p1 k x8 x9 = some its11 ∧ St [] wb10 w [] ∧ J its11 wb10 ∧ (pParts1_kp g1 A1 c1 p1) wb10) N ?_ ?_
 ·exact ⟨0, 0, W, items, (fun i => List.getD (undef :: undef :: undef :: undef :: undef :: undef :: undef :: undef :: undef :: undef :: undef :: undef :: undef :: undef :: undef :: undef :: undef :: undef :: undef :: undef :: undef :: undef :: undef :: undef :: undef :: []) i undef), by kernel_rfl, hF, hS0, hJ, hk⟩
 ·rintro k14 _ w5 ⟨x8, x9, wb10, its11, u7, rfl, hL15, hS6, hJ12, hk13⟩
  cases k14 with
  | zero => cases hL15
  | succ k14 =>
   first | rw [pParts1_L1] at hL15 | unfold pParts1_L1 at hL15
   refine gx_seq (fun K16 hK17 => ?_)
   refine gx_region ?_
   rcases if_in hL15 with ⟨h18, hL15⟩ | ⟨h18, hL15⟩
   ·refine gx_v (.bool true) w5 (run_boolE (decide_eq_true h18) (by kernel_rfl)) ?_
    refine gx_nil ?_
    refine gx_thenN ?_
    refine hK17 _ _ ?_
    refine gx_seq (fun K19 hK20 => ?_)
    refine gx_yes (by kernel_rfl) ?_
    refine gx_pass ?_
    refine gx_thenN ?_
    refine hK20 _ _ ?_
    refine gx_seq (fun K21 hK22 => ?_)
    refine gx_block ?_
    refine gx_seq (fun K23 hK24 => ?_)
    refine gx_region ?_
    refine gx_k (.int .i64 x9) w5 ?_
    obtain ⟨x25, hx26, hL15⟩ := bind_in hL15
    refine gx_v (.pointer (Option.map (fun (p : Addr) => p.add (Int.toNat x9 * 1)) A1)) w5 (run_ixaddr (E := 21) (s := 1) (k := .i64) (c := c1) rfl (by kernel_rfl) (by kernel_rfl) (by kernel_rfl) (fun _ => by kernel_rfl) (ix_in hx26).1 (ix_in hx26).2.1 (num_nil (hS6.view (Vw.of hk13.2 hn1)))) ?_
    refine gx_v (.int .i32 x25) w5 (run_loadix rfl (by kernel_rfl) (fun _ => by kernel_rfl) (hS6.view (Vw.of hk13.2 hn1)) hx26) ?_
    refine gx_k (.int .i64 x9) w5 (gx_k (.int .i32 x25) w5 ?_)
    refine gx_nil ?_
    refine gx_thenN ?_
    refine hK24 _ _ ?_
    refine gx_seq (fun K27 hK28 => ?_)
    refine gx_region ?_
    refine gx_k (.int .i64 x9) w5 (gx_k (.int .i64 (IntKind.i64.wrap (x9 + 1))) w5 (gx_k (.int .i64 (IntKind.i64.wrap (x9 + 1))) w5 ?_))
    refine gx_nil ?_
    refine gx_thenN ?_
    refine hK28 _ _ ?_
    refine gx_seq (fun K29 hK30 => ?_)
    refine gx_seq (fun K31 hK32 => ?_)
    refine gx_region ?_
    refine gx_k (.int .i32 x25) w5 ?_
    obtain ⟨x37, hc34, hL15⟩ := bind_in hL15
    try dsimp only at hL15
    refine gx_c (ucCl_R  x37 w5) (ucCl_ok N x25 _ hc34 w5 ) ?_
    rintro _ w35 ⟨rfl, hT38⟩
    have hS36 : St _ _ w35 [] := hS6.take _ hT38
    rcases if_in hL15 with ⟨h39, hL15⟩ | ⟨h39, hL15⟩
    ·refine gx_v (.bool true) w35 (run_boolE (ne_yes h39) (by kernel_rfl)) ?_
     refine gx_k (.bool true) w35 (gx_k (.int .i64 (IntKind.i64.wrap (x9 + 1))) w35 ?_)
     refine gx_v (.slice A1 p1.length c1) w35 (run_load1 rfl (by kernel_rfl) (fun _ => by kernel_rfl) (hS36.read hk13.1 0 rfl)) ?_
     refine gx_k (.int .i64 ((p1.length : Nat) : Int)) w35 ?_
     rcases if_in hL15 with ⟨h40, hL15⟩ | ⟨h40, hL15⟩
     ·refine gx_v (.bool true) w35 (run_boolE (decide_eq_true h40) (by kernel_rfl)) ?_
      refine gx_k (.bool true) w35 ?_
      refine gx_nil ?_
      refine gx_thenN ?_
      refine hK32 _ _ ?_
      refine gx_yes (by kernel_rfl) ?_
      refine gx_exit ?_
      refine gx_thenE ?_
      refine gx_blkE ?_
      refine gx_thenN ?_
      refine hK22 _ _ ?_
      refine gx_region ?_
      refine gx_k (.int .i64 (IntKind.i64.wrap (x9 + 1))) w35 (gx_k (.int .i64 (IntKind.i64.wrap (x9 + 1))) w35 ?_)
      refine gx_nil ?_
      refine gx_thenN ?_
      exact ⟨k14, Nat.lt_succ_self k14, x8, (IntKind.i64.wrap (x9 + 1)), wb10, its11, (fun i => List.getD ((.int .i64 x9) :: (.int .i32 x25) :: (.int .i64 (IntKind.i64.wrap (x9 + 1))) :: (.bool true) :: (.int .i64 x9) :: (.pointer (Option.map (fun (p : Addr) => p.add (Int.toNat x9 * 1)) A1)) :: (.int .i32 x25) :: (.int .i64 x9) :: (.int .i64 (IntKind.i64.wrap (x9 + 1))) :: (.int .i32 x25) :: (.int .u8 x37) :: (.bool true) :: (.bool true) :: (.int .i64 (IntKind.i64.wrap (x9 + 1))) :: (.slice A1 p1.length c1) :: (.int .i64 ((p1.length : Nat) : Int)) :: (.bool true) :: (.bool true) :: (u7 18) :: (u7 19) :: (u7 20) :: (u7 21) :: (u7 22) :: (u7 23) :: (.int .i64 (IntKind.i64.wrap (x9 + 1))) :: []) i undef), by kernel_rfl, hL15, hS36, hJ12, hk13⟩
     ·refine gx_v (.bool false) w35 (run_boolE (decide_eq_false h40) (by kernel_rfl)) ?_
      refine gx_k (.bool false) w35 ?_
      refine gx_nil ?_
      refine gx_thenN ?_
      refine hK32 _ _ ?_
      refine gx_no (by kernel_rfl) ?_
      refine gx_pass ?_
      refine gx_thenN ?_
      refine hK30 _ _ ?_
      refine gx_seq (fun K41 hK42 => ?_)
      refine gx_seq (fun K43 hK44 => ?_)
      refine gx_region ?_
      refine gx_k (.func (.yield l) #[] #[]) w35 (gx_k (.int .i64 x8) w35 (gx_k (.int .i64 (IntKind.i64.wrap (x9 + 1))) w35 ?_))
      obtain ⟨its45, hL15, hq46⟩ := Option.map_eq_some_iff.1 hL15
      rw [← hq46] at hJ12
      refine gx_yield (fun v w => (v = .bool true ∧ J its45 w ∧ (pParts1_kp g1 A1 c1 p1) w) ∨ (v = .bool false ∧ Jx w ∧ (pParts1_kp g1 A1 c1 p1) w)) (by kernel_rfl) (run_yieldcall2 rfl (by kernel_rfl) (by kernel_rfl) (by kernel_rfl)) (yield_out (hY _ _ _ (hab _ _ _ hJ12 hS36.below) (pParts1_kp_ab hk13 hS36.below))) ?_
      rintro _ w47 (⟨rfl, hJ48, hk49⟩ | ⟨rfl, hx50, hk49⟩)
      ·have hS51 := St.start w47
       refine gx_k (.bool false) w47 ?_
       refine gx_nil ?_
       refine gx_thenN ?_
       refine hK44 _ _ ?_
       refine gx_no (by kernel_rfl) ?_
       refine gx_pass ?_
       refine gx_thenN ?_
       refine hK42 _ _ ?_
       refine gx_region ?_
       refine gx_k (.int .i64 (IntKind.i64.wrap (x9 + 1))) w47 (gx_k (.int .i64 (IntKind.i64.wrap (x9 + 1))) w47 ?_)
       refine gx_nil ?_
       refine gx_blkN ?_
       refine gx_thenN ?_
       refine hK22 _ _ ?_
       refine gx_region ?_
       refine gx_k (.int .i64 (IntKind.i64.wrap (x9 + 1))) w47 (gx_k (.int .i64 (IntKind.i64.wrap (x9 + 1))) w47 ?_)
       refine gx_nil ?_
       refine gx_thenN ?_
       exact ⟨k14, Nat.lt_succ_self k14, (IntKind.i64.wrap (x9 + 1)), (IntKind.i64.wrap (x9 + 1)), w47, its45, (fun i => List.getD ((.int .i64 x9) :: (.int .i32 x25) :: (.int .i64 (IntKind.i64.wrap (x9 + 1))) :: (.bool true) :: (.int .i64 x9) :: (.pointer (Option.map (fun (p : Addr) => p.add (Int.toNat x9 * 1)) A1)) :: (.int .i32 x25) :: (.int .i64 x9) :: (.int .i64 (IntKind.i64.wrap (x9 + 1))) :: (.int .i32 x25) :: (.int .u8 x37) :: (.bool true) :: (.bool true) :: (.int .i64 (IntKind.i64.wrap (x9 + 1))) :: (.slice A1 p1.length c1) :: (.int .i64 ((p1.length : Nat) : Int)) :: (.bool false) :: (.bool false) :: (.func (.yield l) #[] #[]) :: (.int .i64 x8) :: (.int .i64 (IntKind.i64.wrap (x9 + 1))) :: (.bool true) :: (.bool false) :: (.int .i64 (IntKind.i64.wrap (x9 + 1))) :: (.int .i64 (IntKind.i64.wrap (x9 + 1))) :: []) i undef), by kernel_rfl, hL15, hS51, hJ48, hk49⟩
      ·have hS51 := St.start w47
       refine gx_k (.bool true) w47 ?_
       refine gx_nil ?_
       refine gx_thenN ?_
       refine hK44 _ _ ?_
       refine gx_yes (by kernel_rfl) ?_
       refine gx_ret ?_
       refine gx_thenR ?_
       refine gx_blkR ?_
       refine gx_thenR ?_
       refine gx_thenR ?_
       refine gx_blkR ?_
       exact gx_fin (.tuple #[]) (by kernel_rfl) (by kernel_rfl) ⟨⟨_, rfl⟩, .inr (habx _ _ hx50 hS51.below)⟩
    ·refine gx_v (.bool false) w35 (run_boolE (ne_no h39) (by kernel_rfl)) ?_
     refine gx_k (.bool false) w35 (gx_o (gx_o (gx_o (gx_o (gx_k (.bool false) w35 ?_)))))
     refine gx_nil ?_
     refine gx_thenN ?_
     refine hK32 _ _ ?_
     refine gx_no (by kernel_rfl) ?_
     refine gx_pass ?_
     refine gx_thenN ?_
     refine hK30 _ _ ?_
     refine gx_seq (fun K52 hK53 => ?_)
     refine gx_seq (fun K54 hK55 => ?_)
     refine gx_region ?_
     refine gx_k (.func (.yield l) #[] #[]) w35 (gx_k (.int .i64 x8) w35 (gx_k (.int .i64 (IntKind.i64.wrap (x9 + 1))) w35 ?_))
     obtain ⟨its56, hL15, hq57⟩ := Option.map_eq_some_iff.1 hL15
     rw [← hq57] at hJ12
     refine gx_yield (fun v w => (v = .bool true ∧ J its56 w ∧ (pParts1_kp g1 A1 c1 p1) w) ∨ (v = .bool false ∧ Jx w ∧ (pParts1_kp g1 A1 c1 p1) w)) (by kernel_rfl) (run_yieldcall2 rfl (by kernel_rfl) (by kernel_rfl) (by kernel_rfl)) (yield_out (hY _ _ _ (hab _ _ _ hJ12 hS36.below) (pParts1_kp_ab hk13 hS36.below))) ?_
     rintro _ w58 (⟨rfl, hJ59, hk60⟩ | ⟨rfl, hx61, hk60⟩)
     ·have hS62 := St.start w58
      refine gx_k (.bool false) w58 ?_
      refine gx_nil ?_
      refine gx_thenN ?_
      refine hK55 _ _ ?_
      refine gx_no (by kernel_rfl) ?_
      refine gx_pass ?_
      refine gx_thenN ?_
      refine hK53 _ _ ?_
      refine gx_region ?_
      refine gx_k (.int .i64 (IntKind.i64.wrap (x9 + 1))) w58 (gx_k (.int .i64 (IntKind.i64.wrap (x9 + 1))) w58 ?_)
      refine gx_nil ?_
      refine gx_blkN ?_
      refine gx_thenN ?_
      refine hK22 _ _ ?_
      refine gx_region ?_
      refine gx_k (.int .i64 (IntKind.i64.wrap (x9 + 1))) w58 (gx_k (.int .i64 (IntKind.i64.wrap (x9 + 1))) w58 ?_)
      refine gx_nil ?_
      refine gx_thenN ?_
      exact ⟨k14, Nat.lt_succ_self k14, (IntKind.i64.wrap (x9 + 1)), (IntKind.i64.wrap (x9 + 1)), w58, its56, (fun i => List.getD ((.int .i64 x9) :: (.int .i32 x25) :: (.int .i64 (IntKind.i64.wrap (x9 + 1))) :: (.bool true) :: (.int .i64 x9) :: (.pointer (Option.map (fun (p : Addr) => p.add (Int.toNat x9 * 1)) A1)) :: (.int .i32 x25) :: (.int .i64 x9) :: (.int .i64 (IntKind.i64.wrap (x9 + 1))) :: (.int .i32 x25) :: (.int .u8 x37) :: (.bool false) :: (.bool false) :: undef :: undef :: undef :: undef :: (.bool false) :: (.func (.yield l) #[] #[]) :: (.int .i64 x8) :: (.int .i64 (IntKind.i64.wrap (x9 + 1))) :: (.bool true) :: (.bool false) :: (.int .i64 (IntKind.i64.wrap (x9 + 1))) :: (.int .i64 (IntKind.i64.wrap (x9 + 1))) :: []) i undef), by kernel_rfl, hL15, hS62, hJ59, hk60⟩
     ·have hS62 := St.start w58
      refine gx_k (.bool true) w58 ?_
      refine gx_nil ?_
      refine gx_thenN ?_
      refine hK55 _ _ ?_
      refine gx_yes (by kernel_rfl) ?_
      refine gx_ret ?_
      refine gx_thenR ?_
      refine gx_blkR ?_
      refine gx_thenR ?_
      refine gx_thenR ?_
      refine gx_blkR ?_
      exact gx_fin (.tuple #[]) (by kernel_rfl) (by kernel_rfl) ⟨⟨_, rfl⟩, .inr (habx _ _ hx61 hS62.below)⟩
   ·refine gx_v (.bool false) w5 (run_boolE (decide_eq_false h18) (by kernel_rfl)) ?_
    refine gx_nil ?_
    refine gx_thenN ?_
    refine hK17 _ _ ?_
    refine gx_seq (fun K63 hK64 => ?_)
    refine gx_no (by kernel_rfl) ?_
    refine gx_exit ?_
    refine gx_thenE ?_
    refine gx_thenE ?_
    refine gx_blkE ?_
    obtain rfl := Option.some.inj hL15
    exact gx_finN (.tuple #[]) (by kernel_rfl) (by kernel_rfl) ⟨⟨_, rfl⟩, .inl (hab _ _ _ hJ12 hS6.below)⟩
end Go.Proofs.YtkcmemldhbifdaaDoor
