/-
  Iterators, walked.
-/
import Derived.Test.YtgjlpiljacecpaaZW
import Derived.Test.YtgjlpiljacecpaaRf
namespace Go.Proofs.Ytgjlpiljacecpaa
open Go Go.RowKit
set_option linter.unusedVariables false
set_option maxRecDepth 100000
set_option maxHeartbeats 4000000
def cListed (_N : Nat) : Option (Unit) :=
 some ()
def cListed_R (A0 : Option Addr) (n0 : Nat) (c0 : Nat) (_r : Unit) (w0 : World) (v : Value) (w : World) : Prop := ∃ (g0' : Nat), v = .func (.func 147) #[] #[.pointer (some ⟨g0', 0, none⟩)] ∧ St [] w0 w [boxE g0' [.slice A0 n0 c0] 60]
theorem cListed_ok (N : Nat) (A0 : Option Addr) (n0 c0 : Nat) (r : Unit) (hF : cListed N = some r) (w0 : World)  :
  Calls Try.prog 145 #[.slice A0 n0 c0] w0 fun e w => ∃ v, e = .returned v ∧ cListed_R A0 n0 c0 r w0 v w := by
 have hS0 := St.start w0
 unfold cListed at hF
 refine calls_of Try.func145 rfl ⟨((.slice A0 n0 c0) :: un 3 ([])).toArray, []⟩ (by kernel_rfl) (gx_seq (fun K1 hK2 => gx_region (gx_r (st_boxed [.slice A0 n0 c0] 60 hS0 (by kernel_rfl)) ?_)))
 rintro _ w3 ⟨rfl, hS4⟩
 have hS4 : St _ _ w3 [boxE w0.heap.size [.slice A0 n0 c0] 60] := hS4
 refine gx_k (Value.nilFunc) w3 (gx_nil (gx_thenN (hK2 _ _ (gx_seq (fun K5 hK6 => gx_region (gx_k (.func (.func 147) #[] #[vP w0.heap.size]) w3 (gx_k (.func (.func 147) #[] #[vP w0.heap.size]) w3 (gx_nil ?_))))))))
 refine gx_thenN (hK6 _ _ (gx_ret ?_))
 obtain rfl := sj hF
 exact gxF (.func (.func 147) #[] #[vP w0.heap.size]) ⟨_, rfl, w0.heap.size, rfl, hS4⟩
 def enccoverinterval (x : Int × Int × Int) : Array Value := #[.agg #[i6 x.1, i6 x.2.1, i6 x.2.2]]
def cListed1_L1 (N : Nat) (p1 : List Int) : Nat → Int → Option (List (Int × Int × Int))
 | 0, _ => none
 | k11+1, x6 => (if x6 < ((p1.length : Nat) : Int) then ((ix p1 x6).bind fun x22 => (Option.map (fun is => ((IntKind.i64.wrap x22), (IntKind.i64.wrap x22), x6) :: is) (cListed1_L1 N p1 k11 (IntKind.i64.wrap (x6 + 1))))) else some [])
def cListed1 (N : Nat) (p1 : List Int) : Option (List (Int × Int × Int)) :=
 cListed1_L1 N p1 N 0
def cListed1_kp (g1 : Nat) (A1 : Option Addr) (c1 : Nat) (p1 : List Int) (W : World) : Prop := W.heap[g1]? = some (.cells [.slice A1 p1.length c1].toArray 60 (0, 0)) ∧ NumZ .u16 W (.slice A1 p1.length c1) p1
theorem cListed1_kp_ab {g1 : Nat} {A1 : Option Addr} {c1 : Nat} {p1 : List Int} {W W' : World} (hk : cListed1_kp g1 A1 c1 p1 W) (hb : Below W.heap.size W W') : cListed1_kp g1 A1 c1 p1 W' := ⟨(hb.block _ (own_row_lt hk.1)).trans hk.1, hk.2.below hb⟩
theorem cListed1_iter (N : Nat) (p1 : List Int) (items : List (Int × Int × Int)) (hF : cListed1 N p1 = some items) (g1 : Nat) (A1 : Option Addr) (c1 : Nat) (hn1 : A1 = none → c1 = 0) : Iter Try.prog (.func (.func 147) #[] #[.pointer (some ⟨g1, 0, none⟩)]) enccoverinterval items (cListed1_kp g1 A1 c1 p1) := by
 refine ⟨_, _, rfl, fun _ _ => by kernel_rfl, ?_⟩
 intro n l J Jx W hab habx hY hk hJ
 have hS0 := St.start W
 unfold cListed1 at hF
 refine callsin_of Try.func147 rfl ⟨((.func (.yield l) #[] #[]) :: (vP g1) :: un 20 ([])).toArray, []⟩ (by kernel_rfl) (gx_seq (fun K1 hK2 => gx_region (gx_v (.slice A1 p1.length c1) W (rl1 (hS0.read hk.1 0 rfl)) (gx_k (i6 ((p1.length : Nat) : Int)) W (gx_k (i6 0) W (gx_nil (gx_thenN (hK2 _ _ ?_))))))))
 refine gx_block (gx_loop (fun k a w => ∃ (x6 : Int) (wb7 : World) (its8 : List (Int × Int × Int)) (u5 : Nat → Value), a = ⟨((.func (.yield l) #[] #[]) :: (vP g1) :: undef :: dd u5 0 2 ((.slice A1 p1.length c1) :: (i6 ((p1.length : Nat) : Int)) :: (i6 x6) :: dd u5 2 14 ([]))).toArray, []⟩ ∧ cListed1_L1 N p1 k x6 = some its8 ∧ St [] wb7 w [] ∧ J its8 wb7 ∧ (cListed1_kp g1 A1 c1 p1) wb7) N ?_ ?_)
 exact ⟨0, W, items, (fun i => List.getD (undef :: undef :: undef :: undef :: undef :: undef :: undef :: undef :: undef :: undef :: undef :: undef :: undef :: undef :: undef :: undef :: []) i undef), by kernel_rfl, hF, hS0, hJ, hk⟩
 rintro k11 _ w3 ⟨x6, wb7, its8, u5, rfl, hL12, hS4, hJ9, hk10⟩
 rcases k11 with _ | k11
 cases hL12
 first | rw [cListed1_L1] at hL12 | unfold cListed1_L1 at hL12
 refine gx_seq (fun K13 hK14 => gx_region ?_)
 rcases if_in hL12 with ⟨h15, hL12⟩ | ⟨h15, hL12⟩
 refine gx_v (.bool true) w3 (rbE (decide_eq_true h15)) (gx_nil (gx_thenN (hK14 _ _ (gx_seq (fun K16 hK17 => gx_yes (by kernel_rfl) (gx_pass (gx_thenN ?_)))))))
 refine hK17 _ _ (gx_seq (fun K18 hK19 => gx_block (gx_seq (fun K20 hK21 => gx_region (gx_k (i6 x6) w3 ?_)))))
 obtain ⟨x22, hx23, hL12⟩ := bind_in hL12
 refine gx_v (pI x6 A1) w3 (rix 31 .i64 hx23 ((hS4.view (Vw.of hk10.2 hn1)))) (gx_v (u6 x22) w3 (rlx (hS4.view (Vw.of hk10.2 hn1)) hx23) (gx_k (i6 x6) w3 (gx_k (u6 x22) w3 (gx_nil (gx_thenN (hK21 _ _ (gx_seq (fun K24 hK25 => gx_region ?_))))))))
 refine gx_k (.func (.yield l) #[] #[]) w3 (gx_k (u6 x22) w3 (gx_k (i6 (iw x22)) w3 (gx_k (u6 x22) w3 (gx_k (i6 (iw x22)) w3 (gx_k (i6 x6) w3 (gx_k (.agg #[i6 (iw x22), i6 (iw x22), i6 x6]) w3 ?_))))))
 obtain ⟨its26, hL12, hq27⟩ := Option.map_eq_some_iff.1 hL12
 rw [← hq27] at hJ9
 refine gx_yield (fun v w => (v = .bool true ∧ J its26 w ∧ (cListed1_kp g1 A1 c1 p1) w) ∨ (v = .bool false ∧ Jx w ∧ (cListed1_kp g1 A1 c1 p1) w)) (by kernel_rfl) (run_yieldcall rfl (by kernel_rfl) (by kernel_rfl)) (yield_out (hY _ _ _ (hab _ _ _ hJ9 hS4.below) (cListed1_kp_ab hk10 hS4.below))) ?_
 rintro _ w28 (⟨rfl, hJ29, hk30⟩ | ⟨rfl, hx31, hk30⟩)
 have hS32 := St.start w28
 refine gx_k (.bool false) w28 (gx_nil (gx_thenN (hK25 _ _ (gx_no (by kernel_rfl) (gx_pass (gx_blkN (gx_thenN ?_)))))))
 refine hK19 _ _ (gx_region (gx_k (i6 (iw (x6 + 1))) w28 (gx_k (i6 (iw (x6 + 1))) w28 (gx_nil (gx_thenN ?_)))))
 exact ⟨k11, Nat.lt_succ_self k11, (iw (x6 + 1)), w28, its26, (fun i => List.getD ((i6 x6) :: (u6 x22) :: (.bool true) :: (i6 x6) :: (pI x6 A1) :: (u6 x22) :: (.func (.yield l) #[] #[]) :: (u6 x22) :: (i6 (iw x22)) :: (u6 x22) :: (i6 (iw x22)) :: (i6 x6) :: (.agg #[i6 (iw x22), i6 (iw x22), i6 x6]) :: (.bool true) :: (.bool false) :: (i6 (iw (x6 + 1))) :: []) i undef), by kernel_rfl, hL12, hS32, hJ29, hk30⟩
 have hS32 := St.start w28
 refine gx_k (.bool true) w28 (gx_nil (gx_thenN (hK25 _ _ (gx_yes (by kernel_rfl) (gx_ret (gx_blkR (gx_thenR ?_)))))))
 refine gx_thenR (gx_blkR ?_)
 exact gxF (.tuple #[]) ⟨⟨_, rfl⟩, .inr (habx _ _ hx31 hS32.below)⟩
 refine gx_v (.bool false) w3 (rbE (decide_eq_false h15)) (gx_nil (gx_thenN (hK14 _ _ (gx_seq (fun K33 hK34 => gx_no (by kernel_rfl) (gx_exit (gx_thenE ?_)))))))
 refine gx_thenE (gx_blkE ?_)
 obtain rfl := sj hL12
 exact gx_finN (.tuple #[]) (by kernel_rfl) (by kernel_rfl) ⟨⟨_, rfl⟩, .inl (hab _ _ _ hJ9 hS4.below)⟩
def cRanged (_N : Nat) : Option (Unit) :=
 some ()
def cRanged_R (A0 : Option Addr) (n0 : Nat) (c0 : Nat) (_r : Unit) (w0 : World) (v : Value) (w : World) : Prop := ∃ (g0' : Nat), v = .func (.func 148) #[] #[.pointer (some ⟨g0', 0, none⟩)] ∧ St [] w0 w [boxE g0' [.slice A0 n0 c0] 60]
theorem cRanged_ok (N : Nat) (A0 : Option Addr) (n0 c0 : Nat) (r : Unit) (hF : cRanged N = some r) (w0 : World)  :
  Calls Try.prog 146 #[.slice A0 n0 c0] w0 fun e w => ∃ v, e = .returned v ∧ cRanged_R A0 n0 c0 r w0 v w := by
 have hS0 := St.start w0
 unfold cRanged at hF
 refine calls_of Try.func146 rfl ⟨((.slice A0 n0 c0) :: un 3 ([])).toArray, []⟩ (by kernel_rfl) (gx_seq (fun K1 hK2 => gx_region (gx_r (st_boxed [.slice A0 n0 c0] 60 hS0 (by kernel_rfl)) ?_)))
 rintro _ w3 ⟨rfl, hS4⟩
 have hS4 : St _ _ w3 [boxE w0.heap.size [.slice A0 n0 c0] 60] := hS4
 refine gx_k (Value.nilFunc) w3 (gx_nil (gx_thenN (hK2 _ _ (gx_seq (fun K5 hK6 => gx_region (gx_k (.func (.func 148) #[] #[vP w0.heap.size]) w3 (gx_k (.func (.func 148) #[] #[vP w0.heap.size]) w3 (gx_nil ?_))))))))
 refine gx_thenN (hK6 _ _ (gx_ret ?_))
 obtain rfl := sj hF
 exact gxF (.func (.func 148) #[] #[vP w0.heap.size]) ⟨_, rfl, w0.heap.size, rfl, hS4⟩
 def cRanged1_L1 (N : Nat) (p1 : List Int) : Nat → Int → Option (List (Int × Int × Int))
 | 0, _ => none
 | k11+1, x6 => (if x6 < ((p1.length : Nat) : Int) then ((ix p1 (iw (x6 - 2))).bind fun x24 => ((ix p1 (iw (x6 - 1))).bind fun x26 => ((ix p1 x6).bind fun x28 => (Option.map (fun is => ((iw x24), (iw x26), (iw x28)) :: is) (cRanged1_L1 N p1 k11 (iw (x6 + 3))))))) else some [])
 def cRanged1 (N : Nat) (p1 : List Int) : Option (List (Int × Int × Int)) :=
 cRanged1_L1 N p1 N 2
def cRanged1_kp (g1 : Nat) (A1 : Option Addr) (c1 : Nat) (p1 : List Int) (W : World) : Prop := W.heap[g1]? = some (.cells [.slice A1 p1.length c1].toArray 60 (0, 0)) ∧ NumZ .u16 W (.slice A1 p1.length c1) p1
theorem cRanged1_kp_ab {g1 : Nat} {A1 : Option Addr} {c1 : Nat} {p1 : List Int} {W W' : World} (hk : cRanged1_kp g1 A1 c1 p1 W) (hb : Below W.heap.size W W') : cRanged1_kp g1 A1 c1 p1 W' := ⟨(hb.block _ (own_row_lt hk.1)).trans hk.1, hk.2.below hb⟩
theorem cRanged1_iter (N : Nat) (p1 : List Int) (items : List (Int × Int × Int)) (hF : cRanged1 N p1 = some items) (g1 : Nat) (A1 : Option Addr) (c1 : Nat) (hn1 : A1 = none → c1 = 0) : Iter Try.prog (.func (.func 148) #[] #[.pointer (some ⟨g1, 0, none⟩)]) enccoverinterval items (cRanged1_kp g1 A1 c1 p1) := by
 refine ⟨_, _, rfl, fun _ _ => by kernel_rfl, ?_⟩
 intro n l J Jx W hab habx hY hk hJ
 have hS0 := St.start W
 unfold cRanged1 at hF
 refine callsin_of Try.func148 rfl ⟨((.func (.yield l) #[] #[]) :: (vP g1) :: un 29 ([])).toArray, []⟩ (by kernel_rfl) (gx_seq (fun K1 hK2 => gx_region (gx_k (i6 2) W (gx_nil (gx_thenN (hK2 _ _ (gx_block ?_)))))))
 refine gx_loop (fun k a w => ∃ (x6 : Int) (wb7 : World) (its8 : List (Int × Int × Int)) (u5 : Nat → Value), a = ⟨((.func (.yield l) #[] #[]) :: (vP g1) :: undef :: (i6 x6) :: dd u5 0 27 ([])).toArray, []⟩ ∧ cRanged1_L1 N p1 k x6 = some its8 ∧ St [] wb7 w [] ∧ J its8 wb7 ∧ (cRanged1_kp g1 A1 c1 p1) wb7) N ?_ ?_
 exact ⟨2, W, items, (fun i => List.getD (undef :: undef :: undef :: undef :: undef :: undef :: undef :: undef :: undef :: undef :: undef :: undef :: undef :: undef :: undef :: undef :: undef :: undef :: undef :: undef :: undef :: undef :: undef :: undef :: undef :: undef :: undef :: []) i undef), by kernel_rfl, hF, hS0, hJ, hk⟩
 rintro k11 _ w3 ⟨x6, wb7, its8, u5, rfl, hL12, hS4, hJ9, hk10⟩
 rcases k11 with _ | k11
 cases hL12
 first | rw [cRanged1_L1] at hL12 | unfold cRanged1_L1 at hL12
 refine gx_seq (fun K13 hK14 => gx_seq (fun K15 hK16 => gx_region (gx_k (i6 x6) w3 (gx_v (.slice A1 p1.length c1) w3 (rl1 (hS4.read hk10.1 0 rfl)) (gx_k (i6 ((p1.length : Nat) : Int)) w3 ?_)))))
 rcases if_in hL12 with ⟨h17, hL12⟩ | ⟨h17, hL12⟩
 refine gx_v (.bool true) w3 (rbE (decide_eq_true h17)) (gx_nil (gx_thenN (hK16 _ _ (gx_yes (by kernel_rfl) (gx_pass (gx_thenN (hK14 _ _ ?_)))))))
 refine gx_seq (fun K18 hK19 => gx_block (gx_seq (fun K20 hK21 => gdst (fun w => ∃ wb, (cRanged1_kp g1 A1 c1 p1) wb ∧ St [] wb w []) 21 ?_)))
 have hS23 := hS4.drew
 generalize w3.drew = w22 at hS23 ⊢
 refine gu1 0 10 (.func (.yield l) #[] #[]) rfl ⟨_, hk10, hS23⟩ (fun w ⟨_, hkw, hSw⟩ => by kernel_rfl) (gu1 1 11 (.slice A1 p1.length c1) rfl ⟨_, hk10, hS23⟩ (fun w ⟨_, hkw, hSw⟩ => rl1 (hSw.read hkw.1 0 rfl)) (gu1 2 12 (i6 x6) rfl ⟨_, hk10, hS23⟩ (fun w ⟨_, hkw, hSw⟩ => by kernel_rfl) (gu1 3 13 (i6 (iw (x6 - 2))) rfl ⟨_, hk10, hS23⟩ (fun w ⟨_, hkw, hSw⟩ => by kernel_rfl) ?_)))
 obtain ⟨x24, hx25, hL12⟩ := bind_in hL12
 refine gu1 4 14 (pI (iw (x6 - 2)) A1) rfl ⟨_, hk10, hS23⟩ (fun w ⟨_, hkw, hSw⟩ => rix 31 .i64 hx25 ((hSw.view (Vw.of hkw.2 hn1)))) (gu1 5 15 (u6 x24) rfl ⟨_, hk10, hS23⟩ (fun w ⟨_, hkw, hSw⟩ => rlx (hSw.view (Vw.of hkw.2 hn1)) hx25) (gu1 6 16 (i6 (iw x24)) rfl ⟨_, hk10, hS23⟩ (fun w ⟨_, hkw, hSw⟩ => by kernel_rfl) (gu1 7 17 (.slice A1 p1.length c1) rfl ⟨_, hk10, hS23⟩ (fun w ⟨_, hkw, hSw⟩ => rl1 (hSw.read hkw.1 0 rfl)) (gu1 8 18 (i6 x6) rfl ⟨_, hk10, hS23⟩ (fun w ⟨_, hkw, hSw⟩ => by kernel_rfl) (gu1 9 19 (i6 (iw (x6 - 1))) rfl ⟨_, hk10, hS23⟩ (fun w ⟨_, hkw, hSw⟩ => by kernel_rfl) ?_)))))
 obtain ⟨x26, hx27, hL12⟩ := bind_in hL12
 refine gu1 10 20 (pI (iw (x6 - 1)) A1) rfl ⟨_, hk10, hS23⟩ (fun w ⟨_, hkw, hSw⟩ => rix 31 .i64 hx27 ((hSw.view (Vw.of hkw.2 hn1)))) (gu1 11 21 (u6 x26) rfl ⟨_, hk10, hS23⟩ (fun w ⟨_, hkw, hSw⟩ => rlx (hSw.view (Vw.of hkw.2 hn1)) hx27) (gu1 12 22 (i6 (iw x26)) rfl ⟨_, hk10, hS23⟩ (fun w ⟨_, hkw, hSw⟩ => by kernel_rfl) (gu1 13 23 (.slice A1 p1.length c1) rfl ⟨_, hk10, hS23⟩ (fun w ⟨_, hkw, hSw⟩ => rl1 (hSw.read hkw.1 0 rfl)) (gu1 14 24 (i6 x6) rfl ⟨_, hk10, hS23⟩ (fun w ⟨_, hkw, hSw⟩ => by kernel_rfl) ?_))))
 obtain ⟨x28, hx29, hL12⟩ := bind_in hL12
 refine gu1 15 25 (pI x6 A1) rfl ⟨_, hk10, hS23⟩ (fun w ⟨_, hkw, hSw⟩ => rix 31 .i64 hx29 ((hSw.view (Vw.of hkw.2 hn1)))) (gu1 16 26 (u6 x28) rfl ⟨_, hk10, hS23⟩ (fun w ⟨_, hkw, hSw⟩ => rlx (hSw.view (Vw.of hkw.2 hn1)) hx29) (gu1 17 27 (i6 (iw x28)) rfl ⟨_, hk10, hS23⟩ (fun w ⟨_, hkw, hSw⟩ => by kernel_rfl) (gu1 18 28 (.agg #[i6 (iw x24), i6 (iw x26), i6 (iw x28)]) rfl ⟨_, hk10, hS23⟩ (fun w ⟨_, hkw, hSw⟩ => by kernel_rfl) ?_)))
 obtain ⟨its30, hL12, hq31⟩ := Option.map_eq_some_iff.1 hL12
 rw [← hq31] at hJ9
 refine gdY 19 ⟨some 29, _, _, _, _, _⟩ (fun v w => (v = .bool true ∧ J its30 w ∧ (cRanged1_kp g1 A1 c1 p1) w) ∨ (v = .bool false ∧ Jx w ∧ (cRanged1_kp g1 A1 c1 p1) w)) rfl (run_yieldcall rfl (by kernel_rfl) (by kernel_rfl)) (yield_out (hY _ _ _ (hab _ _ _ hJ9 hS23.below) (cRanged1_kp_ab hk10 hS23.below))) ?_
 rintro _ w32 (⟨rfl, hJ33, hk34⟩ | ⟨rfl, hx35, hk34⟩)
 have hS36 := St.start w32
 refine ⟨⟨_, hk34, hS36⟩, gu1 20 30 (.bool false) rfl ⟨_, hk34, hS36⟩ (fun w ⟨_, hkw, hSw⟩ => by kernel_rfl) (gd_done (by kernel_rfl) (gx_thenN (hK21 _ _ (gx_no (by kernel_rfl) (gx_pass (gx_blkN ?_))))))⟩
 refine gx_thenN (hK19 _ _ (gx_region (gx_k (i6 x6) w32 (gx_k (i6 (iw (x6 + 3))) w32 (gx_k (i6 (iw (x6 + 3))) w32 (gx_nil (gx_thenN ?_)))))))
 exact ⟨k11, Nat.lt_succ_self k11, (iw (x6 + 3)), w32, its30, (fun i => List.getD ((i6 x6) :: (.slice A1 p1.length c1) :: (i6 ((p1.length : Nat) : Int)) :: (.bool true) :: (i6 x6) :: (i6 (iw (x6 + 3))) :: (.func (.yield l) #[] #[]) :: (.slice A1 p1.length c1) :: (i6 x6) :: (i6 (iw (x6 - 2))) :: (pI (iw (x6 - 2)) A1) :: (u6 x24) :: (i6 (iw x24)) :: (.slice A1 p1.length c1) :: (i6 x6) :: (i6 (iw (x6 - 1))) :: (pI (iw (x6 - 1)) A1) :: (u6 x26) :: (i6 (iw x26)) :: (.slice A1 p1.length c1) :: (i6 x6) :: (pI x6 A1) :: (u6 x28) :: (i6 (iw x28)) :: (.agg #[i6 (iw x24), i6 (iw x26), i6 (iw x28)]) :: (.bool true) :: (.bool false) :: []) i undef), by kernel_rfl, hL12, hS36, hJ33, hk34⟩
 have hS36 := St.start w32
 refine ⟨⟨_, hk34, hS36⟩, gu1 20 30 (.bool true) rfl ⟨_, hk34, hS36⟩ (fun w ⟨_, hkw, hSw⟩ => by kernel_rfl) (gd_done (by kernel_rfl) (gx_thenN (hK21 _ _ (gx_yes (by kernel_rfl) (gx_ret (gx_blkR ?_))))))⟩
 refine gx_thenR (gx_thenR (gx_blkR ?_))
 exact gxF (.tuple #[]) ⟨⟨_, rfl⟩, .inr (habx _ _ hx35 hS36.below)⟩
 refine gx_v (.bool false) w3 (rbE (decide_eq_false h17)) (gx_nil (gx_thenN (hK16 _ _ (gx_no (by kernel_rfl) (gx_exit (gx_thenE (gx_thenE ?_)))))))
 refine gx_blkE ?_
 obtain rfl := sj hL12
 exact gx_finN (.tuple #[]) (by kernel_rfl) (by kernel_rfl) ⟨⟨_, rfl⟩, .inl (hab _ _ _ hJ9 hS4.below)⟩
end Go.Proofs.Ytgjlpiljacecpaa
