/-
  Coverages and classes, walked.
-/
import Derived.Test.YtgjlpiljacecpaaZX
namespace Go.Proofs.Ytgjlpiljacecpaa
open Go Go.RowKit
set_option linter.unusedVariables false
set_option maxRecDepth 100000
set_option maxHeartbeats 4000000
def cCovI (N : Nat) (p0 : List Int) (q0 : Bool) (p1 : Int) : Option (Option (List (Int × Int × Int)) × Bool × Bool) :=
 ((bWord N p0 q0 (IntKind.i64.wrap (p1 + 2))).bind fun (x9, b10) => ((bWord N p0 b10 p1).bind fun (x20, b21) => (if x20 = 1 then ((bWords N p0 b21 (IntKind.i64.wrap (p1 + 4)) (IntKind.i64.wrap x9)).bind fun (l32, b35) => ((bBad N p0 b35).bind fun (b45, b46) => ((cListed1 N l32).bind fun its49 => some ((some its49), (!b45), b46)))) else (if x20 = 2 then ((bWords N p0 b21 (IntKind.i64.wrap (p1 + 4)) (IntKind.i64.wrap ((3 : Int) * (IntKind.i64.wrap x9)))).bind fun (l60, b63) => ((bBad N p0 b63).bind fun (b73, b74) => ((cRanged1 N l60).bind fun its77 => some ((some its77), (!b73), b74)))) else some (none, false, b21)))))
def cCovI_R (p0 : List Int) (g0 gs0 : Nat) (A0 : Option Addr) (c0 : Nat) (r : Option (List (Int × Int × Int)) × Bool × Bool) (w0 : World) (v : Value) (w : World) : Prop := ∃ (fv0' : Value) (ft0' : List Nat), v = .tuple #[fv0', .bool r.2.1] ∧ St [g0, gs0] w0 w [eR g0 gs0 A0 p0 c0, eS gs0 r.2.2, iterE Try.prog fv0' enccoverinterval r.1 ft0']
theorem cCovI_ok (N : Nat) (p0 : List Int) (q0 : Bool) (p1 : Int) (g0 gs0 : Nat) (A0 : Option Addr) (c0 : Nat) (r : Option (List (Int × Int × Int)) × Bool × Bool) (hF : cCovI N p0 q0 p1 = some r) (w0 : World) (hr0 : w0.heap[g0]? = some (.cells [.pointer (some ⟨gs0, 0, none⟩), .slice A0 p0.length c0].toArray 72 (0, 0))) (hs0 : w0.heap[gs0]? = some (.cells [.bool q0].toArray 69 (0, 0))) (hne0 : g0 ≠ gs0) (hv0 : Vw [g0, gs0] .u8 w0 A0 c0 p0) :
  Calls Try.prog 141 #[.pointer (some ⟨g0, 0, none⟩), .int .i64 p1] w0 fun e w => ∃ v, e = .returned v ∧ cCovI_R p0 g0 gs0 A0 c0 r w0 v w := by
 have hS0 := St.lent hr0 hs0 hne0
 unfold cCovI at hF
 refine calls_of Try.func141 rfl ⟨((vP g0) :: (i6 p1) :: un 36 ([])).toArray, []⟩ (by kernel_rfl) (gx_seq (fun K1 hK2 => gx_region (gx_k (Value.nilFunc) w0 (gx_k (.bool false) w0 (gx_nil (gx_thenN (hK2 _ _ (gx_seq (fun K3 hK4 => ?_)))))))))
 refine gx_region (gx_k (vP g0) w0 (gx_k (i6 p1) w0 (gx_k (i6 (iw (p1 + 2))) w0 ?_)))
 obtain ⟨⟨x9, b10⟩, hc6, hF⟩ := bind_in hF
 try dsimp only at hF
 refine gx_c _ (bWord_ok N p0 q0 (iw (p1 + 2)) g0 gs0 A0 c0 _ hc6 w0 (hS0.get 0 rfl) (hS0.get 1 rfl) (hS0.ne 0 1 rfl rfl (by decide)) (hS0.again hv0)) ?_
 rintro _ w7 ⟨rfl, hT11⟩
 have hS8 : St _ _ w7 [eR g0 gs0 A0 p0 c0, eS gs0 b10] := hS0.lend 0 1 rfl rfl _ hT11
 refine gx_k (i6 (iw x9)) w7 (gx_k (i6 (iw x9)) w7 (gx_nil (gx_thenN (hK4 _ _ (gx_seq (fun K12 hK13 => gx_seq (fun K14 hK15 => gx_region (gx_k (vP g0) w7 (gx_k (i6 p1) w7 ?_)))))))))
 obtain ⟨⟨x20, b21⟩, hc17, hF⟩ := bind_in hF
 try dsimp only at hF
 refine gx_c _ (bWord_ok N p0 b10 p1 g0 gs0 A0 c0 _ hc17 w7 (hS8.get 0 rfl) (hS8.get 1 rfl) (hS8.ne 0 1 rfl rfl (by decide)) (hS8.again hv0)) ?_
 rintro _ w18 ⟨rfl, hT22⟩
 have hS19 : St _ _ w18 [eR g0 gs0 A0 p0 c0, eS gs0 b21] := hS8.lend 0 1 rfl rfl _ hT22
 refine gx_nil (gx_thenN (hK15 _ _ (gx_block (gx_seq (fun K23 hK24 => gx_region ?_)))))
 rcases if_in hF with ⟨h25, hF⟩ | ⟨h25, hF⟩
 refine gx_v (.bool true) w18 (rbE (decide_eq_true h25)) (gx_k (.bool true) w18 (gx_nil (gx_thenN (hK24 _ _ (gx_yes (by kernel_rfl) (gx_seq (fun K26 hK27 => gx_region ?_)))))))
 refine gx_k (vP g0) w18 (gx_k (i6 p1) w18 (gx_k (i6 (iw (p1 + 4))) w18 (gx_k (i6 (iw x9)) w18 ?_)))
 obtain ⟨⟨l32, b35⟩, hc29, hF⟩ := bind_in hF
 try dsimp only at hF
 refine gx_c _ (bWords_ok N p0 b21 (iw (p1 + 4)) (iw x9) g0 gs0 A0 c0 _ hc29 w18 (hS19.get 0 rfl) (hS19.get 1 rfl) (hS19.ne 0 1 rfl rfl (by decide)) (hS19.again hv0)) ?_
 rintro _ w30 ⟨A33, c34, rfl, hT36⟩
 have hS31 : St _ _ w30 [eR g0 gs0 A0 p0 c0, eS gs0 b35, rowE .u16 31 A33 c34 l32] := hS19.lend 0 1 rfl rfl _ hT36
 refine gx_c _ (cListed_ok N  A33 l32.length c34 _ rfl w30) ?_
 rintro _ w37 ⟨g40, rfl, hT39⟩
 have hS38 : St _ _ w37 [eR g0 gs0 A0 p0 c0, eS gs0 b35, rowE .u16 31 A33 c34 l32, boxE g40 [.slice A33 l32.length c34] 60] := hS31.take _ hT39
 refine gx_k (vP g0) w37 ?_
 obtain ⟨⟨b45, b46⟩, hc42, hF⟩ := bind_in hF
 try dsimp only at hF
 refine gx_c _ (bBad_ok N p0 b35 g0 gs0 A0 c0 _ hc42 w37 (hS38.get 0 rfl) (hS38.get 1 rfl) (hS38.ne 0 1 rfl rfl (by decide)) (hS38.again hv0)) ?_
 rintro _ w43 ⟨rfl, hT47⟩
 have hS44 : St _ _ w43 [eR g0 gs0 A0 p0 c0, eS gs0 b46, rowE .u16 31 A33 c34 l32, boxE g40 [.slice A33 l32.length c34] 60] := hS38.lend 0 1 rfl rfl _ hT47
 refine gx_k (.bool (!b45)) w43 (gx_k (.func (.func 147) #[] #[vP g40]) w43 (gx_k (.bool (!b45)) w43 (gx_nil (gx_thenN (hK27 _ _ (gx_ret (gx_blkR (gx_thenR ?_))))))))
 obtain ⟨its49, hi50, hF⟩ := bind_in hF
 have hS48 : St _ _ w43 [iterE Try.prog (.func (.func 147) #[] #[vP g40]) enccoverinterval (some its49) (feet [boxE g40 [.slice A33 l32.length c34] 60, rowE .u16 31 A33 c34 l32]), eR g0 gs0 A0 p0 c0, eS gs0 b46] := St.toIter (A := [boxE g40 [.slice A33 l32.length c34] 60, rowE .u16 31 A33 c34 l32]) (B := [eR g0 gs0 A0 p0 c0, eS gs0 b46]) (hS44.pick [3, 2, 0, 1] rfl rfl) (cListed1_iter N l32 _ hi50 g40 A33 c34 (hS44.row 2 rfl).2) (fun W hW => ⟨(hW (boxE g40 [.slice A33 l32.length c34] 60) (by simp)), (rowE_read (hW (rowE .u16 31 A33 c34 l32) (by simp))).1⟩)
 obtain rfl := sj hF
 exact gxF (.tuple #[.func (.func 147) #[] #[vP g40], .bool (!b45)]) ⟨_, rfl, (.func (.func 147) #[] #[vP g40]), (feet [boxE g40 [.slice A33 l32.length c34] 60, rowE .u16 31 A33 c34 l32]), rfl, (hS48.pick [1, 2, 0] rfl rfl)⟩
 refine gx_v (.bool false) w18 (rbE (decide_eq_false h25)) (gx_k (.bool false) w18 (gx_nil (gx_thenN (hK24 _ _ (gx_no (by kernel_rfl) (gx_seq (fun K51 hK52 => gx_region ?_)))))))
 rcases if_in hF with ⟨h53, hF⟩ | ⟨h53, hF⟩
 refine gx_v (.bool true) w18 (rbE (decide_eq_true h53)) (gx_k (.bool true) w18 (gx_nil (gx_thenN (hK52 _ _ (gx_yes (by kernel_rfl) (gx_seq (fun K54 hK55 => gx_region ?_)))))))
 refine gx_k (vP g0) w18 (gx_k (i6 p1) w18 (gx_k (i6 (iw (p1 + 4))) w18 (gx_k (i6 (iw x9)) w18 (gx_k (i6 (iw ((3 : Int) * (iw x9)))) w18 ?_))))
 obtain ⟨⟨l60, b63⟩, hc57, hF⟩ := bind_in hF
 try dsimp only at hF
 refine gx_c _ (bWords_ok N p0 b21 (iw (p1 + 4)) (iw ((3 : Int) * (iw x9))) g0 gs0 A0 c0 _ hc57 w18 (hS19.get 0 rfl) (hS19.get 1 rfl) (hS19.ne 0 1 rfl rfl (by decide)) (hS19.again hv0)) ?_
 rintro _ w58 ⟨A61, c62, rfl, hT64⟩
 have hS59 : St _ _ w58 [eR g0 gs0 A0 p0 c0, eS gs0 b63, rowE .u16 31 A61 c62 l60] := hS19.lend 0 1 rfl rfl _ hT64
 refine gx_c _ (cRanged_ok N  A61 l60.length c62 _ rfl w58) ?_
 rintro _ w65 ⟨g68, rfl, hT67⟩
 have hS66 : St _ _ w65 [eR g0 gs0 A0 p0 c0, eS gs0 b63, rowE .u16 31 A61 c62 l60, boxE g68 [.slice A61 l60.length c62] 60] := hS59.take _ hT67
 refine gx_k (vP g0) w65 ?_
 obtain ⟨⟨b73, b74⟩, hc70, hF⟩ := bind_in hF
 try dsimp only at hF
 refine gx_c _ (bBad_ok N p0 b63 g0 gs0 A0 c0 _ hc70 w65 (hS66.get 0 rfl) (hS66.get 1 rfl) (hS66.ne 0 1 rfl rfl (by decide)) (hS66.again hv0)) ?_
 rintro _ w71 ⟨rfl, hT75⟩
 have hS72 : St _ _ w71 [eR g0 gs0 A0 p0 c0, eS gs0 b74, rowE .u16 31 A61 c62 l60, boxE g68 [.slice A61 l60.length c62] 60] := hS66.lend 0 1 rfl rfl _ hT75
 refine gx_k (.bool (!b73)) w71 (gx_k (.func (.func 148) #[] #[vP g68]) w71 (gx_k (.bool (!b73)) w71 (gx_nil (gx_thenN (hK55 _ _ (gx_ret (gx_blkR (gx_thenR ?_))))))))
 obtain ⟨its77, hi78, hF⟩ := bind_in hF
 have hS76 : St _ _ w71 [iterE Try.prog (.func (.func 148) #[] #[vP g68]) enccoverinterval (some its77) (feet [boxE g68 [.slice A61 l60.length c62] 60, rowE .u16 31 A61 c62 l60]), eR g0 gs0 A0 p0 c0, eS gs0 b74] := St.toIter (A := [boxE g68 [.slice A61 l60.length c62] 60, rowE .u16 31 A61 c62 l60]) (B := [eR g0 gs0 A0 p0 c0, eS gs0 b74]) (hS72.pick [3, 2, 0, 1] rfl rfl) (cRanged1_iter N l60 _ hi78 g68 A61 c62 (hS72.row 2 rfl).2) (fun W hW => ⟨(hW (boxE g68 [.slice A61 l60.length c62] 60) (by simp)), (rowE_read (hW (rowE .u16 31 A61 c62 l60) (by simp))).1⟩)
 obtain rfl := sj hF
 exact gxF (.tuple #[.func (.func 148) #[] #[vP g68], .bool (!b73)]) ⟨_, rfl, (.func (.func 148) #[] #[vP g68]), (feet [boxE g68 [.slice A61 l60.length c62] 60, rowE .u16 31 A61 c62 l60]), rfl, (hS76.pick [1, 2, 0] rfl rfl)⟩
 refine gx_v (.bool false) w18 (rbE (decide_eq_false h53)) (gx_k (.bool false) w18 (gx_nil (gx_thenN (hK52 _ _ (gx_no (by kernel_rfl) (gx_pass (gx_blkN ?_)))))))
 refine gx_thenN (hK13 _ _ (gx_seq (fun K79 hK80 => gx_region (gx_k (Value.nilFunc) w18 (gx_k (.bool false) w18 (gx_nil (gx_thenN (hK80 _ _ ?_))))))))
 refine gx_ret ?_
 have hS81 : St _ _ w18 [eR g0 gs0 A0 p0 c0, eS gs0 b21, iterE Try.prog Value.nilFunc enccoverinterval none ([])] := hS19.noIter _ _ _
 obtain rfl := sj hF
 exact gxF (.tuple #[Value.nilFunc, .bool false]) ⟨_, rfl, Value.nilFunc, ([]), rfl, hS81⟩
def cCov_L2 (N : Nat) (x52 : Int) : Nat → List Int → Int → Option (List Int)
 | 0, _, _ => none
 | k104+1, l102, x103 => (if x103 ≤ x52 then ((apx l102 ([(IntKind.u16.wrap x103)])).bind fun l115 => cCov_L2 N x52 k104 l115 (IntKind.i64.wrap (x103 + 1))) else some (l102))
def cCov_X1 (N : Nat) (p2 : Int) : List (Int × Int × Int) → List Int → Int → Option (Ctl (List Int × Int) (List Int × Int))
 | [], l44, x45 => some (Ctl.go (l44, x45))
 | (x51, x52, x53) :: its54, l44, x45 => ((((cFits N x51 x52 x53 x45 p2).bind fun b79 => (match b79 with | true => (if x53 ≠ ((l44.length : Nat) : Int) then some (Ctl.ret (Ctl.ret (l44, x45))) else some (Ctl.go ())) | false => some (Ctl.ret (Ctl.ret (l44, x45))))) : Option (Ctl (Unit) (Ctl (List Int × Int) (List Int × Int)))).bind fun | Ctl.go () => ((cCov_L2 N x52 N l44 x51 : Option (List Int)).bind fun l93 => cCov_X1 N p2 its54 l93 x52) | Ctl.ret r => some r)
def cCov (N : Nat) (p0 : List Int) (q0 : Bool) (p1 : Int) (p2 : Int) : Option (List Int × Int × Bool) :=
 ((cCovI N p0 q0 p1).bind fun (i23, b26, b27) => (match b26 with | true => ((i23).bind fun its37 => ((cCov_X1 N p2 its37 ([]) (-1)).bind fun | Ctl.go (l44, _x45) => ((cCount N ((l44.length : Nat) : Int)).bind fun b135 => (match b135 with | true => some (l44, 0, b27) | false => some ([], 50, b27))) | Ctl.ret (_l44, _x45) => some ([], 50, b27))) | false => some ([], 50, b27)))
def cCov_R (p0 : List Int) (g0 gs0 : Nat) (A0 : Option Addr) (c0 : Nat) (r : List Int × Int × Bool) (w0 : World) (v : Value) (w : World) : Prop := ∃ (A0' : Option Addr) (c0' : Nat), v = .tuple #[.slice A0' r.1.length c0', .int .i64 r.2.1] ∧ St [g0, gs0] w0 w [eR g0 gs0 A0 p0 c0, eS gs0 r.2.2, rowE .u16 31 A0' c0' r.1]
theorem cCov_ok (N : Nat) (p0 : List Int) (q0 : Bool) (p1 : Int) (p2 : Int) (g0 gs0 : Nat) (A0 : Option Addr) (c0 : Nat) (r : List Int × Int × Bool) (hF : cCov N p0 q0 p1 p2 = some r) (w0 : World) (hr0 : w0.heap[g0]? = some (.cells [.pointer (some ⟨gs0, 0, none⟩), .slice A0 p0.length c0].toArray 72 (0, 0))) (hs0 : w0.heap[gs0]? = some (.cells [.bool q0].toArray 69 (0, 0))) (hne0 : g0 ≠ gs0) (hv0 : Vw [g0, gs0] .u8 w0 A0 c0 p0) :
  Calls Try.prog 134 #[.pointer (some ⟨g0, 0, none⟩), .int .i64 p1, .int .i64 p2] w0 fun e w => ∃ v, e = .returned v ∧ cCov_R p0 g0 gs0 A0 c0 r w0 v w := by
 have hS0 := St.lent hr0 hs0 hne0
 unfold cCov at hF
 refine calls_ofM Try.func134 rfl ⟨((vP g0) :: (i6 p1) :: (i6 p2) :: un 53 ([])).toArray, []⟩ (by kernel_rfl) (gx_seq (fun K1 hK2 => gx_region (gx_r (st_boxed [i6 p2] 3 hS0 (by kernel_rfl)) ?_)))
 rintro _ w3 ⟨rfl, hS4⟩
 have hS4 : St _ _ w3 [eR g0 gs0 A0 p0 c0, eS gs0 q0, boxE w0.heap.size [i6 p2] 3] := hS4
 refine gx_k (nS) w3 (gx_k (i6 0) w3 (gx_nil (gx_thenN (hK2 _ _ (gx_scope 0 rfl (fun J5 hJ6 => gx_seq (fun K7 hK8 => gx_region (gx_r (st_boxed [nS] 60 hS4 (by kernel_rfl)) ?_))))))))
 rintro _ w9 ⟨rfl, hS10⟩
 have hS10 : St _ _ w9 [eR g0 gs0 A0 p0 c0, eS gs0 q0, boxE w0.heap.size [i6 p2] 3, boxE w3.heap.size [nS] 60] := hS10
 refine gx_nil (gx_thenN (hK8 _ _ (gx_seq (fun K11 hK12 => gx_region (gx_r (st_boxed [i6 0] 3 hS10 (by kernel_rfl)) ?_)))))
 rintro _ w13 ⟨rfl, hS14⟩
 have hS14 : St _ _ w13 [eR g0 gs0 A0 p0 c0, eS gs0 q0, boxE w0.heap.size [i6 p2] 3, boxE w3.heap.size [nS] 60, boxE w9.heap.size [i6 0] 3] := hS14
 refine gx_s (st_store (j := 0) (v := (i6 (-1))) rfl (by kernel_rfl) (by kernel_rfl) rfl (fun _ => by kernel_rfl) hS14 4 rfl (by show 0 < 1; decide)) ?_
 rintro w15 hS16
 have hS16 : St _ _ w15 [eR g0 gs0 A0 p0 c0, eS gs0 q0, boxE w0.heap.size [i6 p2] 3, boxE w3.heap.size [nS] 60, boxE w9.heap.size [i6 (-1)] 3] := hS16
 refine gx_nil (gx_thenN (hK12 _ _ (gx_seq (fun K17 hK18 => gx_region (gx_k (vP g0) w15 (gx_k (i6 p1) w15 ?_))))))
 obtain ⟨⟨i23, b26, b27⟩, hc20, hF⟩ := bind_in hF
 try dsimp only at hF
 refine gx_c _ (cCovI_ok N p0 q0 p1 g0 gs0 A0 c0 _ hc20 w15 (hS16.get 0 rfl) (hS16.get 1 rfl) (hS16.ne 0 1 rfl rfl (by decide)) (hS16.again hv0)) ?_
 rintro _ w21 ⟨fv24, ft25, rfl, hT28⟩
 have hS22 : St _ _ w21 [eR g0 gs0 A0 p0 c0, eS gs0 b27, boxE w0.heap.size [i6 p2] 3, boxE w3.heap.size [nS] 60, boxE w9.heap.size [i6 (-1)] 3, iterE Try.prog fv24 enccoverinterval i23 ft25] := hS16.lend 0 1 rfl rfl _ hT28
 refine gx_k (.tuple #[fv24, .bool b26]) w21 (gx_k (fv24) w21 (gx_k (.bool b26) w21 (gx_k (fv24) w21 (gx_k (.bool b26) w21 (gx_nil (gx_thenN (hK18 _ _ (gx_seq (fun K29 hK30 => gx_seq (fun K31 hK32 => gx_region (gx_k (.bool b26) w21 ?_)))))))))))
 rcases b26 with _ | _
 try dsimp only at hF
 refine gx_k (.bool true) w21 (gx_nil (gx_thenN (hK32 _ _ (gx_yes (by kernel_rfl) (gx_goto (gx_thenG (gx_jmpG ?_)))))))
 refine hJ6 _ _ (gx_seq (fun K151 hK152 => gx_pass (gx_thenN (hK152 _ _ (gx_seq (fun K153 hK154 => gx_region (gx_k (nS) w21 (gx_k (i6 50) w21 ?_))))))))
 refine gx_nil (gx_thenN (hK154 _ _ (gx_ret (gx_jmpR ?_))))
 have hS155 : St _ _ w21 [eR g0 gs0 A0 p0 c0, eS gs0 b27, boxE w0.heap.size [i6 p2] 3, boxE w3.heap.size [nS] 60, boxE w9.heap.size [i6 (-1)] 3, iterE Try.prog fv24 enccoverinterval i23 ft25, rowE .u16 31 none 0 ([])] := hS22.nilrow .u16 31
 obtain rfl := sj hF
 exact gx_finM0 (.tuple #[.slice none (([] : List Int).length) 0, i6 50]) (by kernel_rfl) (by kernel_rfl) ⟨_, rfl, none, 0, rfl, (hS155.pick [0, 1, 6] rfl rfl)⟩
 try dsimp only at hF
 refine gx_k (.bool false) w21 (gx_nil (gx_thenN (hK32 _ _ (gx_no (by kernel_rfl) (gx_pass (gx_thenN (hK30 _ _ ?_)))))))
 refine gx_seq (fun K33 hK34 => gx_seq (fun K35 hK36 => gx_region (gx_k (fv24) w21 (gx_nil (gx_thenN (hK36 _ _ (gx_block ?_)))))))
 obtain ⟨its37, hq41, hF40⟩ := bind_in hF
 clear hF
 subst hq41
 obtain ⟨hS39, hit38⟩ := St.ranged (es := [eR g0 gs0 A0 p0 c0, eS gs0 b27, boxE w0.heap.size [i6 p2] 3, boxE w3.heap.size [nS] 60, boxE w9.heap.size [i6 (-1)] 3]) (hS22.pick [0, 1, 2, 3, 4, 5] rfl rfl)
 have hS49 : St _ _ w21 [eR g0 gs0 A0 p0 c0, eS gs0 b27, boxE w0.heap.size [i6 p2] 3, boxE w3.heap.size [nS] 60, boxE w9.heap.size [i6 (-1)] 3, agreeE ft25 w21, rowE .u16 31 none 0 ([])] := hS39.nilrow .u16 31
 have hS50 : St _ _ w21 ([eR g0 gs0 A0 p0 c0, eS gs0 b27, boxE w0.heap.size [i6 p2] 3, rowE .u16 31 none 0 ([]), boxE w3.heap.size [.slice none (([] : List Int).length) 0] 60, boxE w9.heap.size [i6 (-1)] 3] ++ [agreeE ft25 w21]) := hS49.pick [0, 1, 2, 6, 3, 4, 5] rfl rfl
 obtain ⟨c46, hE47, hO48⟩ := bind_in hF40
 refine gx_range (v := fv24) (enc := enccoverinterval) (items := its37) (kp := (agreeE ft25 w21).holds) (es := [eR g0 gs0 A0 p0 c0, eS gs0 b27, boxE w0.heap.size [i6 p2] 3, rowE .u16 31 none 0 ([]), boxE w3.heap.size [.slice none (([] : List Int).length) 0] 60, boxE w9.heap.size [i6 (-1)] 3]) (ks := [agreeE ft25 w21]) (by kernel_rfl) hit38 (fun ⟨_, _, _⟩ => rfl) hS50 agree_kp (fun rest es => ∃ (l44 : List Int) (x45 : Int) (A42 : Option Addr) (c43 : Nat), cCov_X1 N p2 rest l44 x45 = some c46 ∧ es = [eR g0 gs0 A0 p0 c0, eS gs0 b27, boxE w0.heap.size [i6 p2] 3, rowE .u16 31 A42 c43 l44, boxE w3.heap.size [.slice A42 l44.length c43] 60, boxE w9.heap.size [i6 x45] 3]) (fun es => ∃ (l44 : List Int) (x45 : Int) (A42 : Option Addr) (c43 : Nat), c46 = Ctl.ret (l44, x45) ∧ es = [eR g0 gs0 A0 p0 c0, eS gs0 b27, boxE w0.heap.size [i6 p2] 3, rowE .u16 31 A42 c43 l44, boxE w3.heap.size [.slice A42 l44.length c43] 60, boxE w9.heap.size [i6 x45] 3]) (.goto 0) ⟨([]), (-1), none, 0, hE47, rfl⟩ ?_ ?_ ?_
 rintro l56 r57 r58 ⟨x51, x52, x53⟩ its54 w59 _ ⟨l44, x45, A42, c43, hL55, rfl⟩ hS60
 rw [cCov_X1] at hL55
 refine gx_act ⟨((vP g0) :: (i6 p1) :: (i6 p2) :: undef :: undef :: (vP w0.heap.size) :: (nS) :: (i6 0) :: (vP w3.heap.size) :: (vP w9.heap.size) :: fv24 :: (.bool true) :: undef :: undef :: (.tuple #[fv24, .bool true]) :: (vP g0) :: (i6 p1) :: (.tuple #[fv24, .bool true]) :: fv24 :: (.bool true) :: (.bool true) :: (.bool false) :: fv24 :: (.agg #[i6 x51, i6 x52, i6 x53]) :: un 32 ([])).toArray, []⟩ (by kernel_rfl) (gx_region (gx_r (st_boxed [i6 0, i6 0, i6 0] 226 hS60 (by kernel_rfl)) ?_))
 rintro _ w62 ⟨rfl, hS63⟩
 have hS63 : St _ _ w62 [objE l56 r57, eR g0 gs0 A0 p0 c0, eS gs0 b27, boxE w0.heap.size [i6 p2] 3, rowE .u16 31 A42 c43 l44, boxE w3.heap.size [.slice A42 l44.length c43] 60, boxE w9.heap.size [i6 x45] 3, boxE w59.heap.size [i6 0, i6 0, i6 0] 226] := hS63
 refine gx_s (st_storeG (cs := [i6 0, i6 0, i6 0]) (ds := [i6 x51, i6 x52, i6 x53]) rfl (by kernel_rfl) (by kernel_rfl) (by kernel_rfl) rfl rfl hS63 7 rfl) ?_
 rintro w64 hS65
 have hS65 : St _ _ w64 [objE l56 r57, eR g0 gs0 A0 p0 c0, eS gs0 b27, boxE w0.heap.size [i6 p2] 3, rowE .u16 31 A42 c43 l44, boxE w3.heap.size [.slice A42 l44.length c43] 60, boxE w9.heap.size [i6 x45] 3, boxE w59.heap.size [i6 x51, i6 x52, i6 x53] 226] := hS65
 refine gx_nil (gx_thenN (⟨[eR g0 gs0 A0 p0 c0, eS gs0 b27, boxE w0.heap.size [i6 p2] 3, rowE .u16 31 A42 c43 l44, boxE w3.heap.size [.slice A42 l44.length c43] 60, boxE w9.heap.size [i6 x45] 3, boxE w59.heap.size [i6 x51, i6 x52, i6 x53] 226], hS65, fun w61 hS66 => ?_⟩))
 have hS66 : St _ _ w61 [objE l56 r58, eR g0 gs0 A0 p0 c0, eS gs0 b27, boxE w0.heap.size [i6 p2] 3, rowE .u16 31 A42 c43 l44, boxE w3.heap.size [.slice A42 l44.length c43] 60, boxE w9.heap.size [i6 x45] 3, boxE w59.heap.size [i6 x51, i6 x52, i6 x53] 226] := hS66
 refine gx_block ?_
 obtain ⟨c70, hE71, hO72⟩ := bind_in hL55
 refine gx_cut (fun a w => ∃ (u69 : Nat → Value), a = ⟨((vP g0) :: (i6 p1) :: (i6 p2) :: undef :: undef :: (vP w0.heap.size) :: (nS) :: (i6 0) :: (vP w3.heap.size) :: (vP w9.heap.size) :: fv24 :: (.bool true) :: (vP w59.heap.size) :: undef :: (.tuple #[fv24, .bool true]) :: (vP g0) :: (i6 p1) :: (.tuple #[fv24, .bool true]) :: fv24 :: (.bool true) :: (.bool true) :: (.bool false) :: fv24 :: (.agg #[i6 x51, i6 x52, i6 x53]) :: dd u69 0 12 (un 20 ([]))).toArray, []⟩ ∧ Ctl.go () = c70 ∧ St (feet [objE l56 r57, eR g0 gs0 A0 p0 c0, eS gs0 b27, boxE w0.heap.size [i6 p2] 3, rowE .u16 31 A42 c43 l44, boxE w3.heap.size [.slice A42 l44.length c43] 60, boxE w9.heap.size [i6 x45] 3]) w59 w [objE l56 r58, eR g0 gs0 A0 p0 c0, eS gs0 b27, boxE w0.heap.size [i6 p2] 3, rowE .u16 31 A42 c43 l44, boxE w3.heap.size [.slice A42 l44.length c43] 60, boxE w9.heap.size [i6 x45] 3, boxE w59.heap.size [i6 x51, i6 x52, i6 x53] 226]) ?_ ?_
 refine gx_seq (fun K73 hK74 => gx_region (gx_v (.agg #[i6 x51, i6 x52, i6 x53]) w61 (run_loadG (d := _) rfl (by kernel_rfl) (hS66.get 7 rfl) rfl rfl (by kernel_rfl)) (gx_v (i6 x45) w61 (rl1 (hS66.box 6 rfl 0 rfl)) (gx_v (i6 p2) w61 (rl1 (hS66.box 3 rfl 0 rfl)) ?_))))
 obtain ⟨b79, hc76, hE71⟩ := bind_in hE71
 try dsimp only at hE71
 refine gx_c _ (cFits_ok N x51 x52 x53 x45 p2 _ hc76 w61 ) ?_
 rintro _ w77 ⟨rfl, hT80⟩
 have hS78 : St _ _ w77 [objE l56 r58, eR g0 gs0 A0 p0 c0, eS gs0 b27, boxE w0.heap.size [i6 p2] 3, rowE .u16 31 A42 c43 l44, boxE w3.heap.size [.slice A42 l44.length c43] 60, boxE w9.heap.size [i6 x45] 3, boxE w59.heap.size [i6 x51, i6 x52, i6 x53] 226] := hS66.take _ hT80
 rcases b79 with _ | _
 try dsimp only at hE71
 refine gx_k (.bool true) w77 (gx_k (.bool true) w77 (gx_o (gx_o (gx_o (gx_o (gx_o (gx_k (.bool true) w77 (gx_nil (gx_thenN (hK74 _ _ (gx_yes (by kernel_rfl) (gx_goto (gx_thenG ?_)))))))))))))
 obtain rfl := sj hE71
 try dsimp only at hO72
 refine gx_blkG ?_
 exact ⟨⟨rfl, [eR g0 gs0 A0 p0 c0, eS gs0 b27, boxE w0.heap.size [i6 p2] 3, rowE .u16 31 A42 c43 l44, boxE w3.heap.size [.slice A42 l44.length c43] 60, boxE w9.heap.size [i6 x45] 3], (hS78.pick [0, 1, 2, 3, 4, 5, 6] rfl rfl), l44, x45, A42, c43, (sj hO72).symm, rfl⟩⟩
 try dsimp only at hE71
 refine gx_k (.bool false) w77 (gx_k (.bool false) w77 (gx_k (vQ w59.heap.size 2) w77 (gx_v (i6 x53) w77 (rl1 (hS78.box 7 rfl 2 rfl)) (gx_v (.slice A42 l44.length c43) w77 (rl1 (hS78.box 5 rfl 0 rfl)) (gx_k (i6 ((l44.length : Nat) : Int)) w77 ?_)))))
 rcases if_in hE71 with ⟨h81, hE71⟩ | ⟨h81, hE71⟩
 refine gx_v (.bool true) w77 (rbE (ne_yes h81)) (gx_k (.bool true) w77 (gx_nil (gx_thenN (hK74 _ _ (gx_yes (by kernel_rfl) (gx_goto (gx_thenG ?_)))))))
 obtain rfl := sj hE71
 try dsimp only at hO72
 refine gx_blkG ?_
 exact ⟨⟨rfl, [eR g0 gs0 A0 p0 c0, eS gs0 b27, boxE w0.heap.size [i6 p2] 3, rowE .u16 31 A42 c43 l44, boxE w3.heap.size [.slice A42 l44.length c43] 60, boxE w9.heap.size [i6 x45] 3], (hS78.pick [0, 1, 2, 3, 4, 5, 6] rfl rfl), l44, x45, A42, c43, (sj hO72).symm, rfl⟩⟩
 refine gx_v (.bool false) w77 (rbE (ne_no h81)) (gx_k (.bool false) w77 (gx_nil (gx_thenN (hK74 _ _ (gx_no (by kernel_rfl) (gx_pass (gx_thenN ?_)))))))
 exact ⟨(fun i => List.getD ((.agg #[i6 x51, i6 x52, i6 x53]) :: (i6 x45) :: (i6 p2) :: (.bool true) :: (.bool false) :: (.bool false) :: (vQ w59.heap.size 2) :: (i6 x53) :: (.slice A42 l44.length c43) :: (i6 ((l44.length : Nat) : Int)) :: (.bool false) :: (.bool false) :: []) i undef), by kernel_rfl, (sj hE71), hS78⟩
 rintro _ w67 ⟨u69, rfl, rfl, hS68⟩
 try dsimp only at hO72
 refine gx_seq (fun K82 hK83 => gx_region (gx_k (vQ w59.heap.size 1) w67 (gx_v (i6 x52) w67 (rl1 (hS68.box 7 rfl 1 rfl)) (gx_s (st_store (j := 0) (v := (i6 x52)) rfl (by kernel_rfl) (by kernel_rfl) rfl (fun _ => by kernel_rfl) hS68 6 rfl (by show 0 < 1; decide)) ?_))))
 rintro w84 hS85
 have hS85 : St _ _ w84 [objE l56 r58, eR g0 gs0 A0 p0 c0, eS gs0 b27, boxE w0.heap.size [i6 p2] 3, rowE .u16 31 A42 c43 l44, boxE w3.heap.size [.slice A42 l44.length c43] 60, boxE w9.heap.size [i6 x52] 3, boxE w59.heap.size [i6 x51, i6 x52, i6 x53] 226] := hS85
 refine gx_nil (gx_thenN (hK83 _ _ (gx_seq (fun K86 hK87 => gx_region (gx_k (vP w59.heap.size) w84 (gx_v (i6 x51) w84 (rl1 (hS85.box 7 rfl 0 rfl)) (gx_k (i6 x51) w84 ?_)))))))
 refine gx_nil (gx_thenN (hK87 _ _ ?_))
 obtain ⟨c94, hE95, hO96⟩ := bind_in hO72
 refine gx_mid (fun a w => ∃ (l93 : List Int) (A91 : Option Addr) (c92 : Nat) (u90 : Nat → Value), a = ⟨((vP g0) :: (i6 p1) :: (i6 p2) :: undef :: undef :: (vP w0.heap.size) :: (nS) :: (i6 0) :: (vP w3.heap.size) :: (vP w9.heap.size) :: fv24 :: (.bool true) :: (vP w59.heap.size) :: (u90 0) :: (.tuple #[fv24, .bool true]) :: (vP g0) :: (i6 p1) :: (.tuple #[fv24, .bool true]) :: fv24 :: (.bool true) :: (.bool true) :: (.bool false) :: fv24 :: (.agg #[i6 x51, i6 x52, i6 x53]) :: dd u69 0 12 ((vQ w59.heap.size 1) :: (i6 x52) :: (vP w59.heap.size) :: (i6 x51) :: dd u90 1 11 (un 5 ([])))).toArray, []⟩ ∧ l93 = c94 ∧ St (feet [objE l56 r57, eR g0 gs0 A0 p0 c0, eS gs0 b27, boxE w0.heap.size [i6 p2] 3, rowE .u16 31 A42 c43 l44, boxE w3.heap.size [.slice A42 l44.length c43] 60, boxE w9.heap.size [i6 x45] 3]) w59 w [objE l56 r58, eR g0 gs0 A0 p0 c0, eS gs0 b27, boxE w0.heap.size [i6 p2] 3, rowE .u16 31 A91 c92 l93, boxE w3.heap.size [.slice A91 l93.length c92] 60, boxE w9.heap.size [i6 x52] 3, boxE w59.heap.size [i6 x51, i6 x52, i6 x53] 226]) ?_ ?_
 refine gx_block (gx_loop (fun k a w => ∃ (l102 : List Int) (x103 : Int) (A100 : Option Addr) (c101 : Nat) (u99 : Nat → Value), a = ⟨((vP g0) :: (i6 p1) :: (i6 p2) :: undef :: undef :: (vP w0.heap.size) :: (nS) :: (i6 0) :: (vP w3.heap.size) :: (vP w9.heap.size) :: fv24 :: (.bool true) :: (vP w59.heap.size) :: (i6 x103) :: (.tuple #[fv24, .bool true]) :: (vP g0) :: (i6 p1) :: (.tuple #[fv24, .bool true]) :: fv24 :: (.bool true) :: (.bool true) :: (.bool false) :: fv24 :: (.agg #[i6 x51, i6 x52, i6 x53]) :: dd u69 0 12 ((vQ w59.heap.size 1) :: (i6 x52) :: (vP w59.heap.size) :: (i6 x51) :: dd u99 0 11 (un 5 ([])))).toArray, []⟩ ∧ cCov_L2 N x52 k l102 x103 = some c94 ∧ St (feet [objE l56 r57, eR g0 gs0 A0 p0 c0, eS gs0 b27, boxE w0.heap.size [i6 p2] 3, rowE .u16 31 A42 c43 l44, boxE w3.heap.size [.slice A42 l44.length c43] 60, boxE w9.heap.size [i6 x45] 3]) w59 w [objE l56 r58, eR g0 gs0 A0 p0 c0, eS gs0 b27, boxE w0.heap.size [i6 p2] 3, rowE .u16 31 A100 c101 l102, boxE w3.heap.size [.slice A100 l102.length c101] 60, boxE w9.heap.size [i6 x52] 3, boxE w59.heap.size [i6 x51, i6 x52, i6 x53] 226]) N ?_ ?_)
 exact ⟨l44, x51, A42, c43, (fun i => List.getD (undef :: undef :: undef :: undef :: undef :: undef :: undef :: undef :: undef :: undef :: undef :: []) i undef), by kernel_rfl, hE95, hS85⟩
 rintro k104 _ w97 ⟨l102, x103, A100, c101, u99, rfl, hL105, hS98⟩
 rcases k104 with _ | k104
 cases hL105
 first | rw [cCov_L2] at hL105 | unfold cCov_L2 at hL105
 refine gx_seq (fun K106 hK107 => gx_seq (fun K108 hK109 => gx_region (gx_k (i6 x103) w97 (gx_k (vQ w59.heap.size 1) w97 (gx_v (i6 x52) w97 (rl1 (hS98.box 7 rfl 1 rfl)) ?_)))))
 rcases if_in hL105 with ⟨h110, hL105⟩ | ⟨h110, hL105⟩
 refine gx_v (.bool true) w97 (rbE (decide_eq_true h110)) (gx_nil (gx_thenN (hK109 _ _ (gx_yes (by kernel_rfl) (gx_pass (gx_thenN (hK107 _ _ ?_)))))))
 refine gx_seq (fun K111 hK112 => gx_block (gx_region (gx_v (.slice A100 l102.length c101) w97 (rl1 (hS98.box 5 rfl 0 rfl)) (gx_k (i6 x103) w97 (gx_k (u6 (IntKind.u16.wrap x103)) w97 (gx_r (st_made .u16 31 [(IntKind.u16.wrap x103)] hS98 (by show 1 ≤ 1000000000; decide) (by kernel_rfl)) ?_))))))
 rintro _ w113 ⟨rfl, hS114⟩
 have hS114 : St _ _ w113 [objE l56 r58, eR g0 gs0 A0 p0 c0, eS gs0 b27, boxE w0.heap.size [i6 p2] 3, rowE .u16 31 A100 c101 l102, boxE w3.heap.size [.slice A100 l102.length c101] 60, boxE w9.heap.size [i6 x52] 3, boxE w59.heap.size [i6 x51, i6 x52, i6 x53] 226, rowE .u16 31 (some ⟨w97.heap.size, 0, none⟩) 1 ([(IntKind.u16.wrap x103)])] := hS114
 obtain ⟨l115, ha116, hL105⟩ := bind_in hL105
 obtain ⟨ha116, hq117⟩ := apx_in ha116
 refine gx_r (st_append rfl (by kernel_rfl) (by kernel_rfl) hS114 4 rfl (hS114.row 8 rfl).1 (hS114.row 8 rfl).2 ha116 (by kernel_rfl) (by kernel_rfl)) ?_
 rintro _ w120 ⟨A118, c119, rfl, hS121⟩
 rw [← hq117] at hS121 ⊢
 have hS121 : St _ _ w120 [objE l56 r58, eR g0 gs0 A0 p0 c0, eS gs0 b27, boxE w0.heap.size [i6 p2] 3, rowE .u16 31 A118 c119 l115, boxE w3.heap.size [.slice A100 l102.length c101] 60, boxE w9.heap.size [i6 x52] 3, boxE w59.heap.size [i6 x51, i6 x52, i6 x53] 226, rowE .u16 31 (some ⟨w97.heap.size, 0, none⟩) 1 ([(IntKind.u16.wrap x103)])] := hS121
 refine gx_s (st_store (j := 0) (v := (.slice A118 l115.length c119)) rfl (by kernel_rfl) (by kernel_rfl) rfl (fun _ => by kernel_rfl) hS121 5 rfl (by show 0 < 1; decide)) ?_
 rintro w122 hS123
 have hS123 : St _ _ w122 [objE l56 r58, eR g0 gs0 A0 p0 c0, eS gs0 b27, boxE w0.heap.size [i6 p2] 3, rowE .u16 31 A118 c119 l115, boxE w3.heap.size [.slice A118 l115.length c119] 60, boxE w9.heap.size [i6 x52] 3, boxE w59.heap.size [i6 x51, i6 x52, i6 x53] 226, rowE .u16 31 (some ⟨w97.heap.size, 0, none⟩) 1 ([(IntKind.u16.wrap x103)])] := hS123
 refine gx_nil (gx_blkN (gx_thenN (hK112 _ _ (gx_region (gx_k (i6 x103) w122 (gx_k (i6 (iw (x103 + 1))) w122 (gx_k (i6 (iw (x103 + 1))) w122 (gx_nil (gx_thenN ?_)))))))))
 exact ⟨k104, Nat.lt_succ_self k104, l115, (iw (x103 + 1)), A118, c119, (fun i => List.getD ((i6 x103) :: (vQ w59.heap.size 1) :: (i6 x52) :: (.bool true) :: (i6 x103) :: (i6 (iw (x103 + 1))) :: (.slice A100 l102.length c101) :: (i6 x103) :: (u6 (IntKind.u16.wrap x103)) :: (.slice (some ⟨w97.heap.size, 0, none⟩) (([(IntKind.u16.wrap x103)]).length) 1) :: (.slice A118 l115.length c119) :: []) i undef), by kernel_rfl, hL105, (hS123.pick [0, 1, 2, 3, 4, 5, 6, 7] rfl rfl)⟩
 refine gx_v (.bool false) w97 (rbE (decide_eq_false h110)) (gx_nil (gx_thenN (hK109 _ _ (gx_no (by kernel_rfl) (gx_exit (gx_thenE (gx_thenE ?_)))))))
 refine gx_blkE (gx_thenN ?_)
 exact ⟨l102, A100, c101, (fun i => List.getD ((i6 x103) :: (i6 x103) :: (vQ w59.heap.size 1) :: (i6 x52) :: (.bool false) :: (u99 4) :: (u99 5) :: (u99 6) :: (u99 7) :: (u99 8) :: (u99 9) :: (u99 10) :: []) i undef), by kernel_rfl, (sj hL105), hS98⟩
 rintro _ w88 ⟨l93, A91, c92, u90, rfl, rfl, hS89⟩
 try dsimp only at hO96
 refine gx_blkN ?_
 exact ⟨⟨[eR g0 gs0 A0 p0 c0, eS gs0 b27, boxE w0.heap.size [i6 p2] 3, rowE .u16 31 A91 c92 l93, boxE w3.heap.size [.slice A91 l93.length c92] 60, boxE w9.heap.size [i6 x52] 3], (hS89.pick [0, 1, 2, 3, 4, 5, 6] rfl rfl), l93, x52, A91, c92, hO96, rfl⟩⟩
 rintro D124 w125 _ ⟨l44, x45, A42, c43, hL55, rfl⟩ hS126
 rw [cCov_X1] at hL55
 obtain rfl := sj hL55
 try dsimp only at hO48
 have hS126 : St _ _ w125 [objE D124 (.deferred (some [])), eR g0 gs0 A0 p0 c0, eS gs0 b27, boxE w0.heap.size [i6 p2] 3, rowE .u16 31 A42 c43 l44, boxE w3.heap.size [.slice A42 l44.length c43] 60, boxE w9.heap.size [i6 x45] 3, agreeE ft25 w21] := hS126
 refine gx_blkN (gx_thenN (hK34 _ _ (gx_seq (fun K127 hK128 => gx_seq (fun K129 hK130 => gx_region (gx_v (.slice A42 l44.length c43) w125 (rl1 (hS126.box 5 rfl 0 rfl)) (gx_k (i6 ((l44.length : Nat) : Int)) w125 ?_)))))))
 obtain ⟨b135, hc132, hO48⟩ := bind_in hO48
 try dsimp only at hO48
 refine gx_c _ (cCount_ok N ((l44.length : Nat) : Int) _ hc132 w125 ) ?_
 rintro _ w133 ⟨rfl, hT136⟩
 have hS134 : St _ _ w133 [objE D124 (.deferred (some [])), eR g0 gs0 A0 p0 c0, eS gs0 b27, boxE w0.heap.size [i6 p2] 3, rowE .u16 31 A42 c43 l44, boxE w3.heap.size [.slice A42 l44.length c43] 60, boxE w9.heap.size [i6 x45] 3, agreeE ft25 w21] := hS126.take _ hT136
 rcases b135 with _ | _
 try dsimp only at hO48
 refine gx_k (.bool true) w133 (gx_nil (gx_thenN (hK130 _ _ (gx_yes (by kernel_rfl) (gx_goto (gx_thenG (gx_jmpG ?_)))))))
 refine hJ6 _ _ (gx_seq (fun K141 hK142 => gx_pass (gx_thenN (hK142 _ _ (gx_seq (fun K143 hK144 => gx_region (gx_k (nS) w133 (gx_k (i6 50) w133 ?_))))))))
 refine gx_nil (gx_thenN (hK144 _ _ (gx_ret (gx_jmpR ?_))))
 have hS145 : St _ _ w133 [objE D124 (.deferred (some [])), eR g0 gs0 A0 p0 c0, eS gs0 b27, boxE w0.heap.size [i6 p2] 3, rowE .u16 31 A42 c43 l44, boxE w3.heap.size [.slice A42 l44.length c43] 60, boxE w9.heap.size [i6 x45] 3, agreeE ft25 w21, rowE .u16 31 none 0 ([])] := hS134.nilrow .u16 31
 obtain rfl := sj hO48
 exact gx_finM1 (es := [eR g0 gs0 A0 p0 c0, eS gs0 b27, rowE .u16 31 none 0 ([])]) (.tuple #[.slice none (([] : List Int).length) 0, i6 50]) (by kernel_rfl) (hS145.pick [0, 1, 2, 8] rfl rfl) (fun w hS => ⟨by kernel_rfl, _, rfl, none, 0, rfl, hS⟩)
 try dsimp only at hO48
 refine gx_k (.bool false) w133 (gx_nil (gx_thenN (hK130 _ _ (gx_no (by kernel_rfl) (gx_pass (gx_thenN (hK128 _ _ ?_)))))))
 refine gx_seq (fun K137 hK138 => gx_seq (fun K139 hK140 => gx_region (gx_v (.slice A42 l44.length c43) w133 (rl1 (hS134.box 5 rfl 0 rfl)) (gx_k (.slice A42 l44.length c43) w133 (gx_k (i6 0) w133 (gx_nil (gx_thenN (hK140 _ _ ?_))))))))
 refine gx_ret (gx_thenR (gx_jmpR ?_))
 obtain rfl := sj hO48
 exact gx_finM1 (es := [eR g0 gs0 A0 p0 c0, eS gs0 b27, rowE .u16 31 A42 c43 l44]) (.tuple #[.slice A42 l44.length c43, i6 0]) (by kernel_rfl) (hS134.pick [0, 1, 2, 4] rfl rfl) (fun w hS => ⟨by kernel_rfl, _, rfl, A42, c43, rfl, hS⟩)
 rintro D124 w125 _ ⟨l44, x45, A42, c43, rfl, rfl⟩ hS126
 try dsimp only at hO48
 have hS126 : St _ _ w125 [objE D124 (.deferred (some [])), eR g0 gs0 A0 p0 c0, eS gs0 b27, boxE w0.heap.size [i6 p2] 3, rowE .u16 31 A42 c43 l44, boxE w3.heap.size [.slice A42 l44.length c43] 60, boxE w9.heap.size [i6 x45] 3, agreeE ft25 w21] := hS126
 refine gx_goto (gx_blkG (gx_thenG (gx_jmpG (hJ6 _ _ (gx_seq (fun K146 hK147 => gx_pass (gx_thenN ?_)))))))
 refine hK147 _ _ (gx_seq (fun K148 hK149 => gx_region (gx_k (nS) w125 (gx_k (i6 50) w125 (gx_nil (gx_thenN (hK149 _ _ (gx_ret ?_))))))))
 refine gx_jmpR ?_
 have hS150 : St _ _ w125 [objE D124 (.deferred (some [])), eR g0 gs0 A0 p0 c0, eS gs0 b27, boxE w0.heap.size [i6 p2] 3, rowE .u16 31 A42 c43 l44, boxE w3.heap.size [.slice A42 l44.length c43] 60, boxE w9.heap.size [i6 x45] 3, agreeE ft25 w21, rowE .u16 31 none 0 ([])] := hS126.nilrow .u16 31
 obtain rfl := sj hO48
 exact gx_finM1 (es := [eR g0 gs0 A0 p0 c0, eS gs0 b27, rowE .u16 31 none 0 ([])]) (.tuple #[.slice none (([] : List Int).length) 0, i6 50]) (by kernel_rfl) (hS150.pick [0, 1, 2, 8] rfl rfl) (fun w hS => ⟨by kernel_rfl, _, rfl, none, 0, rfl, hS⟩)
theorem vw_sub2 {bs : List Nat} {k : IntKind} {w : World} {A : Option Addr} {c : Nat} {l : List Int} {g h : Nat} (hv : Vw bs k w A c l) (h1 : g ∈ bs) (h2 : h ∈ bs) : Vw [g, h] k w A c l := ⟨hv.num, hv.nn, fun p hp hne hm => by
  simp only [List.mem_cons, List.not_mem_nil, or_false] at hm
  rcases hm with e | e <;> exact hv.off p hp hne (by rw [e]; assumption)⟩
end Go.Proofs.Ytgjlpiljacecpaa
