/-
 Coverages and classes.
-/
import Derived.Test.YtcleaepcjbfmhaaT4
namespace Go.Proofs.Ytcleaepcjbfmhaa
open Go Go.RowKit

def cCovI (N : Nat) (p0 : List Int) (q0 : Bool) (p1 : Int) : Option (Option (List (Int × Int × Int)) × Bool × Bool) :=
 ((bWord N p0 q0 (IntKind.i64.wrap (p1 + 2))).bind fun (x9, b10) => ((bWord N p0 b10 p1).bind fun (x20, b21) => (if x20 = 1 then ((bWords N p0 b21 (IntKind.i64.wrap (p1 + 4)) (IntKind.i64.wrap x9)).bind fun (l32, b35) => ((bBad N p0 b35).bind fun (b45, b46) => ((cListed1 N l32).bind fun its49 => some ((some its49), (!b45), b46)))) else (if x20 = 2 then ((bWords N p0 b21 (IntKind.i64.wrap (p1 + 4)) (IntKind.i64.wrap ((3 : Int) * (IntKind.i64.wrap x9)))).bind fun (l60, b63) => ((bBad N p0 b63).bind fun (b73, b74) => ((cRanged1 N l60).bind fun its77 => some ((some its77), (!b73), b74)))) else some (none, false, b21)))))

def cCovI_R (p0 : List Int) (g0 gs0 : Nat) (A0 : Option Addr) (c0 : Nat) (r : Option (List (Int × Int × Int)) × Bool × Bool) (w0 : World) (v : Value) (w : World) : Prop := ∃ (fv0' : Value) (ft0' : List Nat), v = .tuple #[fv0', .bool r.2.1] ∧ St [g0, gs0] w0 w [boxE g0 [.pointer (some ⟨gs0, 0, none⟩), .slice A0 p0.length c0] 56, boxE gs0 [.bool r.2.2] 53, iterE Try.prog fv0' enccoverinterval r.1 ft0']

set_option maxRecDepth 100000 in
set_option maxHeartbeats 4000000 in
theorem cCovI_ok (N : Nat) (p0 : List Int) (q0 : Bool) (p1 : Int) (g0 gs0 : Nat) (A0 : Option Addr) (c0 : Nat) (r : Option (List (Int × Int × Int)) × Bool × Bool) (hF : cCovI N p0 q0 p1 = some r) (w0 : World) (hr0 : w0.heap[g0]? = some (.cells [.pointer (some ⟨gs0, 0, none⟩), .slice A0 p0.length c0].toArray 56 (0, 0))) (hs0 : w0.heap[gs0]? = some (.cells [.bool q0].toArray 53 (0, 0))) (hne0 : g0 ≠ gs0) (hv0 : Vw [g0, gs0] .u8 w0 A0 c0 p0) :
  Calls Try.prog 21 #[.pointer (some ⟨g0, 0, none⟩), .int .i64 p1] w0 fun e w => ∃ v, e = .returned v ∧ cCovI_R p0 g0 gs0 A0 c0 r w0 v w := by
 have hS0 := St.lent hr0 hs0 hne0
 unfold cCovI at hF
 refine calls_of Try.func21 rfl ⟨((.pointer (some ⟨g0, 0, none⟩)) :: (.int .i64 p1) :: undef :: undef :: undef :: undef :: undef :: undef :: undef :: undef :: undef :: undef :: undef :: undef :: undef :: undef :: undef :: undef :: undef :: undef :: undef :: undef :: undef :: undef :: undef :: undef :: undef :: undef :: undef :: undef :: undef :: undef :: undef :: undef :: undef :: undef :: undef :: undef :: []).toArray, []⟩ (by kernel_rfl) ?_
 refine gx_seq (fun K1 hK2 => ?_)
 refine gx_region ?_
 refine gx_k (Value.nilFunc) w0 (gx_k (.bool false) w0 ?_)
 refine gx_nil ?_
 refine gx_thenN ?_
 refine hK2 _ _ ?_
 refine gx_seq (fun K3 hK4 => ?_)
 refine gx_region ?_
 refine gx_k (.pointer (some ⟨g0, 0, none⟩)) w0 (gx_k (.int .i64 p1) w0 (gx_k (.int .i64 (IntKind.i64.wrap (p1 + 2))) w0 ?_))
 obtain ⟨⟨x9, b10⟩, hc6, hF⟩ := bind_in hF
 try dsimp only at hF
 refine gx_c (bWord_R p0 g0 gs0 A0 c0 (x9, b10) w0) (bWord_ok N p0 q0 (IntKind.i64.wrap (p1 + 2)) g0 gs0 A0 c0 _ hc6 w0 (hS0.get 0 rfl) (hS0.get 1 rfl) (hS0.ne 0 1 rfl rfl (by decide)) (hS0.again hv0)) ?_
 rintro _ w7 ⟨rfl, hT11⟩
 have hS8 : St _ _ w7 [boxE g0 [.pointer (some ⟨gs0, 0, none⟩), .slice A0 p0.length c0] 56, boxE gs0 [.bool b10] 53] := hS0.lend 0 1 rfl rfl _ hT11
 refine gx_k (.int .i64 (IntKind.i64.wrap x9)) w7 (gx_k (.int .i64 (IntKind.i64.wrap x9)) w7 ?_)
 refine gx_nil ?_
 refine gx_thenN ?_
 refine hK4 _ _ ?_
 refine gx_seq (fun K12 hK13 => ?_)
 refine gx_seq (fun K14 hK15 => ?_)
 refine gx_region ?_
 refine gx_k (.pointer (some ⟨g0, 0, none⟩)) w7 (gx_k (.int .i64 p1) w7 ?_)
 obtain ⟨⟨x20, b21⟩, hc17, hF⟩ := bind_in hF
 try dsimp only at hF
 refine gx_c (bWord_R p0 g0 gs0 A0 c0 (x20, b21) w7) (bWord_ok N p0 b10 p1 g0 gs0 A0 c0 _ hc17 w7 (hS8.get 0 rfl) (hS8.get 1 rfl) (hS8.ne 0 1 rfl rfl (by decide)) (hS8.again hv0)) ?_
 rintro _ w18 ⟨rfl, hT22⟩
 have hS19 : St _ _ w18 [boxE g0 [.pointer (some ⟨gs0, 0, none⟩), .slice A0 p0.length c0] 56, boxE gs0 [.bool b21] 53] := hS8.lend 0 1 rfl rfl _ hT22
 refine gx_nil ?_
 refine gx_thenN ?_
 refine hK15 _ _ ?_
 refine gx_block ?_
 refine gx_seq (fun K23 hK24 => ?_)
 refine gx_region ?_
 rcases if_in hF with ⟨h25, hF⟩ | ⟨h25, hF⟩
 ·refine gx_v (.bool true) w18 (run_boolE (decide_eq_true h25) (by kernel_rfl)) ?_
  refine gx_k (.bool true) w18 ?_
  refine gx_nil ?_
  refine gx_thenN ?_
  refine hK24 _ _ ?_
  refine gx_yes (by kernel_rfl) ?_
  refine gx_seq (fun K26 hK27 => ?_)
  refine gx_region ?_
  refine gx_k (.pointer (some ⟨g0, 0, none⟩)) w18 (gx_k (.int .i64 p1) w18 (gx_k (.int .i64 (IntKind.i64.wrap (p1 + 4))) w18 (gx_k (.int .i64 (IntKind.i64.wrap x9)) w18 ?_)))
  obtain ⟨⟨l32, b35⟩, hc29, hF⟩ := bind_in hF
  try dsimp only at hF
  refine gx_c (bWords_R p0 g0 gs0 A0 c0 (l32, b35) w18) (bWords_ok N p0 b21 (IntKind.i64.wrap (p1 + 4)) (IntKind.i64.wrap x9) g0 gs0 A0 c0 _ hc29 w18 (hS19.get 0 rfl) (hS19.get 1 rfl) (hS19.ne 0 1 rfl rfl (by decide)) (hS19.again hv0)) ?_
  rintro _ w30 ⟨A33, c34, rfl, hT36⟩
  have hS31 : St _ _ w30 [boxE g0 [.pointer (some ⟨gs0, 0, none⟩), .slice A0 p0.length c0] 56, boxE gs0 [.bool b35] 53, rowE .u16 45 A33 c34 l32] := hS19.lend 0 1 rfl rfl _ hT36
  refine gx_c (cListed_R A33 l32.length c34 () w30) (cListed_ok N  A33 l32.length c34 _ rfl w30) ?_
  rintro _ w37 ⟨g40, rfl, hT39⟩
  have hS38 : St _ _ w37 [boxE g0 [.pointer (some ⟨gs0, 0, none⟩), .slice A0 p0.length c0] 56, boxE gs0 [.bool b35] 53, rowE .u16 45 A33 c34 l32, boxE g40 [.slice A33 l32.length c34] 38] := hS31.take _ hT39
  refine gx_k (.pointer (some ⟨g0, 0, none⟩)) w37 ?_
  obtain ⟨⟨b45, b46⟩, hc42, hF⟩ := bind_in hF
  try dsimp only at hF
  refine gx_c (bBad_R p0 g0 gs0 A0 c0 (b45, b46) w37) (bBad_ok N p0 b35 g0 gs0 A0 c0 _ hc42 w37 (hS38.get 0 rfl) (hS38.get 1 rfl) (hS38.ne 0 1 rfl rfl (by decide)) (hS38.again hv0)) ?_
  rintro _ w43 ⟨rfl, hT47⟩
  have hS44 : St _ _ w43 [boxE g0 [.pointer (some ⟨gs0, 0, none⟩), .slice A0 p0.length c0] 56, boxE gs0 [.bool b46] 53, rowE .u16 45 A33 c34 l32, boxE g40 [.slice A33 l32.length c34] 38] := hS38.lend 0 1 rfl rfl _ hT47
  refine gx_k (.bool (!b45)) w43 (gx_k (.func (.func 43) #[] #[.pointer (some ⟨g40, 0, none⟩)]) w43 (gx_k (.bool (!b45)) w43 ?_))
  refine gx_nil ?_
  refine gx_thenN ?_
  refine hK27 _ _ ?_
  refine gx_ret ?_
  refine gx_blkR ?_
  refine gx_thenR ?_
  obtain ⟨its49, hi50, hF⟩ := bind_in hF
  have hS48 : St _ _ w43 [iterE Try.prog (.func (.func 43) #[] #[.pointer (some ⟨g40, 0, none⟩)]) enccoverinterval (some its49) (feet [boxE g40 [.slice A33 l32.length c34] 38, rowE .u16 45 A33 c34 l32]), boxE g0 [.pointer (some ⟨gs0, 0, none⟩), .slice A0 p0.length c0] 56, boxE gs0 [.bool b46] 53] := St.toIter (A := [boxE g40 [.slice A33 l32.length c34] 38, rowE .u16 45 A33 c34 l32]) (B := [boxE g0 [.pointer (some ⟨gs0, 0, none⟩), .slice A0 p0.length c0] 56, boxE gs0 [.bool b46] 53]) (hS44.pick [3, 2, 0, 1] rfl rfl) (cListed1_iter N l32 _ hi50 g40 A33 c34 (hS44.row 2 rfl).2) (fun W hW => ⟨(hW (boxE g40 [.slice A33 l32.length c34] 38) (by simp)), (rowE_read (hW (rowE .u16 45 A33 c34 l32) (by simp))).1⟩)
  obtain rfl := Option.some.inj hF
  exact gx_fin (.tuple #[.func (.func 43) #[] #[.pointer (some ⟨g40, 0, none⟩)], .bool (!b45)]) (by kernel_rfl) (by kernel_rfl) ⟨_, rfl, (.func (.func 43) #[] #[.pointer (some ⟨g40, 0, none⟩)]), (feet [boxE g40 [.slice A33 l32.length c34] 38, rowE .u16 45 A33 c34 l32]), rfl, (hS48.pick [1, 2, 0] rfl rfl)⟩
 ·refine gx_v (.bool false) w18 (run_boolE (decide_eq_false h25) (by kernel_rfl)) ?_
  refine gx_k (.bool false) w18 ?_
  refine gx_nil ?_
  refine gx_thenN ?_
  refine hK24 _ _ ?_
  refine gx_no (by kernel_rfl) ?_
  refine gx_seq (fun K51 hK52 => ?_)
  refine gx_region ?_
  rcases if_in hF with ⟨h53, hF⟩ | ⟨h53, hF⟩
  ·refine gx_v (.bool true) w18 (run_boolE (decide_eq_true h53) (by kernel_rfl)) ?_
   refine gx_k (.bool true) w18 ?_
   refine gx_nil ?_
   refine gx_thenN ?_
   refine hK52 _ _ ?_
   refine gx_yes (by kernel_rfl) ?_
   refine gx_seq (fun K54 hK55 => ?_)
   refine gx_region ?_
   refine gx_k (.pointer (some ⟨g0, 0, none⟩)) w18 (gx_k (.int .i64 p1) w18 (gx_k (.int .i64 (IntKind.i64.wrap (p1 + 4))) w18 (gx_k (.int .i64 (IntKind.i64.wrap x9)) w18 (gx_k (.int .i64 (IntKind.i64.wrap ((3 : Int) * (IntKind.i64.wrap x9)))) w18 ?_))))
   obtain ⟨⟨l60, b63⟩, hc57, hF⟩ := bind_in hF
   try dsimp only at hF
   refine gx_c (bWords_R p0 g0 gs0 A0 c0 (l60, b63) w18) (bWords_ok N p0 b21 (IntKind.i64.wrap (p1 + 4)) (IntKind.i64.wrap ((3 : Int) * (IntKind.i64.wrap x9))) g0 gs0 A0 c0 _ hc57 w18 (hS19.get 0 rfl) (hS19.get 1 rfl) (hS19.ne 0 1 rfl rfl (by decide)) (hS19.again hv0)) ?_
   rintro _ w58 ⟨A61, c62, rfl, hT64⟩
   have hS59 : St _ _ w58 [boxE g0 [.pointer (some ⟨gs0, 0, none⟩), .slice A0 p0.length c0] 56, boxE gs0 [.bool b63] 53, rowE .u16 45 A61 c62 l60] := hS19.lend 0 1 rfl rfl _ hT64
   refine gx_c (cRanged_R A61 l60.length c62 () w58) (cRanged_ok N  A61 l60.length c62 _ rfl w58) ?_
   rintro _ w65 ⟨g68, rfl, hT67⟩
   have hS66 : St _ _ w65 [boxE g0 [.pointer (some ⟨gs0, 0, none⟩), .slice A0 p0.length c0] 56, boxE gs0 [.bool b63] 53, rowE .u16 45 A61 c62 l60, boxE g68 [.slice A61 l60.length c62] 38] := hS59.take _ hT67
   refine gx_k (.pointer (some ⟨g0, 0, none⟩)) w65 ?_
   obtain ⟨⟨b73, b74⟩, hc70, hF⟩ := bind_in hF
   try dsimp only at hF
   refine gx_c (bBad_R p0 g0 gs0 A0 c0 (b73, b74) w65) (bBad_ok N p0 b63 g0 gs0 A0 c0 _ hc70 w65 (hS66.get 0 rfl) (hS66.get 1 rfl) (hS66.ne 0 1 rfl rfl (by decide)) (hS66.again hv0)) ?_
   rintro _ w71 ⟨rfl, hT75⟩
   have hS72 : St _ _ w71 [boxE g0 [.pointer (some ⟨gs0, 0, none⟩), .slice A0 p0.length c0] 56, boxE gs0 [.bool b74] 53, rowE .u16 45 A61 c62 l60, boxE g68 [.slice A61 l60.length c62] 38] := hS66.lend 0 1 rfl rfl _ hT75
   refine gx_k (.bool (!b73)) w71 (gx_k (.func (.func 44) #[] #[.pointer (some ⟨g68, 0, none⟩)]) w71 (gx_k (.bool (!b73)) w71 ?_))
   refine gx_nil ?_
   refine gx_thenN ?_
   refine hK55 _ _ ?_
   refine gx_ret ?_
   refine gx_blkR ?_
   refine gx_thenR ?_
   obtain ⟨its77, hi78, hF⟩ := bind_in hF
   have hS76 : St _ _ w71 [iterE Try.prog (.func (.func 44) #[] #[.pointer (some ⟨g68, 0, none⟩)]) enccoverinterval (some its77) (feet [boxE g68 [.slice A61 l60.length c62] 38, rowE .u16 45 A61 c62 l60]), boxE g0 [.pointer (some ⟨gs0, 0, none⟩), .slice A0 p0.length c0] 56, boxE gs0 [.bool b74] 53] := St.toIter (A := [boxE g68 [.slice A61 l60.length c62] 38, rowE .u16 45 A61 c62 l60]) (B := [boxE g0 [.pointer (some ⟨gs0, 0, none⟩), .slice A0 p0.length c0] 56, boxE gs0 [.bool b74] 53]) (hS72.pick [3, 2, 0, 1] rfl rfl) (cRanged1_iter N l60 _ hi78 g68 A61 c62 (hS72.row 2 rfl).2) (fun W hW => ⟨(hW (boxE g68 [.slice A61 l60.length c62] 38) (by simp)), (rowE_read (hW (rowE .u16 45 A61 c62 l60) (by simp))).1⟩)
   obtain rfl := Option.some.inj hF
   exact gx_fin (.tuple #[.func (.func 44) #[] #[.pointer (some ⟨g68, 0, none⟩)], .bool (!b73)]) (by kernel_rfl) (by kernel_rfl) ⟨_, rfl, (.func (.func 44) #[] #[.pointer (some ⟨g68, 0, none⟩)]), (feet [boxE g68 [.slice A61 l60.length c62] 38, rowE .u16 45 A61 c62 l60]), rfl, (hS76.pick [1, 2, 0] rfl rfl)⟩
  ·refine gx_v (.bool false) w18 (run_boolE (decide_eq_false h53) (by kernel_rfl)) ?_
   refine gx_k (.bool false) w18 ?_
   refine gx_nil ?_
   refine gx_thenN ?_
   refine hK52 _ _ ?_
   refine gx_no (by kernel_rfl) ?_
   refine gx_pass ?_
   refine gx_blkN ?_
   refine gx_thenN ?_
   refine hK13 _ _ ?_
   refine gx_seq (fun K79 hK80 => ?_)
   refine gx_region ?_
   refine gx_k (Value.nilFunc) w18 (gx_k (.bool false) w18 ?_)
   refine gx_nil ?_
   refine gx_thenN ?_
   refine hK80 _ _ ?_
   refine gx_ret ?_
   have hS81 : St _ _ w18 [boxE g0 [.pointer (some ⟨gs0, 0, none⟩), .slice A0 p0.length c0] 56, boxE gs0 [.bool b21] 53, iterE Try.prog Value.nilFunc enccoverinterval none ([])] := hS19.noIter _ _ _
   obtain rfl := Option.some.inj hF
   exact gx_fin (.tuple #[Value.nilFunc, .bool false]) (by kernel_rfl) (by kernel_rfl) ⟨_, rfl, Value.nilFunc, ([]), rfl, hS81⟩

def cClsI (N : Nat) (p0 : List Int) (q0 : Bool) (p1 : Int) (p2 : Int) : Option (Option (List (Int × Int × Int)) × Bool × Bool) :=
 ((bWord N p0 q0 p1).bind fun (x11, b12) => (if x11 = 1 then ((bWord N p0 b12 (IntKind.i64.wrap (p1 + 2))).bind fun (x23, b24) => ((bWord N p0 b24 (IntKind.i64.wrap (p1 + 4))).bind fun (x30, b31) => ((bWords N p0 b31 (IntKind.i64.wrap (p1 + 6)) (IntKind.i64.wrap x30)).bind fun (l39, b42) => ((bBad N p0 b42).bind fun (b53, b54) => (match b53 with | true => ((cClassed1 N l39 (IntKind.i64.wrap x23)).bind fun its57 => some ((some its57), false, b54)) | false => ((cClassed1 N l39 (IntKind.i64.wrap x23)).bind fun its60 => some ((some its60), (decide ((IntKind.i64.wrap ((IntKind.i64.wrap x23) + (IntKind.i64.wrap x30))) ≤ p2)), b54))))))) else (if x11 = 2 then ((bWord N p0 b12 (IntKind.i64.wrap (p1 + 2))).bind fun (x71, b72) => ((bWords N p0 b72 (IntKind.i64.wrap (p1 + 4)) (IntKind.i64.wrap ((3 : Int) * (IntKind.i64.wrap x71)))).bind fun (l80, b83) => ((bBad N p0 b83).bind fun (b93, b94) => ((cRanged1 N l80).bind fun its97 => some ((some its97), (!b93), b94))))) else some (none, false, b12))))

def cClsI_R (p0 : List Int) (g0 gs0 : Nat) (A0 : Option Addr) (c0 : Nat) (r : Option (List (Int × Int × Int)) × Bool × Bool) (w0 : World) (v : Value) (w : World) : Prop := ∃ (fv0' : Value) (ft0' : List Nat), v = .tuple #[fv0', .bool r.2.1] ∧ St [g0, gs0] w0 w [boxE g0 [.pointer (some ⟨gs0, 0, none⟩), .slice A0 p0.length c0] 56, boxE gs0 [.bool r.2.2] 53, iterE Try.prog fv0' enccoverinterval r.1 ft0']

set_option maxRecDepth 100000 in
set_option maxHeartbeats 4000000 in
theorem cClsI_ok (N : Nat) (p0 : List Int) (q0 : Bool) (p1 : Int) (p2 : Int) (g0 gs0 : Nat) (A0 : Option Addr) (c0 : Nat) (r : Option (List (Int × Int × Int)) × Bool × Bool) (hF : cClsI N p0 q0 p1 p2 = some r) (w0 : World) (hr0 : w0.heap[g0]? = some (.cells [.pointer (some ⟨gs0, 0, none⟩), .slice A0 p0.length c0].toArray 56 (0, 0))) (hs0 : w0.heap[gs0]? = some (.cells [.bool q0].toArray 53 (0, 0))) (hne0 : g0 ≠ gs0) (hv0 : Vw [g0, gs0] .u8 w0 A0 c0 p0) :
  Calls Try.prog 24 #[.pointer (some ⟨g0, 0, none⟩), .int .i64 p1, .int .i64 p2] w0 fun e w => ∃ v, e = .returned v ∧ cClsI_R p0 g0 gs0 A0 c0 r w0 v w := by
 have hS0 := St.lent hr0 hs0 hne0
 unfold cClsI at hF
 refine calls_of Try.func24 rfl ⟨((.pointer (some ⟨g0, 0, none⟩)) :: (.int .i64 p1) :: (.int .i64 p2) :: undef :: undef :: undef :: undef :: undef :: undef :: undef :: undef :: undef :: undef :: undef :: undef :: undef :: undef :: undef :: undef :: undef :: undef :: undef :: undef :: undef :: undef :: undef :: undef :: undef :: undef :: undef :: undef :: undef :: undef :: undef :: undef :: undef :: undef :: undef :: undef :: undef :: undef :: undef :: undef :: undef :: undef :: undef :: undef :: undef :: undef :: undef :: undef :: undef :: undef :: undef :: undef :: undef :: undef :: undef :: undef :: undef :: []).toArray, []⟩ (by kernel_rfl) ?_
 refine gx_seq (fun K1 hK2 => ?_)
 refine gx_region ?_
 refine gx_k (Value.nilFunc) w0 (gx_k (.bool false) w0 ?_)
 refine gx_nil ?_
 refine gx_thenN ?_
 refine hK2 _ _ ?_
 refine gx_seq (fun K3 hK4 => ?_)
 refine gx_seq (fun K5 hK6 => ?_)
 refine gx_region ?_
 refine gx_k (.pointer (some ⟨g0, 0, none⟩)) w0 (gx_k (.int .i64 p1) w0 ?_)
 obtain ⟨⟨x11, b12⟩, hc8, hF⟩ := bind_in hF
 try dsimp only at hF
 refine gx_c (bWord_R p0 g0 gs0 A0 c0 (x11, b12) w0) (bWord_ok N p0 q0 p1 g0 gs0 A0 c0 _ hc8 w0 (hS0.get 0 rfl) (hS0.get 1 rfl) (hS0.ne 0 1 rfl rfl (by decide)) (hS0.again hv0)) ?_
 rintro _ w9 ⟨rfl, hT13⟩
 have hS10 : St _ _ w9 [boxE g0 [.pointer (some ⟨gs0, 0, none⟩), .slice A0 p0.length c0] 56, boxE gs0 [.bool b12] 53] := hS0.lend 0 1 rfl rfl _ hT13
 refine gx_nil ?_
 refine gx_thenN ?_
 refine hK6 _ _ ?_
 refine gx_block ?_
 refine gx_seq (fun K14 hK15 => ?_)
 refine gx_region ?_
 rcases if_in hF with ⟨h16, hF⟩ | ⟨h16, hF⟩
 ·refine gx_v (.bool true) w9 (run_boolE (decide_eq_true h16) (by kernel_rfl)) ?_
  refine gx_k (.bool true) w9 ?_
  refine gx_nil ?_
  refine gx_thenN ?_
  refine hK15 _ _ ?_
  refine gx_yes (by kernel_rfl) ?_
  refine gx_seq (fun K17 hK18 => ?_)
  refine gx_region ?_
  refine gx_k (.pointer (some ⟨g0, 0, none⟩)) w9 (gx_k (.int .i64 p1) w9 (gx_k (.int .i64 (IntKind.i64.wrap (p1 + 2))) w9 ?_))
  obtain ⟨⟨x23, b24⟩, hc20, hF⟩ := bind_in hF
  try dsimp only at hF
  refine gx_c (bWord_R p0 g0 gs0 A0 c0 (x23, b24) w9) (bWord_ok N p0 b12 (IntKind.i64.wrap (p1 + 2)) g0 gs0 A0 c0 _ hc20 w9 (hS10.get 0 rfl) (hS10.get 1 rfl) (hS10.ne 0 1 rfl rfl (by decide)) (hS10.again hv0)) ?_
  rintro _ w21 ⟨rfl, hT25⟩
  have hS22 : St _ _ w21 [boxE g0 [.pointer (some ⟨gs0, 0, none⟩), .slice A0 p0.length c0] 56, boxE gs0 [.bool b24] 53] := hS10.lend 0 1 rfl rfl _ hT25
  refine gx_k (.int .i64 (IntKind.i64.wrap x23)) w21 (gx_k (.pointer (some ⟨g0, 0, none⟩)) w21 (gx_k (.int .i64 p1) w21 (gx_k (.int .i64 (IntKind.i64.wrap (p1 + 4))) w21 ?_)))
  obtain ⟨⟨x30, b31⟩, hc27, hF⟩ := bind_in hF
  try dsimp only at hF
  refine gx_c (bWord_R p0 g0 gs0 A0 c0 (x30, b31) w21) (bWord_ok N p0 b24 (IntKind.i64.wrap (p1 + 4)) g0 gs0 A0 c0 _ hc27 w21 (hS22.get 0 rfl) (hS22.get 1 rfl) (hS22.ne 0 1 rfl rfl (by decide)) (hS22.again hv0)) ?_
  rintro _ w28 ⟨rfl, hT32⟩
  have hS29 : St _ _ w28 [boxE g0 [.pointer (some ⟨gs0, 0, none⟩), .slice A0 p0.length c0] 56, boxE gs0 [.bool b31] 53] := hS22.lend 0 1 rfl rfl _ hT32
  refine gx_k (.int .i64 (IntKind.i64.wrap x30)) w28 (gx_k (.int .i64 (IntKind.i64.wrap x23)) w28 (gx_k (.int .i64 (IntKind.i64.wrap x30)) w28 ?_))
  refine gx_nil ?_
  refine gx_thenN ?_
  refine hK18 _ _ ?_
  refine gx_seq (fun K33 hK34 => ?_)
  refine gx_region ?_
  refine gx_k (.int .i64 (IntKind.i64.wrap x23)) w28 (gx_k (.pointer (some ⟨g0, 0, none⟩)) w28 (gx_k (.int .i64 p1) w28 (gx_k (.int .i64 (IntKind.i64.wrap (p1 + 6))) w28 (gx_k (.int .i64 (IntKind.i64.wrap x30)) w28 ?_))))
  obtain ⟨⟨l39, b42⟩, hc36, hF⟩ := bind_in hF
  try dsimp only at hF
  refine gx_c (bWords_R p0 g0 gs0 A0 c0 (l39, b42) w28) (bWords_ok N p0 b31 (IntKind.i64.wrap (p1 + 6)) (IntKind.i64.wrap x30) g0 gs0 A0 c0 _ hc36 w28 (hS29.get 0 rfl) (hS29.get 1 rfl) (hS29.ne 0 1 rfl rfl (by decide)) (hS29.again hv0)) ?_
  rintro _ w37 ⟨A40, c41, rfl, hT43⟩
  have hS38 : St _ _ w37 [boxE g0 [.pointer (some ⟨gs0, 0, none⟩), .slice A0 p0.length c0] 56, boxE gs0 [.bool b42] 53, rowE .u16 45 A40 c41 l39] := hS29.lend 0 1 rfl rfl _ hT43
  refine gx_c (cClassed_R A40 l39.length c41 (IntKind.i64.wrap x23) () w37) (cClassed_ok N (IntKind.i64.wrap x23) A40 l39.length c41 _ rfl w37) ?_
  rintro _ w44 ⟨g47, g48, rfl, hT46⟩
  have hS45 : St _ _ w44 [boxE g0 [.pointer (some ⟨gs0, 0, none⟩), .slice A0 p0.length c0] 56, boxE gs0 [.bool b42] 53, rowE .u16 45 A40 c41 l39, boxE g47 [.slice A40 l39.length c41] 38, boxE g48 [.int .i64 (IntKind.i64.wrap x23)] 3] := hS38.take _ hT46
  refine gx_k (.pointer (some ⟨g0, 0, none⟩)) w44 ?_
  obtain ⟨⟨b53, b54⟩, hc50, hF⟩ := bind_in hF
  try dsimp only at hF
  refine gx_c (bBad_R p0 g0 gs0 A0 c0 (b53, b54) w44) (bBad_ok N p0 b42 g0 gs0 A0 c0 _ hc50 w44 (hS45.get 0 rfl) (hS45.get 1 rfl) (hS45.ne 0 1 rfl rfl (by decide)) (hS45.again hv0)) ?_
  rintro _ w51 ⟨rfl, hT55⟩
  have hS52 : St _ _ w51 [boxE g0 [.pointer (some ⟨gs0, 0, none⟩), .slice A0 p0.length c0] 56, boxE gs0 [.bool b54] 53, rowE .u16 45 A40 c41 l39, boxE g47 [.slice A40 l39.length c41] 38, boxE g48 [.int .i64 (IntKind.i64.wrap x23)] 3] := hS45.lend 0 1 rfl rfl _ hT55
  cases b53 with
  | true =>
   try dsimp only at hF
   refine gx_k (.bool false) w51 (gx_k (.bool false) w51 (gx_o (gx_o (gx_o (gx_o (gx_o (gx_k (.bool false) w51 ?_)))))))
   refine gx_k (.func (.func 45) #[] #[.pointer (some ⟨g47, 0, none⟩), .pointer (some ⟨g48, 0, none⟩)]) w51 (gx_k (.bool false) w51 ?_)
   refine gx_nil ?_
   refine gx_thenN ?_
   refine hK34 _ _ ?_
   refine gx_ret ?_
   refine gx_blkR ?_
   refine gx_thenR ?_
   obtain ⟨its57, hi58, hF⟩ := bind_in hF
   have hS56 : St _ _ w51 [iterE Try.prog (.func (.func 45) #[] #[.pointer (some ⟨g47, 0, none⟩), .pointer (some ⟨g48, 0, none⟩)]) enccoverinterval (some its57) (feet [boxE g47 [.slice A40 l39.length c41] 38, boxE g48 [.int .i64 (IntKind.i64.wrap x23)] 3, rowE .u16 45 A40 c41 l39]), boxE g0 [.pointer (some ⟨gs0, 0, none⟩), .slice A0 p0.length c0] 56, boxE gs0 [.bool b54] 53] := St.toIter (A := [boxE g47 [.slice A40 l39.length c41] 38, boxE g48 [.int .i64 (IntKind.i64.wrap x23)] 3, rowE .u16 45 A40 c41 l39]) (B := [boxE g0 [.pointer (some ⟨gs0, 0, none⟩), .slice A0 p0.length c0] 56, boxE gs0 [.bool b54] 53]) (hS52.pick [3, 4, 2, 0, 1] rfl rfl) (cClassed1_iter N l39 (IntKind.i64.wrap x23) _ hi58 g47 A40 c41 g48 (hS52.row 2 rfl).2) (fun W hW => ⟨(hW (boxE g47 [.slice A40 l39.length c41] 38) (by simp)), (rowE_read (hW (rowE .u16 45 A40 c41 l39) (by simp))).1, (hW (boxE g48 [.int .i64 (IntKind.i64.wrap x23)] 3) (by simp))⟩)
   obtain rfl := Option.some.inj hF
   exact gx_fin (.tuple #[.func (.func 45) #[] #[.pointer (some ⟨g47, 0, none⟩), .pointer (some ⟨g48, 0, none⟩)], .bool false]) (by kernel_rfl) (by kernel_rfl) ⟨_, rfl, (.func (.func 45) #[] #[.pointer (some ⟨g47, 0, none⟩), .pointer (some ⟨g48, 0, none⟩)]), (feet [boxE g47 [.slice A40 l39.length c41] 38, boxE g48 [.int .i64 (IntKind.i64.wrap x23)] 3, rowE .u16 45 A40 c41 l39]), rfl, (hS56.pick [1, 2, 0] rfl rfl)⟩
  | false =>
   try dsimp only at hF
   refine gx_k (.bool true) w51 (gx_k (.bool true) w51 (gx_k (.int .i64 (IntKind.i64.wrap x23)) w51 (gx_k (.int .i64 (IntKind.i64.wrap x30)) w51 (gx_k (.int .i64 (IntKind.i64.wrap ((IntKind.i64.wrap x23) + (IntKind.i64.wrap x30)))) w51 (gx_k (.int .i64 p2) w51 (gx_k (.bool (decide ((IntKind.i64.wrap ((IntKind.i64.wrap x23) + (IntKind.i64.wrap x30))) ≤ p2))) w51 (gx_k (.bool (decide ((IntKind.i64.wrap ((IntKind.i64.wrap x23) + (IntKind.i64.wrap x30))) ≤ p2))) w51 ?_)))))))
   refine gx_k (.func (.func 45) #[] #[.pointer (some ⟨g47, 0, none⟩), .pointer (some ⟨g48, 0, none⟩)]) w51 (gx_k (.bool (decide ((IntKind.i64.wrap ((IntKind.i64.wrap x23) + (IntKind.i64.wrap x30))) ≤ p2))) w51 ?_)
   refine gx_nil ?_
   refine gx_thenN ?_
   refine hK34 _ _ ?_
   refine gx_ret ?_
   refine gx_blkR ?_
   refine gx_thenR ?_
   obtain ⟨its60, hi61, hF⟩ := bind_in hF
   have hS59 : St _ _ w51 [iterE Try.prog (.func (.func 45) #[] #[.pointer (some ⟨g47, 0, none⟩), .pointer (some ⟨g48, 0, none⟩)]) enccoverinterval (some its60) (feet [boxE g47 [.slice A40 l39.length c41] 38, boxE g48 [.int .i64 (IntKind.i64.wrap x23)] 3, rowE .u16 45 A40 c41 l39]), boxE g0 [.pointer (some ⟨gs0, 0, none⟩), .slice A0 p0.length c0] 56, boxE gs0 [.bool b54] 53] := St.toIter (A := [boxE g47 [.slice A40 l39.length c41] 38, boxE g48 [.int .i64 (IntKind.i64.wrap x23)] 3, rowE .u16 45 A40 c41 l39]) (B := [boxE g0 [.pointer (some ⟨gs0, 0, none⟩), .slice A0 p0.length c0] 56, boxE gs0 [.bool b54] 53]) (hS52.pick [3, 4, 2, 0, 1] rfl rfl) (cClassed1_iter N l39 (IntKind.i64.wrap x23) _ hi61 g47 A40 c41 g48 (hS52.row 2 rfl).2) (fun W hW => ⟨(hW (boxE g47 [.slice A40 l39.length c41] 38) (by simp)), (rowE_read (hW (rowE .u16 45 A40 c41 l39) (by simp))).1, (hW (boxE g48 [.int .i64 (IntKind.i64.wrap x23)] 3) (by simp))⟩)
   obtain rfl := Option.some.inj hF
   exact gx_fin (.tuple #[.func (.func 45) #[] #[.pointer (some ⟨g47, 0, none⟩), .pointer (some ⟨g48, 0, none⟩)], .bool (decide ((IntKind.i64.wrap ((IntKind.i64.wrap x23) + (IntKind.i64.wrap x30))) ≤ p2))]) (by kernel_rfl) (by kernel_rfl) ⟨_, rfl, (.func (.func 45) #[] #[.pointer (some ⟨g47, 0, none⟩), .pointer (some ⟨g48, 0, none⟩)]), (feet [boxE g47 [.slice A40 l39.length c41] 38, boxE g48 [.int .i64 (IntKind.i64.wrap x23)] 3, rowE .u16 45 A40 c41 l39]), rfl, (hS59.pick [1, 2, 0] rfl rfl)⟩
 ·refine gx_v (.bool false) w9 (run_boolE (decide_eq_false h16) (by kernel_rfl)) ?_
  refine gx_k (.bool false) w9 ?_
  refine gx_nil ?_
  refine gx_thenN ?_
  refine hK15 _ _ ?_
  refine gx_no (by kernel_rfl) ?_
  refine gx_seq (fun K62 hK63 => ?_)
  refine gx_region ?_
  rcases if_in hF with ⟨h64, hF⟩ | ⟨h64, hF⟩
  ·refine gx_v (.bool true) w9 (run_boolE (decide_eq_true h64) (by kernel_rfl)) ?_
   refine gx_k (.bool true) w9 ?_
   refine gx_nil ?_
   refine gx_thenN ?_
   refine hK63 _ _ ?_
   refine gx_yes (by kernel_rfl) ?_
   refine gx_seq (fun K65 hK66 => ?_)
   refine gx_region ?_
   refine gx_k (.pointer (some ⟨g0, 0, none⟩)) w9 (gx_k (.int .i64 p1) w9 (gx_k (.int .i64 (IntKind.i64.wrap (p1 + 2))) w9 ?_))
   obtain ⟨⟨x71, b72⟩, hc68, hF⟩ := bind_in hF
   try dsimp only at hF
   refine gx_c (bWord_R p0 g0 gs0 A0 c0 (x71, b72) w9) (bWord_ok N p0 b12 (IntKind.i64.wrap (p1 + 2)) g0 gs0 A0 c0 _ hc68 w9 (hS10.get 0 rfl) (hS10.get 1 rfl) (hS10.ne 0 1 rfl rfl (by decide)) (hS10.again hv0)) ?_
   rintro _ w69 ⟨rfl, hT73⟩
   have hS70 : St _ _ w69 [boxE g0 [.pointer (some ⟨gs0, 0, none⟩), .slice A0 p0.length c0] 56, boxE gs0 [.bool b72] 53] := hS10.lend 0 1 rfl rfl _ hT73
   refine gx_k (.int .i64 (IntKind.i64.wrap x71)) w69 (gx_k (.int .i64 (IntKind.i64.wrap x71)) w69 ?_)
   refine gx_nil ?_
   refine gx_thenN ?_
   refine hK66 _ _ ?_
   refine gx_seq (fun K74 hK75 => ?_)
   refine gx_region ?_
   refine gx_k (.pointer (some ⟨g0, 0, none⟩)) w69 (gx_k (.int .i64 p1) w69 (gx_k (.int .i64 (IntKind.i64.wrap (p1 + 4))) w69 (gx_k (.int .i64 (IntKind.i64.wrap x71)) w69 (gx_k (.int .i64 (IntKind.i64.wrap ((3 : Int) * (IntKind.i64.wrap x71)))) w69 ?_))))
   obtain ⟨⟨l80, b83⟩, hc77, hF⟩ := bind_in hF
   try dsimp only at hF
   refine gx_c (bWords_R p0 g0 gs0 A0 c0 (l80, b83) w69) (bWords_ok N p0 b72 (IntKind.i64.wrap (p1 + 4)) (IntKind.i64.wrap ((3 : Int) * (IntKind.i64.wrap x71))) g0 gs0 A0 c0 _ hc77 w69 (hS70.get 0 rfl) (hS70.get 1 rfl) (hS70.ne 0 1 rfl rfl (by decide)) (hS70.again hv0)) ?_
   rintro _ w78 ⟨A81, c82, rfl, hT84⟩
   have hS79 : St _ _ w78 [boxE g0 [.pointer (some ⟨gs0, 0, none⟩), .slice A0 p0.length c0] 56, boxE gs0 [.bool b83] 53, rowE .u16 45 A81 c82 l80] := hS70.lend 0 1 rfl rfl _ hT84
   refine gx_c (cRanged_R A81 l80.length c82 () w78) (cRanged_ok N  A81 l80.length c82 _ rfl w78) ?_
   rintro _ w85 ⟨g88, rfl, hT87⟩
   have hS86 : St _ _ w85 [boxE g0 [.pointer (some ⟨gs0, 0, none⟩), .slice A0 p0.length c0] 56, boxE gs0 [.bool b83] 53, rowE .u16 45 A81 c82 l80, boxE g88 [.slice A81 l80.length c82] 38] := hS79.take _ hT87
   refine gx_k (.pointer (some ⟨g0, 0, none⟩)) w85 ?_
   obtain ⟨⟨b93, b94⟩, hc90, hF⟩ := bind_in hF
   try dsimp only at hF
   refine gx_c (bBad_R p0 g0 gs0 A0 c0 (b93, b94) w85) (bBad_ok N p0 b83 g0 gs0 A0 c0 _ hc90 w85 (hS86.get 0 rfl) (hS86.get 1 rfl) (hS86.ne 0 1 rfl rfl (by decide)) (hS86.again hv0)) ?_
   rintro _ w91 ⟨rfl, hT95⟩
   have hS92 : St _ _ w91 [boxE g0 [.pointer (some ⟨gs0, 0, none⟩), .slice A0 p0.length c0] 56, boxE gs0 [.bool b94] 53, rowE .u16 45 A81 c82 l80, boxE g88 [.slice A81 l80.length c82] 38] := hS86.lend 0 1 rfl rfl _ hT95
   refine gx_k (.bool (!b93)) w91 (gx_k (.func (.func 44) #[] #[.pointer (some ⟨g88, 0, none⟩)]) w91 (gx_k (.bool (!b93)) w91 ?_))
   refine gx_nil ?_
   refine gx_thenN ?_
   refine hK75 _ _ ?_
   refine gx_ret ?_
   refine gx_blkR ?_
   refine gx_thenR ?_
   obtain ⟨its97, hi98, hF⟩ := bind_in hF
   have hS96 : St _ _ w91 [iterE Try.prog (.func (.func 44) #[] #[.pointer (some ⟨g88, 0, none⟩)]) enccoverinterval (some its97) (feet [boxE g88 [.slice A81 l80.length c82] 38, rowE .u16 45 A81 c82 l80]), boxE g0 [.pointer (some ⟨gs0, 0, none⟩), .slice A0 p0.length c0] 56, boxE gs0 [.bool b94] 53] := St.toIter (A := [boxE g88 [.slice A81 l80.length c82] 38, rowE .u16 45 A81 c82 l80]) (B := [boxE g0 [.pointer (some ⟨gs0, 0, none⟩), .slice A0 p0.length c0] 56, boxE gs0 [.bool b94] 53]) (hS92.pick [3, 2, 0, 1] rfl rfl) (cRanged1_iter N l80 _ hi98 g88 A81 c82 (hS92.row 2 rfl).2) (fun W hW => ⟨(hW (boxE g88 [.slice A81 l80.length c82] 38) (by simp)), (rowE_read (hW (rowE .u16 45 A81 c82 l80) (by simp))).1⟩)
   obtain rfl := Option.some.inj hF
   exact gx_fin (.tuple #[.func (.func 44) #[] #[.pointer (some ⟨g88, 0, none⟩)], .bool (!b93)]) (by kernel_rfl) (by kernel_rfl) ⟨_, rfl, (.func (.func 44) #[] #[.pointer (some ⟨g88, 0, none⟩)]), (feet [boxE g88 [.slice A81 l80.length c82] 38, rowE .u16 45 A81 c82 l80]), rfl, (hS96.pick [1, 2, 0] rfl rfl)⟩
  ·refine gx_v (.bool false) w9 (run_boolE (decide_eq_false h64) (by kernel_rfl)) ?_
   refine gx_k (.bool false) w9 ?_
   refine gx_nil ?_
   refine gx_thenN ?_
   refine hK63 _ _ ?_
   refine gx_no (by kernel_rfl) ?_
   refine gx_pass ?_
   refine gx_blkN ?_
   refine gx_thenN ?_
   refine hK4 _ _ ?_
   refine gx_seq (fun K99 hK100 => ?_)
   refine gx_region ?_
   refine gx_k (Value.nilFunc) w9 (gx_k (.bool false) w9 ?_)
   refine gx_nil ?_
   refine gx_thenN ?_
   refine hK100 _ _ ?_
   refine gx_ret ?_
   have hS101 : St _ _ w9 [boxE g0 [.pointer (some ⟨gs0, 0, none⟩), .slice A0 p0.length c0] 56, boxE gs0 [.bool b12] 53, iterE Try.prog Value.nilFunc enccoverinterval none ([])] := hS10.noIter _ _ _
   obtain rfl := Option.some.inj hF
   exact gx_fin (.tuple #[Value.nilFunc, .bool false]) (by kernel_rfl) (by kernel_rfl) ⟨_, rfl, Value.nilFunc, ([]), rfl, hS101⟩

def cCov_L2 (N : Nat) (x52 : Int) : Nat → List Int → Int → Option (List Int)
 | 0, _, _ => none
 | k104+1, l102, x103 => (if x103 ≤ x52 then ((apx l102 ([(IntKind.u16.wrap x103)])).bind fun l115 => cCov_L2 N x52 k104 l115 (IntKind.i64.wrap (x103 + 1))) else some (l102))
def cCov_X1 (N : Nat) (p2 : Int) : List (Int × Int × Int) → List Int → Int → Option (Ctl (List Int × Int) (List Int × Int))
 | [], l44, x45 => some (Ctl.go (l44, x45))
 | (x51, x52, x53) :: its54, l44, x45 => ((((cFits N x51 x52 x53 x45 p2).bind fun b79 => (match b79 with | true => (if x53 ≠ ((l44.length : Nat) : Int) then some (Ctl.ret (Ctl.ret (l44, x45))) else some (Ctl.go ())) | false => some (Ctl.ret (Ctl.ret (l44, x45))))) : Option (Ctl (Unit) (Ctl (List Int × Int) (List Int × Int)))).bind fun | Ctl.go () => ((cCov_L2 N x52 N l44 x51 : Option (List Int)).bind fun l93 => cCov_X1 N p2 its54 l93 x52) | Ctl.ret r => some r)
def cCov (N : Nat) (p0 : List Int) (q0 : Bool) (p1 : Int) (p2 : Int) : Option (List Int × Int × Bool) :=
 ((cCovI N p0 q0 p1).bind fun (i23, b26, b27) => (match b26 with | true => ((i23).bind fun its37 => ((cCov_X1 N p2 its37 ([]) (-1)).bind fun | Ctl.go (l44, _x45) => ((cCount N ((l44.length : Nat) : Int)).bind fun b135 => (match b135 with | true => some (l44, 0, b27) | false => some ([], 50, b27))) | Ctl.ret (_l44, _x45) => some ([], 50, b27))) | false => some ([], 50, b27)))

def cCov_R (p0 : List Int) (g0 gs0 : Nat) (A0 : Option Addr) (c0 : Nat) (r : List Int × Int × Bool) (w0 : World) (v : Value) (w : World) : Prop := ∃ (A0' : Option Addr) (c0' : Nat), v = .tuple #[.slice A0' r.1.length c0', .int .i64 r.2.1] ∧ St [g0, gs0] w0 w [boxE g0 [.pointer (some ⟨gs0, 0, none⟩), .slice A0 p0.length c0] 56, boxE gs0 [.bool r.2.2] 53, rowE .u16 45 A0' c0' r.1]

set_option maxRecDepth 100000 in
set_option maxHeartbeats 4000000 in
theorem cCov_ok (N : Nat) (p0 : List Int) (q0 : Bool) (p1 : Int) (p2 : Int) (g0 gs0 : Nat) (A0 : Option Addr) (c0 : Nat) (r : List Int × Int × Bool) (hF : cCov N p0 q0 p1 p2 = some r) (w0 : World) (hr0 : w0.heap[g0]? = some (.cells [.pointer (some ⟨gs0, 0, none⟩), .slice A0 p0.length c0].toArray 56 (0, 0))) (hs0 : w0.heap[gs0]? = some (.cells [.bool q0].toArray 53 (0, 0))) (hne0 : g0 ≠ gs0) (hv0 : Vw [g0, gs0] .u8 w0 A0 c0 p0) :
  Calls Try.prog 9 #[.pointer (some ⟨g0, 0, none⟩), .int .i64 p1, .int .i64 p2] w0 fun e w => ∃ v, e = .returned v ∧ cCov_R p0 g0 gs0 A0 c0 r w0 v w := by
 have hS0 := St.lent hr0 hs0 hne0
 unfold cCov at hF
 refine calls_ofM Try.func9 rfl ⟨((.pointer (some ⟨g0, 0, none⟩)) :: (.int .i64 p1) :: (.int .i64 p2) :: undef :: undef :: undef :: undef :: undef :: undef :: undef :: undef :: undef :: undef :: undef :: undef :: undef :: undef :: undef :: undef :: undef :: undef :: undef :: undef :: undef :: undef :: undef :: undef :: undef :: undef :: undef :: undef :: undef :: undef :: undef :: undef :: undef :: undef :: undef :: undef :: undef :: undef :: undef :: undef :: undef :: undef :: undef :: undef :: undef :: undef :: undef :: undef :: undef :: undef :: undef :: undef :: undef :: []).toArray, []⟩ (by kernel_rfl) ?_
 refine gx_seq (fun K1 hK2 => ?_)
 refine gx_region ?_
 refine gx_r (st_boxed [.int .i64 p2] 3 hS0 (by kernel_rfl)) ?_
 rintro _ w3 ⟨rfl, hS4⟩
 have hS4 : St _ _ w3 [boxE g0 [.pointer (some ⟨gs0, 0, none⟩), .slice A0 p0.length c0] 56, boxE gs0 [.bool q0] 53, boxE w0.heap.size [.int .i64 p2] 3] := hS4
 refine gx_k (.slice none 0 0) w3 (gx_k (.int .i64 0) w3 ?_)
 refine gx_nil ?_
 refine gx_thenN ?_
 refine hK2 _ _ ?_
 refine gx_scope 0 rfl (fun J5 hJ6 => ?_)
 refine gx_seq (fun K7 hK8 => ?_)
 refine gx_region ?_
 refine gx_r (st_boxed [.slice none 0 0] 38 hS4 (by kernel_rfl)) ?_
 rintro _ w9 ⟨rfl, hS10⟩
 have hS10 : St _ _ w9 [boxE g0 [.pointer (some ⟨gs0, 0, none⟩), .slice A0 p0.length c0] 56, boxE gs0 [.bool q0] 53, boxE w0.heap.size [.int .i64 p2] 3, boxE w3.heap.size [.slice none 0 0] 38] := hS10
 refine gx_nil ?_
 refine gx_thenN ?_
 refine hK8 _ _ ?_
 refine gx_seq (fun K11 hK12 => ?_)
 refine gx_region ?_
 refine gx_r (st_boxed [.int .i64 0] 3 hS10 (by kernel_rfl)) ?_
 rintro _ w13 ⟨rfl, hS14⟩
 have hS14 : St _ _ w13 [boxE g0 [.pointer (some ⟨gs0, 0, none⟩), .slice A0 p0.length c0] 56, boxE gs0 [.bool q0] 53, boxE w0.heap.size [.int .i64 p2] 3, boxE w3.heap.size [.slice none 0 0] 38, boxE w9.heap.size [.int .i64 0] 3] := hS14
 refine gx_s (st_store (j := 0) (v := (.int .i64 (-1))) rfl (by kernel_rfl) (by kernel_rfl) rfl (fun _ => by kernel_rfl) hS14 4 rfl (by show 0 < 1; decide)) ?_
 rintro w15 hS16
 have hS16 : St _ _ w15 [boxE g0 [.pointer (some ⟨gs0, 0, none⟩), .slice A0 p0.length c0] 56, boxE gs0 [.bool q0] 53, boxE w0.heap.size [.int .i64 p2] 3, boxE w3.heap.size [.slice none 0 0] 38, boxE w9.heap.size [.int .i64 (-1)] 3] := hS16
 refine gx_nil ?_
 refine gx_thenN ?_
 refine hK12 _ _ ?_
 refine gx_seq (fun K17 hK18 => ?_)
 refine gx_region ?_
 refine gx_k (.pointer (some ⟨g0, 0, none⟩)) w15 (gx_k (.int .i64 p1) w15 ?_)
 obtain ⟨⟨i23, b26, b27⟩, hc20, hF⟩ := bind_in hF
 try dsimp only at hF
 refine gx_c (cCovI_R p0 g0 gs0 A0 c0 (i23, b26, b27) w15) (cCovI_ok N p0 q0 p1 g0 gs0 A0 c0 _ hc20 w15 (hS16.get 0 rfl) (hS16.get 1 rfl) (hS16.ne 0 1 rfl rfl (by decide)) (hS16.again hv0)) ?_
 rintro _ w21 ⟨fv24, ft25, rfl, hT28⟩
 have hS22 : St _ _ w21 [boxE g0 [.pointer (some ⟨gs0, 0, none⟩), .slice A0 p0.length c0] 56, boxE gs0 [.bool b27] 53, boxE w0.heap.size [.int .i64 p2] 3, boxE w3.heap.size [.slice none 0 0] 38, boxE w9.heap.size [.int .i64 (-1)] 3, iterE Try.prog fv24 enccoverinterval i23 ft25] := hS16.lend 0 1 rfl rfl _ hT28
 refine gx_k (.tuple #[fv24, .bool b26]) w21 (gx_k (fv24) w21 (gx_k (.bool b26) w21 (gx_k (fv24) w21 (gx_k (.bool b26) w21 ?_))))
 refine gx_nil ?_
 refine gx_thenN ?_
 refine hK18 _ _ ?_
 refine gx_seq (fun K29 hK30 => ?_)
 refine gx_seq (fun K31 hK32 => ?_)
 refine gx_region ?_
 refine gx_k (.bool b26) w21 ?_
 cases b26 with
 | true =>
  try dsimp only at hF
  refine gx_k (.bool false) w21 ?_
  refine gx_nil ?_
  refine gx_thenN ?_
  refine hK32 _ _ ?_
  refine gx_no (by kernel_rfl) ?_
  refine gx_pass ?_
  refine gx_thenN ?_
  refine hK30 _ _ ?_
  refine gx_seq (fun K33 hK34 => ?_)
  refine gx_seq (fun K35 hK36 => ?_)
  refine gx_region ?_
  refine gx_k (fv24) w21 ?_
  refine gx_nil ?_
  refine gx_thenN ?_
  refine hK36 _ _ ?_
  refine gx_block ?_
  obtain ⟨its37, hq41, hF40⟩ := bind_in hF
  clear hF
  subst hq41
  obtain ⟨hS39, hit38⟩ := St.ranged (es := [boxE g0 [.pointer (some ⟨gs0, 0, none⟩), .slice A0 p0.length c0] 56, boxE gs0 [.bool b27] 53, boxE w0.heap.size [.int .i64 p2] 3, boxE w3.heap.size [.slice none 0 0] 38, boxE w9.heap.size [.int .i64 (-1)] 3]) (hS22.pick [0, 1, 2, 3, 4, 5] rfl rfl)
  have hS49 : St _ _ w21 [boxE g0 [.pointer (some ⟨gs0, 0, none⟩), .slice A0 p0.length c0] 56, boxE gs0 [.bool b27] 53, boxE w0.heap.size [.int .i64 p2] 3, boxE w3.heap.size [.slice none 0 0] 38, boxE w9.heap.size [.int .i64 (-1)] 3, agreeE ft25 w21, rowE .u16 45 none 0 ([])] := hS39.nilrow .u16 45
  have hS50 : St _ _ w21 ([boxE g0 [.pointer (some ⟨gs0, 0, none⟩), .slice A0 p0.length c0] 56, boxE gs0 [.bool b27] 53, boxE w0.heap.size [.int .i64 p2] 3, rowE .u16 45 none 0 ([]), boxE w3.heap.size [.slice none (([] : List Int).length) 0] 38, boxE w9.heap.size [.int .i64 (-1)] 3] ++ [agreeE ft25 w21]) := hS49.pick [0, 1, 2, 6, 3, 4, 5] rfl rfl
  obtain ⟨c46, hE47, hO48⟩ := bind_in hF40
  refine gx_range (v := fv24) (enc := enccoverinterval) (items := its37) (kp := (agreeE ft25 w21).holds) (es := [boxE g0 [.pointer (some ⟨gs0, 0, none⟩), .slice A0 p0.length c0] 56, boxE gs0 [.bool b27] 53, boxE w0.heap.size [.int .i64 p2] 3, rowE .u16 45 none 0 ([]), boxE w3.heap.size [.slice none (([] : List Int).length) 0] 38, boxE w9.heap.size [.int .i64 (-1)] 3]) (ks := [agreeE ft25 w21]) (by kernel_rfl) hit38 (fun ⟨_, _, _⟩ => rfl) hS50 agree_kp (fun rest es => ∃ (l44 : List Int) (x45 : Int) (A42 : Option Addr) (c43 : Nat), cCov_X1 N p2 rest l44 x45 = some c46 ∧ es = [boxE g0 [.pointer (some ⟨gs0, 0, none⟩), .slice A0 p0.length c0] 56, boxE gs0 [.bool b27] 53, boxE w0.heap.size [.int .i64 p2] 3, rowE .u16 45 A42 c43 l44, boxE w3.heap.size [.slice A42 l44.length c43] 38, boxE w9.heap.size [.int .i64 x45] 3]) (fun es => ∃ (l44 : List Int) (x45 : Int) (A42 : Option Addr) (c43 : Nat), c46 = Ctl.ret (l44, x45) ∧ es = [boxE g0 [.pointer (some ⟨gs0, 0, none⟩), .slice A0 p0.length c0] 56, boxE gs0 [.bool b27] 53, boxE w0.heap.size [.int .i64 p2] 3, rowE .u16 45 A42 c43 l44, boxE w3.heap.size [.slice A42 l44.length c43] 38, boxE w9.heap.size [.int .i64 x45] 3]) (.goto 0) ⟨([]), (-1), none, 0, hE47, rfl⟩ ?_ ?_ ?_
  ·rintro l56 r57 r58 ⟨x51, x52, x53⟩ its54 w59 _ ⟨l44, x45, A42, c43, hL55, rfl⟩ hS60
   rw [cCov_X1] at hL55
   refine gx_act ⟨((.pointer (some ⟨g0, 0, none⟩)) :: (.int .i64 p1) :: (.int .i64 p2) :: undef :: undef :: (.pointer (some ⟨w0.heap.size, 0, none⟩)) :: (.slice none 0 0) :: (.int .i64 0) :: (.pointer (some ⟨w3.heap.size, 0, none⟩)) :: (.pointer (some ⟨w9.heap.size, 0, none⟩)) :: fv24 :: (.bool true) :: undef :: undef :: (.tuple #[fv24, .bool true]) :: (.pointer (some ⟨g0, 0, none⟩)) :: (.int .i64 p1) :: (.tuple #[fv24, .bool true]) :: fv24 :: (.bool true) :: (.bool true) :: (.bool false) :: fv24 :: (.agg #[.int .i64 x51, .int .i64 x52, .int .i64 x53]) :: undef :: undef :: undef :: undef :: undef :: undef :: undef :: undef :: undef :: undef :: undef :: undef :: undef :: undef :: undef :: undef :: undef :: undef :: undef :: undef :: undef :: undef :: undef :: undef :: undef :: undef :: undef :: undef :: undef :: undef :: undef :: undef :: []).toArray, []⟩ (by kernel_rfl) ?_
   refine gx_region ?_
   refine gx_r (st_boxed [.int .i64 0, .int .i64 0, .int .i64 0] 63 hS60 (by kernel_rfl)) ?_
   rintro _ w62 ⟨rfl, hS63⟩
   have hS63 : St _ _ w62 [objE l56 r57, boxE g0 [.pointer (some ⟨gs0, 0, none⟩), .slice A0 p0.length c0] 56, boxE gs0 [.bool b27] 53, boxE w0.heap.size [.int .i64 p2] 3, rowE .u16 45 A42 c43 l44, boxE w3.heap.size [.slice A42 l44.length c43] 38, boxE w9.heap.size [.int .i64 x45] 3, boxE w59.heap.size [.int .i64 0, .int .i64 0, .int .i64 0] 63] := hS63
   refine gx_s (st_storeG (cs := [.int .i64 0, .int .i64 0, .int .i64 0]) (ds := [.int .i64 x51, .int .i64 x52, .int .i64 x53]) rfl (by kernel_rfl) (by kernel_rfl) (by kernel_rfl) rfl rfl hS63 7 rfl) ?_
   rintro w64 hS65
   have hS65 : St _ _ w64 [objE l56 r57, boxE g0 [.pointer (some ⟨gs0, 0, none⟩), .slice A0 p0.length c0] 56, boxE gs0 [.bool b27] 53, boxE w0.heap.size [.int .i64 p2] 3, rowE .u16 45 A42 c43 l44, boxE w3.heap.size [.slice A42 l44.length c43] 38, boxE w9.heap.size [.int .i64 x45] 3, boxE w59.heap.size [.int .i64 x51, .int .i64 x52, .int .i64 x53] 63] := hS65
   refine gx_nil ?_
   refine gx_thenN ?_
   refine ⟨[boxE g0 [.pointer (some ⟨gs0, 0, none⟩), .slice A0 p0.length c0] 56, boxE gs0 [.bool b27] 53, boxE w0.heap.size [.int .i64 p2] 3, rowE .u16 45 A42 c43 l44, boxE w3.heap.size [.slice A42 l44.length c43] 38, boxE w9.heap.size [.int .i64 x45] 3, boxE w59.heap.size [.int .i64 x51, .int .i64 x52, .int .i64 x53] 63], hS65, fun w61 hS66 => ?_⟩
   have hS66 : St _ _ w61 [objE l56 r58, boxE g0 [.pointer (some ⟨gs0, 0, none⟩), .slice A0 p0.length c0] 56, boxE gs0 [.bool b27] 53, boxE w0.heap.size [.int .i64 p2] 3, rowE .u16 45 A42 c43 l44, boxE w3.heap.size [.slice A42 l44.length c43] 38, boxE w9.heap.size [.int .i64 x45] 3, boxE w59.heap.size [.int .i64 x51, .int .i64 x52, .int .i64 x53] 63] := hS66
   refine gx_block ?_
   obtain ⟨c70, hE71, hO72⟩ := bind_in hL55
   refine gx_cut (fun a w => ∃ (u69 : Nat → Value), a = ⟨((.pointer (some ⟨g0, 0, none⟩)) :: (.int .i64 p1) :: (.int .i64 p2) :: undef :: undef :: (.pointer (some ⟨w0.heap.size, 0, none⟩)) :: (.slice none 0 0) :: (.int .i64 0) :: (.pointer (some ⟨w3.heap.size, 0, none⟩)) :: (.pointer (some ⟨w9.heap.size, 0, none⟩)) :: fv24 :: (.bool true) :: (.pointer (some ⟨w59.heap.size, 0, none⟩)) :: undef :: (.tuple #[fv24, .bool true]) :: (.pointer (some ⟨g0, 0, none⟩)) :: (.int .i64 p1) :: (.tuple #[fv24, .bool true]) :: fv24 :: (.bool true) :: (.bool true) :: (.bool false) :: fv24 :: (.agg #[.int .i64 x51, .int .i64 x52, .int .i64 x53]) :: (u69 0) :: (u69 1) :: (u69 2) :: (u69 3) :: (u69 4) :: (u69 5) :: (u69 6) :: (u69 7) :: (u69 8) :: (u69 9) :: (u69 10) :: (u69 11) :: undef :: undef :: undef :: undef :: undef :: undef :: undef :: undef :: undef :: undef :: undef :: undef :: undef :: undef :: undef :: undef :: undef :: undef :: undef :: undef :: []).toArray, []⟩ ∧ Ctl.go () = c70 ∧ St (feet [objE l56 r57, boxE g0 [.pointer (some ⟨gs0, 0, none⟩), .slice A0 p0.length c0] 56, boxE gs0 [.bool b27] 53, boxE w0.heap.size [.int .i64 p2] 3, rowE .u16 45 A42 c43 l44, boxE w3.heap.size [.slice A42 l44.length c43] 38, boxE w9.heap.size [.int .i64 x45] 3]) w59 w [objE l56 r58, boxE g0 [.pointer (some ⟨gs0, 0, none⟩), .slice A0 p0.length c0] 56, boxE gs0 [.bool b27] 53, boxE w0.heap.size [.int .i64 p2] 3, rowE .u16 45 A42 c43 l44, boxE w3.heap.size [.slice A42 l44.length c43] 38, boxE w9.heap.size [.int .i64 x45] 3, boxE w59.heap.size [.int .i64 x51, .int .i64 x52, .int .i64 x53] 63]) ?_ ?_
   ·refine gx_seq (fun K73 hK74 => ?_)
    refine gx_region ?_
    refine gx_v (.agg #[.int .i64 x51, .int .i64 x52, .int .i64 x53]) w61 (run_loadG (d := _) rfl (by kernel_rfl) (hS66.get 7 rfl) rfl rfl (by kernel_rfl)) ?_
    refine gx_v (.int .i64 x45) w61 (run_load1 rfl (by kernel_rfl) (fun _ => by kernel_rfl) (hS66.box 6 rfl 0 rfl)) ?_
    refine gx_v (.int .i64 p2) w61 (run_load1 rfl (by kernel_rfl) (fun _ => by kernel_rfl) (hS66.box 3 rfl 0 rfl)) ?_
    obtain ⟨b79, hc76, hE71⟩ := bind_in hE71
    try dsimp only at hE71
    refine gx_c (cFits_R  b79 w61) (cFits_ok N x51 x52 x53 x45 p2 _ hc76 w61 ) ?_
    rintro _ w77 ⟨rfl, hT80⟩
    have hS78 : St _ _ w77 [objE l56 r58, boxE g0 [.pointer (some ⟨gs0, 0, none⟩), .slice A0 p0.length c0] 56, boxE gs0 [.bool b27] 53, boxE w0.heap.size [.int .i64 p2] 3, rowE .u16 45 A42 c43 l44, boxE w3.heap.size [.slice A42 l44.length c43] 38, boxE w9.heap.size [.int .i64 x45] 3, boxE w59.heap.size [.int .i64 x51, .int .i64 x52, .int .i64 x53] 63] := hS66.take _ hT80
    cases b79 with
    | true =>
     try dsimp only at hE71
     refine gx_k (.bool false) w77 (gx_k (.bool false) w77 (gx_k (.pointer (some ⟨w59.heap.size, 2, none⟩)) w77 ?_))
     refine gx_v (.int .i64 x53) w77 (run_load1 rfl (by kernel_rfl) (fun _ => by kernel_rfl) (hS78.box 7 rfl 2 rfl)) ?_
     refine gx_v (.slice A42 l44.length c43) w77 (run_load1 rfl (by kernel_rfl) (fun _ => by kernel_rfl) (hS78.box 5 rfl 0 rfl)) ?_
     refine gx_k (.int .i64 ((l44.length : Nat) : Int)) w77 ?_
     rcases if_in hE71 with ⟨h81, hE71⟩ | ⟨h81, hE71⟩
     ·refine gx_v (.bool true) w77 (run_boolE (ne_yes h81) (by kernel_rfl)) ?_
      refine gx_k (.bool true) w77 ?_
      refine gx_nil ?_
      refine gx_thenN ?_
      refine hK74 _ _ ?_
      refine gx_yes (by kernel_rfl) ?_
      refine gx_goto ?_
      refine gx_thenG ?_
      obtain rfl := Option.some.inj hE71
      try dsimp only at hO72
      refine gx_blkG ?_
      exact ⟨⟨rfl, [boxE g0 [.pointer (some ⟨gs0, 0, none⟩), .slice A0 p0.length c0] 56, boxE gs0 [.bool b27] 53, boxE w0.heap.size [.int .i64 p2] 3, rowE .u16 45 A42 c43 l44, boxE w3.heap.size [.slice A42 l44.length c43] 38, boxE w9.heap.size [.int .i64 x45] 3], (hS78.pick [0, 1, 2, 3, 4, 5, 6] rfl rfl), l44, x45, A42, c43, (Option.some.inj hO72).symm, rfl⟩⟩
     ·refine gx_v (.bool false) w77 (run_boolE (ne_no h81) (by kernel_rfl)) ?_
      refine gx_k (.bool false) w77 ?_
      refine gx_nil ?_
      refine gx_thenN ?_
      refine hK74 _ _ ?_
      refine gx_no (by kernel_rfl) ?_
      refine gx_pass ?_
      refine gx_thenN ?_
      exact ⟨(fun i => List.getD ((.agg #[.int .i64 x51, .int .i64 x52, .int .i64 x53]) :: (.int .i64 x45) :: (.int .i64 p2) :: (.bool true) :: (.bool false) :: (.bool false) :: (.pointer (some ⟨w59.heap.size, 2, none⟩)) :: (.int .i64 x53) :: (.slice A42 l44.length c43) :: (.int .i64 ((l44.length : Nat) : Int)) :: (.bool false) :: (.bool false) :: []) i undef), by kernel_rfl, (Option.some.inj hE71), hS78⟩
    | false =>
     try dsimp only at hE71
     refine gx_k (.bool true) w77 (gx_k (.bool true) w77 (gx_o (gx_o (gx_o (gx_o (gx_o (gx_k (.bool true) w77 ?_)))))))
     refine gx_nil ?_
     refine gx_thenN ?_
     refine hK74 _ _ ?_
     refine gx_yes (by kernel_rfl) ?_
     refine gx_goto ?_
     refine gx_thenG ?_
     obtain rfl := Option.some.inj hE71
     try dsimp only at hO72
     refine gx_blkG ?_
     exact ⟨⟨rfl, [boxE g0 [.pointer (some ⟨gs0, 0, none⟩), .slice A0 p0.length c0] 56, boxE gs0 [.bool b27] 53, boxE w0.heap.size [.int .i64 p2] 3, rowE .u16 45 A42 c43 l44, boxE w3.heap.size [.slice A42 l44.length c43] 38, boxE w9.heap.size [.int .i64 x45] 3], (hS78.pick [0, 1, 2, 3, 4, 5, 6] rfl rfl), l44, x45, A42, c43, (Option.some.inj hO72).symm, rfl⟩⟩
   ·rintro _ w67 ⟨u69, rfl, rfl, hS68⟩
    try dsimp only at hO72
    refine gx_seq (fun K82 hK83 => ?_)
    refine gx_region ?_
    refine gx_k (.pointer (some ⟨w59.heap.size, 1, none⟩)) w67 ?_
    refine gx_v (.int .i64 x52) w67 (run_load1 rfl (by kernel_rfl) (fun _ => by kernel_rfl) (hS68.box 7 rfl 1 rfl)) ?_
    refine gx_s (st_store (j := 0) (v := (.int .i64 x52)) rfl (by kernel_rfl) (by kernel_rfl) rfl (fun _ => by kernel_rfl) hS68 6 rfl (by show 0 < 1; decide)) ?_
    rintro w84 hS85
    have hS85 : St _ _ w84 [objE l56 r58, boxE g0 [.pointer (some ⟨gs0, 0, none⟩), .slice A0 p0.length c0] 56, boxE gs0 [.bool b27] 53, boxE w0.heap.size [.int .i64 p2] 3, rowE .u16 45 A42 c43 l44, boxE w3.heap.size [.slice A42 l44.length c43] 38, boxE w9.heap.size [.int .i64 x52] 3, boxE w59.heap.size [.int .i64 x51, .int .i64 x52, .int .i64 x53] 63] := hS85
    refine gx_nil ?_
    refine gx_thenN ?_
    refine hK83 _ _ ?_
    refine gx_seq (fun K86 hK87 => ?_)
    refine gx_region ?_
    refine gx_k (.pointer (some ⟨w59.heap.size, 0, none⟩)) w84 ?_
    refine gx_v (.int .i64 x51) w84 (run_load1 rfl (by kernel_rfl) (fun _ => by kernel_rfl) (hS85.box 7 rfl 0 rfl)) ?_
    refine gx_k (.int .i64 x51) w84 ?_
    refine gx_nil ?_
    refine gx_thenN ?_
    refine hK87 _ _ ?_
    obtain ⟨c94, hE95, hO96⟩ := bind_in hO72
    refine gx_mid (fun a w => ∃ (l93 : List Int) (A91 : Option Addr) (c92 : Nat) (u90 : Nat → Value), a = ⟨((.pointer (some ⟨g0, 0, none⟩)) :: (.int .i64 p1) :: (.int .i64 p2) :: undef :: undef :: (.pointer (some ⟨w0.heap.size, 0, none⟩)) :: (.slice none 0 0) :: (.int .i64 0) :: (.pointer (some ⟨w3.heap.size, 0, none⟩)) :: (.pointer (some ⟨w9.heap.size, 0, none⟩)) :: fv24 :: (.bool true) :: (.pointer (some ⟨w59.heap.size, 0, none⟩)) :: (u90 0) :: (.tuple #[fv24, .bool true]) :: (.pointer (some ⟨g0, 0, none⟩)) :: (.int .i64 p1) :: (.tuple #[fv24, .bool true]) :: fv24 :: (.bool true) :: (.bool true) :: (.bool false) :: fv24 :: (.agg #[.int .i64 x51, .int .i64 x52, .int .i64 x53]) :: (u69 0) :: (u69 1) :: (u69 2) :: (u69 3) :: (u69 4) :: (u69 5) :: (u69 6) :: (u69 7) :: (u69 8) :: (u69 9) :: (u69 10) :: (u69 11) :: (.pointer (some ⟨w59.heap.size, 1, none⟩)) :: (.int .i64 x52) :: (.pointer (some ⟨w59.heap.size, 0, none⟩)) :: (.int .i64 x51) :: (u90 1) :: (u90 2) :: (u90 3) :: (u90 4) :: (u90 5) :: (u90 6) :: (u90 7) :: (u90 8) :: (u90 9) :: (u90 10) :: (u90 11) :: undef :: undef :: undef :: undef :: undef :: []).toArray, []⟩ ∧ l93 = c94 ∧ St (feet [objE l56 r57, boxE g0 [.pointer (some ⟨gs0, 0, none⟩), .slice A0 p0.length c0] 56, boxE gs0 [.bool b27] 53, boxE w0.heap.size [.int .i64 p2] 3, rowE .u16 45 A42 c43 l44, boxE w3.heap.size [.slice A42 l44.length c43] 38, boxE w9.heap.size [.int .i64 x45] 3]) w59 w [objE l56 r58, boxE g0 [.pointer (some ⟨gs0, 0, none⟩), .slice A0 p0.length c0] 56, boxE gs0 [.bool b27] 53, boxE w0.heap.size [.int .i64 p2] 3, rowE .u16 45 A91 c92 l93, boxE w3.heap.size [.slice A91 l93.length c92] 38, boxE w9.heap.size [.int .i64 x52] 3, boxE w59.heap.size [.int .i64 x51, .int .i64 x52, .int .i64 x53] 63]) ?_ ?_
    ·refine gx_block ?_
     refine gx_loop (fun k a w => ∃ (l102 : List Int) (x103 : Int) (A100 : Option Addr) (c101 : Nat) (u99 : Nat → Value), a = ⟨((.pointer (some ⟨g0, 0, none⟩)) :: (.int .i64 p1) :: (.int .i64 p2) :: undef :: undef :: (.pointer (some ⟨w0.heap.size, 0, none⟩)) :: (.slice none 0 0) :: (.int .i64 0) :: (.pointer (some ⟨w3.heap.size, 0, none⟩)) :: (.pointer (some ⟨w9.heap.size, 0, none⟩)) :: fv24 :: (.bool true) :: (.pointer (some ⟨w59.heap.size, 0, none⟩)) :: (.int .i64 x103) :: (.tuple #[fv24, .bool true]) :: (.pointer (some ⟨g0, 0, none⟩)) :: (.int .i64 p1) :: (.tuple #[fv24, .bool true]) :: fv24 :: (.bool true) :: (.bool true) :: (.bool false) :: fv24 :: (.agg #[.int .i64 x51, .int .i64 x52, .int .i64 x53]) :: (u69 0) :: (u69 1) :: (u69 2) :: (u69 3) :: (u69 4) :: (u69 5) :: (u69 6) :: (u69 7) :: (u69 8) :: (u69 9) :: (u69 10) :: (u69 11) :: (.pointer (some ⟨w59.heap.size, 1, none⟩)) :: (.int .i64 x52) :: (.pointer (some ⟨w59.heap.size, 0, none⟩)) :: (.int .i64 x51) :: (u99 0) :: (u99 1) :: (u99 2) :: (u99 3) :: (u99 4) :: (u99 5) :: (u99 6) :: (u99 7) :: (u99 8) :: (u99 9) :: (u99 10) :: undef :: undef :: undef :: undef :: undef :: []).toArray, []⟩ ∧ cCov_L2 N x52 k l102 x103 = some c94 ∧ St (feet [objE l56 r57, boxE g0 [.pointer (some ⟨gs0, 0, none⟩), .slice A0 p0.length c0] 56, boxE gs0 [.bool b27] 53, boxE w0.heap.size [.int .i64 p2] 3, rowE .u16 45 A42 c43 l44, boxE w3.heap.size [.slice A42 l44.length c43] 38, boxE w9.heap.size [.int .i64 x45] 3]) w59 w [objE l56 r58, boxE g0 [.pointer (some ⟨gs0, 0, none⟩), .slice A0 p0.length c0] 56, boxE gs0 [.bool b27] 53, boxE w0.heap.size [.int .i64 p2] 3, rowE .u16 45 A100 c101 l102, boxE w3.heap.size [.slice A100 l102.length c101] 38, boxE w9.heap.size [.int .i64 x52] 3, boxE w59.heap.size [.int .i64 x51, .int .i64 x52, .int .i64 x53] 63]) N ?_ ?_
     ·exact ⟨l44, x51, A42, c43, (fun i => List.getD (undef :: undef :: undef :: undef :: undef :: undef :: undef :: undef :: undef :: undef :: undef :: []) i undef), by kernel_rfl, hE95, hS85⟩
     ·rintro k104 _ w97 ⟨l102, x103, A100, c101, u99, rfl, hL105, hS98⟩
      cases k104 with
      | zero => cases hL105
      | succ k104 =>
       rw [cCov_L2] at hL105
       refine gx_seq (fun K106 hK107 => ?_)
       refine gx_seq (fun K108 hK109 => ?_)
       refine gx_region ?_
       refine gx_k (.int .i64 x103) w97 (gx_k (.pointer (some ⟨w59.heap.size, 1, none⟩)) w97 ?_)
       refine gx_v (.int .i64 x52) w97 (run_load1 rfl (by kernel_rfl) (fun _ => by kernel_rfl) (hS98.box 7 rfl 1 rfl)) ?_
       rcases if_in hL105 with ⟨h110, hL105⟩ | ⟨h110, hL105⟩
       ·refine gx_v (.bool true) w97 (run_boolE (decide_eq_true h110) (by kernel_rfl)) ?_
        refine gx_nil ?_
        refine gx_thenN ?_
        refine hK109 _ _ ?_
        refine gx_yes (by kernel_rfl) ?_
        refine gx_pass ?_
        refine gx_thenN ?_
        refine hK107 _ _ ?_
        refine gx_seq (fun K111 hK112 => ?_)
        refine gx_block ?_
        refine gx_region ?_
        refine gx_v (.slice A100 l102.length c101) w97 (run_load1 rfl (by kernel_rfl) (fun _ => by kernel_rfl) (hS98.box 5 rfl 0 rfl)) ?_
        refine gx_k (.int .i64 x103) w97 (gx_k (.int .u16 (IntKind.u16.wrap x103)) w97 ?_)
        refine gx_r (st_made .u16 45 [(IntKind.u16.wrap x103)] hS98 (by show 1 ≤ 1000000000; decide) (by kernel_rfl)) ?_
        rintro _ w113 ⟨rfl, hS114⟩
        have hS114 : St _ _ w113 [objE l56 r58, boxE g0 [.pointer (some ⟨gs0, 0, none⟩), .slice A0 p0.length c0] 56, boxE gs0 [.bool b27] 53, boxE w0.heap.size [.int .i64 p2] 3, rowE .u16 45 A100 c101 l102, boxE w3.heap.size [.slice A100 l102.length c101] 38, boxE w9.heap.size [.int .i64 x52] 3, boxE w59.heap.size [.int .i64 x51, .int .i64 x52, .int .i64 x53] 63, rowE .u16 45 (some ⟨w97.heap.size, 0, none⟩) 1 ([(IntKind.u16.wrap x103)])] := hS114
        obtain ⟨l115, ha116, hL105⟩ := bind_in hL105
        obtain ⟨ha116, hq117⟩ := apx_in ha116
        refine gx_r (st_append rfl (by kernel_rfl) (by kernel_rfl) hS114 4 rfl (hS114.row 8 rfl).1 (hS114.row 8 rfl).2 ha116 (by kernel_rfl) (by kernel_rfl)) ?_
        rintro _ w120 ⟨A118, c119, rfl, hS121⟩
        rw [← hq117] at hS121 ⊢
        have hS121 : St _ _ w120 [objE l56 r58, boxE g0 [.pointer (some ⟨gs0, 0, none⟩), .slice A0 p0.length c0] 56, boxE gs0 [.bool b27] 53, boxE w0.heap.size [.int .i64 p2] 3, rowE .u16 45 A118 c119 l115, boxE w3.heap.size [.slice A100 l102.length c101] 38, boxE w9.heap.size [.int .i64 x52] 3, boxE w59.heap.size [.int .i64 x51, .int .i64 x52, .int .i64 x53] 63, rowE .u16 45 (some ⟨w97.heap.size, 0, none⟩) 1 ([(IntKind.u16.wrap x103)])] := hS121
        refine gx_s (st_store (j := 0) (v := (.slice A118 l115.length c119)) rfl (by kernel_rfl) (by kernel_rfl) rfl (fun _ => by kernel_rfl) hS121 5 rfl (by show 0 < 1; decide)) ?_
        rintro w122 hS123
        have hS123 : St _ _ w122 [objE l56 r58, boxE g0 [.pointer (some ⟨gs0, 0, none⟩), .slice A0 p0.length c0] 56, boxE gs0 [.bool b27] 53, boxE w0.heap.size [.int .i64 p2] 3, rowE .u16 45 A118 c119 l115, boxE w3.heap.size [.slice A118 l115.length c119] 38, boxE w9.heap.size [.int .i64 x52] 3, boxE w59.heap.size [.int .i64 x51, .int .i64 x52, .int .i64 x53] 63, rowE .u16 45 (some ⟨w97.heap.size, 0, none⟩) 1 ([(IntKind.u16.wrap x103)])] := hS123
        refine gx_nil ?_
        refine gx_blkN ?_
        refine gx_thenN ?_
        refine hK112 _ _ ?_
        refine gx_region ?_
        refine gx_k (.int .i64 x103) w122 (gx_k (.int .i64 (IntKind.i64.wrap (x103 + 1))) w122 (gx_k (.int .i64 (IntKind.i64.wrap (x103 + 1))) w122 ?_))
        refine gx_nil ?_
        refine gx_thenN ?_
        exact ⟨k104, Nat.lt_succ_self k104, l115, (IntKind.i64.wrap (x103 + 1)), A118, c119, (fun i => List.getD ((.int .i64 x103) :: (.pointer (some ⟨w59.heap.size, 1, none⟩)) :: (.int .i64 x52) :: (.bool true) :: (.int .i64 x103) :: (.int .i64 (IntKind.i64.wrap (x103 + 1))) :: (.slice A100 l102.length c101) :: (.int .i64 x103) :: (.int .u16 (IntKind.u16.wrap x103)) :: (.slice (some ⟨w97.heap.size, 0, none⟩) (([(IntKind.u16.wrap x103)]).length) 1) :: (.slice A118 l115.length c119) :: []) i undef), by kernel_rfl, hL105, (hS123.pick [0, 1, 2, 3, 4, 5, 6, 7] rfl rfl)⟩
       ·refine gx_v (.bool false) w97 (run_boolE (decide_eq_false h110) (by kernel_rfl)) ?_
        refine gx_nil ?_
        refine gx_thenN ?_
        refine hK109 _ _ ?_
        refine gx_no (by kernel_rfl) ?_
        refine gx_exit ?_
        refine gx_thenE ?_
        refine gx_thenE ?_
        refine gx_blkE ?_
        refine gx_thenN ?_
        exact ⟨l102, A100, c101, (fun i => List.getD ((.int .i64 x103) :: (.int .i64 x103) :: (.pointer (some ⟨w59.heap.size, 1, none⟩)) :: (.int .i64 x52) :: (.bool false) :: (u99 4) :: (u99 5) :: (u99 6) :: (u99 7) :: (u99 8) :: (u99 9) :: (u99 10) :: []) i undef), by kernel_rfl, (Option.some.inj hL105), hS98⟩
    ·rintro _ w88 ⟨l93, A91, c92, u90, rfl, rfl, hS89⟩
     try dsimp only at hO96
     refine gx_blkN ?_
     exact ⟨⟨[boxE g0 [.pointer (some ⟨gs0, 0, none⟩), .slice A0 p0.length c0] 56, boxE gs0 [.bool b27] 53, boxE w0.heap.size [.int .i64 p2] 3, rowE .u16 45 A91 c92 l93, boxE w3.heap.size [.slice A91 l93.length c92] 38, boxE w9.heap.size [.int .i64 x52] 3], (hS89.pick [0, 1, 2, 3, 4, 5, 6] rfl rfl), l93, x52, A91, c92, hO96, rfl⟩⟩
  ·rintro D124 w125 _ ⟨l44, x45, A42, c43, hL55, rfl⟩ hS126
   rw [cCov_X1] at hL55
   obtain rfl := Option.some.inj hL55
   try dsimp only at hO48
   have hS126 : St _ _ w125 [objE D124 (.deferred (some [])), boxE g0 [.pointer (some ⟨gs0, 0, none⟩), .slice A0 p0.length c0] 56, boxE gs0 [.bool b27] 53, boxE w0.heap.size [.int .i64 p2] 3, rowE .u16 45 A42 c43 l44, boxE w3.heap.size [.slice A42 l44.length c43] 38, boxE w9.heap.size [.int .i64 x45] 3, agreeE ft25 w21] := hS126
   refine gx_blkN ?_
   refine gx_thenN ?_
   refine hK34 _ _ ?_
   refine gx_seq (fun K127 hK128 => ?_)
   refine gx_seq (fun K129 hK130 => ?_)
   refine gx_region ?_
   refine gx_v (.slice A42 l44.length c43) w125 (run_load1 rfl (by kernel_rfl) (fun _ => by kernel_rfl) (hS126.box 5 rfl 0 rfl)) ?_
   refine gx_k (.int .i64 ((l44.length : Nat) : Int)) w125 ?_
   obtain ⟨b135, hc132, hO48⟩ := bind_in hO48
   try dsimp only at hO48
   refine gx_c (cCount_R  b135 w125) (cCount_ok N ((l44.length : Nat) : Int) _ hc132 w125 ) ?_
   rintro _ w133 ⟨rfl, hT136⟩
   have hS134 : St _ _ w133 [objE D124 (.deferred (some [])), boxE g0 [.pointer (some ⟨gs0, 0, none⟩), .slice A0 p0.length c0] 56, boxE gs0 [.bool b27] 53, boxE w0.heap.size [.int .i64 p2] 3, rowE .u16 45 A42 c43 l44, boxE w3.heap.size [.slice A42 l44.length c43] 38, boxE w9.heap.size [.int .i64 x45] 3, agreeE ft25 w21] := hS126.take _ hT136
   cases b135 with
   | true =>
    try dsimp only at hO48
    refine gx_k (.bool false) w133 ?_
    refine gx_nil ?_
    refine gx_thenN ?_
    refine hK130 _ _ ?_
    refine gx_no (by kernel_rfl) ?_
    refine gx_pass ?_
    refine gx_thenN ?_
    refine hK128 _ _ ?_
    refine gx_seq (fun K137 hK138 => ?_)
    refine gx_seq (fun K139 hK140 => ?_)
    refine gx_region ?_
    refine gx_v (.slice A42 l44.length c43) w133 (run_load1 rfl (by kernel_rfl) (fun _ => by kernel_rfl) (hS134.box 5 rfl 0 rfl)) ?_
    refine gx_k (.slice A42 l44.length c43) w133 (gx_k (.int .i64 0) w133 ?_)
    refine gx_nil ?_
    refine gx_thenN ?_
    refine hK140 _ _ ?_
    refine gx_ret ?_
    refine gx_thenR ?_
    refine gx_jmpR ?_
    obtain rfl := Option.some.inj hO48
    exact gx_finM1 (es := [boxE g0 [.pointer (some ⟨gs0, 0, none⟩), .slice A0 p0.length c0] 56, boxE gs0 [.bool b27] 53, rowE .u16 45 A42 c43 l44]) (.tuple #[.slice A42 l44.length c43, .int .i64 0]) (by kernel_rfl) (hS134.pick [0, 1, 2, 4] rfl rfl) (fun w hS => ⟨by kernel_rfl, _, rfl, A42, c43, rfl, hS⟩)
   | false =>
    try dsimp only at hO48
    refine gx_k (.bool true) w133 ?_
    refine gx_nil ?_
    refine gx_thenN ?_
    refine hK130 _ _ ?_
    refine gx_yes (by kernel_rfl) ?_
    refine gx_goto ?_
    refine gx_thenG ?_
    refine gx_jmpG ?_
    refine hJ6 _ _ ?_
    refine gx_seq (fun K141 hK142 => ?_)
    refine gx_pass ?_
    refine gx_thenN ?_
    refine hK142 _ _ ?_
    refine gx_seq (fun K143 hK144 => ?_)
    refine gx_region ?_
    refine gx_k (.slice none 0 0) w133 (gx_k (.int .i64 50) w133 ?_)
    refine gx_nil ?_
    refine gx_thenN ?_
    refine hK144 _ _ ?_
    refine gx_ret ?_
    refine gx_jmpR ?_
    have hS145 : St _ _ w133 [objE D124 (.deferred (some [])), boxE g0 [.pointer (some ⟨gs0, 0, none⟩), .slice A0 p0.length c0] 56, boxE gs0 [.bool b27] 53, boxE w0.heap.size [.int .i64 p2] 3, rowE .u16 45 A42 c43 l44, boxE w3.heap.size [.slice A42 l44.length c43] 38, boxE w9.heap.size [.int .i64 x45] 3, agreeE ft25 w21, rowE .u16 45 none 0 ([])] := hS134.nilrow .u16 45
    obtain rfl := Option.some.inj hO48
    exact gx_finM1 (es := [boxE g0 [.pointer (some ⟨gs0, 0, none⟩), .slice A0 p0.length c0] 56, boxE gs0 [.bool b27] 53, rowE .u16 45 none 0 ([])]) (.tuple #[.slice none (([] : List Int).length) 0, .int .i64 50]) (by kernel_rfl) (hS145.pick [0, 1, 2, 8] rfl rfl) (fun w hS => ⟨by kernel_rfl, _, rfl, none, 0, rfl, hS⟩)
  ·rintro D124 w125 _ ⟨l44, x45, A42, c43, rfl, rfl⟩ hS126
   try dsimp only at hO48
   have hS126 : St _ _ w125 [objE D124 (.deferred (some [])), boxE g0 [.pointer (some ⟨gs0, 0, none⟩), .slice A0 p0.length c0] 56, boxE gs0 [.bool b27] 53, boxE w0.heap.size [.int .i64 p2] 3, rowE .u16 45 A42 c43 l44, boxE w3.heap.size [.slice A42 l44.length c43] 38, boxE w9.heap.size [.int .i64 x45] 3, agreeE ft25 w21] := hS126
   refine gx_goto ?_
   refine gx_blkG ?_
   refine gx_thenG ?_
   refine gx_jmpG ?_
   refine hJ6 _ _ ?_
   refine gx_seq (fun K146 hK147 => ?_)
   refine gx_pass ?_
   refine gx_thenN ?_
   refine hK147 _ _ ?_
   refine gx_seq (fun K148 hK149 => ?_)
   refine gx_region ?_
   refine gx_k (.slice none 0 0) w125 (gx_k (.int .i64 50) w125 ?_)
   refine gx_nil ?_
   refine gx_thenN ?_
   refine hK149 _ _ ?_
   refine gx_ret ?_
   refine gx_jmpR ?_
   have hS150 : St _ _ w125 [objE D124 (.deferred (some [])), boxE g0 [.pointer (some ⟨gs0, 0, none⟩), .slice A0 p0.length c0] 56, boxE gs0 [.bool b27] 53, boxE w0.heap.size [.int .i64 p2] 3, rowE .u16 45 A42 c43 l44, boxE w3.heap.size [.slice A42 l44.length c43] 38, boxE w9.heap.size [.int .i64 x45] 3, agreeE ft25 w21, rowE .u16 45 none 0 ([])] := hS126.nilrow .u16 45
   obtain rfl := Option.some.inj hO48
   exact gx_finM1 (es := [boxE g0 [.pointer (some ⟨gs0, 0, none⟩), .slice A0 p0.length c0] 56, boxE gs0 [.bool b27] 53, rowE .u16 45 none 0 ([])]) (.tuple #[.slice none (([] : List Int).length) 0, .int .i64 50]) (by kernel_rfl) (hS150.pick [0, 1, 2, 8] rfl rfl) (fun w hS => ⟨by kernel_rfl, _, rfl, none, 0, rfl, hS⟩)
 | false =>
  try dsimp only at hF
  refine gx_k (.bool true) w21 ?_
  refine gx_nil ?_
  refine gx_thenN ?_
  refine hK32 _ _ ?_
  refine gx_yes (by kernel_rfl) ?_
  refine gx_goto ?_
  refine gx_thenG ?_
  refine gx_jmpG ?_
  refine hJ6 _ _ ?_
  refine gx_seq (fun K151 hK152 => ?_)
  refine gx_pass ?_
  refine gx_thenN ?_
  refine hK152 _ _ ?_
  refine gx_seq (fun K153 hK154 => ?_)
  refine gx_region ?_
  refine gx_k (.slice none 0 0) w21 (gx_k (.int .i64 50) w21 ?_)
  refine gx_nil ?_
  refine gx_thenN ?_
  refine hK154 _ _ ?_
  refine gx_ret ?_
  refine gx_jmpR ?_
  have hS155 : St _ _ w21 [boxE g0 [.pointer (some ⟨gs0, 0, none⟩), .slice A0 p0.length c0] 56, boxE gs0 [.bool b27] 53, boxE w0.heap.size [.int .i64 p2] 3, boxE w3.heap.size [.slice none 0 0] 38, boxE w9.heap.size [.int .i64 (-1)] 3, iterE Try.prog fv24 enccoverinterval i23 ft25, rowE .u16 45 none 0 ([])] := hS22.nilrow .u16 45
  obtain rfl := Option.some.inj hF
  exact gx_finM0 (.tuple #[.slice none (([] : List Int).length) 0, .int .i64 50]) (by kernel_rfl) (by kernel_rfl) ⟨_, rfl, none, 0, rfl, (hS155.pick [0, 1, 6] rfl rfl)⟩

def cCls_L2 (N : Nat) (x81 : Int) (x82 : Int) : Nat → List Int → Int → Option (List Int)
 | 0, _, _ => none
 | k131+1, l128, x130 => (if x130 ≤ x81 then ((ix l128 x130).bind fun _x140 => ((setx l128 x130 (IntKind.u8.wrap x82)).bind fun l144 => cCls_L2 N x81 x82 k131 l144 (IntKind.i64.wrap (x130 + 1)))) else some (l128))
def cCls_X1 (N : Nat) (p2 : Int) : List (Int × Int × Int) → Int → List Int → Option (Ctl (Int × List Int) (Int × List Int))
 | [], x75, l73 => some (Ctl.go (x75, l73))
 | (x80, x81, x82) :: its83, x75, l73 => ((((cFits N x80 x81 x82 x75 p2).bind fun b108 => (match b108 with | true => (if x82 > 4 then some (Ctl.ret (Ctl.ret (x75, l73))) else some (Ctl.go ())) | false => some (Ctl.ret (Ctl.ret (x75, l73))))) : Option (Ctl (Unit) (Ctl (Int × List Int) (Int × List Int)))).bind fun | Ctl.go () => ((cCls_L2 N x81 x82 N l73 x80 : Option (List Int)).bind fun l120 => cCls_X1 N p2 its83 x81 l120) | Ctl.ret r => some r)
def cCls (N : Nat) (p0 : List Int) (q0 : Bool) (p1 : Int) (p2 : Int) : Option (List Int × Int × Bool) :=
 ((cClsI N p0 q0 p1 p2).bind fun (i23, b26, b27) => (((match b26 with | true => (if p2 < 0 then some (Ctl.ret ([], 50, b27)) else (if p2 > 65536 then some (Ctl.ret ([], 50, b27)) else some (Ctl.go ()))) | false => some (Ctl.ret ([], 50, b27))) : Option (Ctl (Unit) (List Int × Int × Bool))).bind fun | Ctl.go () => ((mkx p2).bind fun l56 => ((i23).bind fun its68 => ((cCls_X1 N p2 its68 (-1) l56).bind fun | Ctl.go (_x75, l73) => some (l73, 0, b27) | Ctl.ret (_x75, _l73) => some ([], 50, b27)))) | Ctl.ret r => some r))

def cCls_R (p0 : List Int) (g0 gs0 : Nat) (A0 : Option Addr) (c0 : Nat) (r : List Int × Int × Bool) (w0 : World) (v : Value) (w : World) : Prop := ∃ (A0' : Option Addr) (c0' : Nat), v = .tuple #[.slice A0' r.1.length c0', .int .i64 r.2.1] ∧ St [g0, gs0] w0 w [boxE g0 [.pointer (some ⟨gs0, 0, none⟩), .slice A0 p0.length c0] 56, boxE gs0 [.bool r.2.2] 53, rowE .u8 5 A0' c0' r.1]

set_option maxRecDepth 100000 in
set_option maxHeartbeats 4000000 in
theorem cCls_ok (N : Nat) (p0 : List Int) (q0 : Bool) (p1 : Int) (p2 : Int) (g0 gs0 : Nat) (A0 : Option Addr) (c0 : Nat) (r : List Int × Int × Bool) (hF : cCls N p0 q0 p1 p2 = some r) (w0 : World) (hr0 : w0.heap[g0]? = some (.cells [.pointer (some ⟨gs0, 0, none⟩), .slice A0 p0.length c0].toArray 56 (0, 0))) (hs0 : w0.heap[gs0]? = some (.cells [.bool q0].toArray 53 (0, 0))) (hne0 : g0 ≠ gs0) (hv0 : Vw [g0, gs0] .u8 w0 A0 c0 p0) :
  Calls Try.prog 10 #[.pointer (some ⟨g0, 0, none⟩), .int .i64 p1, .int .i64 p2] w0 fun e w => ∃ v, e = .returned v ∧ cCls_R p0 g0 gs0 A0 c0 r w0 v w := by
 have hS0 := St.lent hr0 hs0 hne0
 unfold cCls at hF
 refine calls_ofM Try.func10 rfl ⟨((.pointer (some ⟨g0, 0, none⟩)) :: (.int .i64 p1) :: (.int .i64 p2) :: undef :: undef :: undef :: undef :: undef :: undef :: undef :: undef :: undef :: undef :: undef :: undef :: undef :: undef :: undef :: undef :: undef :: undef :: undef :: undef :: undef :: undef :: undef :: undef :: undef :: undef :: undef :: undef :: undef :: undef :: undef :: undef :: undef :: undef :: undef :: undef :: undef :: undef :: undef :: undef :: undef :: undef :: undef :: undef :: undef :: undef :: undef :: undef :: undef :: undef :: undef :: undef :: undef :: undef :: undef :: undef :: undef :: undef :: undef :: []).toArray, []⟩ (by kernel_rfl) ?_
 refine gx_seq (fun K1 hK2 => ?_)
 refine gx_region ?_
 refine gx_r (st_boxed [.int .i64 p2] 3 hS0 (by kernel_rfl)) ?_
 rintro _ w3 ⟨rfl, hS4⟩
 have hS4 : St _ _ w3 [boxE g0 [.pointer (some ⟨gs0, 0, none⟩), .slice A0 p0.length c0] 56, boxE gs0 [.bool q0] 53, boxE w0.heap.size [.int .i64 p2] 3] := hS4
 refine gx_k (.slice none 0 0) w3 (gx_k (.int .i64 0) w3 ?_)
 refine gx_nil ?_
 refine gx_thenN ?_
 refine hK2 _ _ ?_
 refine gx_scope 0 rfl (fun J5 hJ6 => ?_)
 refine gx_seq (fun K7 hK8 => ?_)
 refine gx_region ?_
 refine gx_r (st_boxed [.slice none 0 0] 22 hS4 (by kernel_rfl)) ?_
 rintro _ w9 ⟨rfl, hS10⟩
 have hS10 : St _ _ w9 [boxE g0 [.pointer (some ⟨gs0, 0, none⟩), .slice A0 p0.length c0] 56, boxE gs0 [.bool q0] 53, boxE w0.heap.size [.int .i64 p2] 3, boxE w3.heap.size [.slice none 0 0] 22] := hS10
 refine gx_nil ?_
 refine gx_thenN ?_
 refine hK8 _ _ ?_
 refine gx_seq (fun K11 hK12 => ?_)
 refine gx_region ?_
 refine gx_r (st_boxed [.int .i64 0] 3 hS10 (by kernel_rfl)) ?_
 rintro _ w13 ⟨rfl, hS14⟩
 have hS14 : St _ _ w13 [boxE g0 [.pointer (some ⟨gs0, 0, none⟩), .slice A0 p0.length c0] 56, boxE gs0 [.bool q0] 53, boxE w0.heap.size [.int .i64 p2] 3, boxE w3.heap.size [.slice none 0 0] 22, boxE w9.heap.size [.int .i64 0] 3] := hS14
 refine gx_s (st_store (j := 0) (v := (.int .i64 (-1))) rfl (by kernel_rfl) (by kernel_rfl) rfl (fun _ => by kernel_rfl) hS14 4 rfl (by show 0 < 1; decide)) ?_
 rintro w15 hS16
 have hS16 : St _ _ w15 [boxE g0 [.pointer (some ⟨gs0, 0, none⟩), .slice A0 p0.length c0] 56, boxE gs0 [.bool q0] 53, boxE w0.heap.size [.int .i64 p2] 3, boxE w3.heap.size [.slice none 0 0] 22, boxE w9.heap.size [.int .i64 (-1)] 3] := hS16
 refine gx_nil ?_
 refine gx_thenN ?_
 refine hK12 _ _ ?_
 refine gx_seq (fun K17 hK18 => ?_)
 refine gx_region ?_
 refine gx_k (.pointer (some ⟨g0, 0, none⟩)) w15 (gx_k (.int .i64 p1) w15 ?_)
 refine gx_v (.int .i64 p2) w15 (run_load1 rfl (by kernel_rfl) (fun _ => by kernel_rfl) (hS16.box 2 rfl 0 rfl)) ?_
 obtain ⟨⟨i23, b26, b27⟩, hc20, hF⟩ := bind_in hF
 try dsimp only at hF
 refine gx_c (cClsI_R p0 g0 gs0 A0 c0 (i23, b26, b27) w15) (cClsI_ok N p0 q0 p1 p2 g0 gs0 A0 c0 _ hc20 w15 (hS16.get 0 rfl) (hS16.get 1 rfl) (hS16.ne 0 1 rfl rfl (by decide)) (hS16.again hv0)) ?_
 rintro _ w21 ⟨fv24, ft25, rfl, hT28⟩
 have hS22 : St _ _ w21 [boxE g0 [.pointer (some ⟨gs0, 0, none⟩), .slice A0 p0.length c0] 56, boxE gs0 [.bool b27] 53, boxE w0.heap.size [.int .i64 p2] 3, boxE w3.heap.size [.slice none 0 0] 22, boxE w9.heap.size [.int .i64 (-1)] 3, iterE Try.prog fv24 enccoverinterval i23 ft25] := hS16.lend 0 1 rfl rfl _ hT28
 refine gx_k (.tuple #[fv24, .bool b26]) w21 (gx_k (fv24) w21 (gx_k (.bool b26) w21 (gx_k (fv24) w21 (gx_k (.bool b26) w21 ?_))))
 refine gx_nil ?_
 refine gx_thenN ?_
 refine hK18 _ _ ?_
 obtain ⟨c32, hE33, hO34⟩ := bind_in hF
 refine gx_cut (fun a w => ∃ (u31 : Nat → Value), a = ⟨((.pointer (some ⟨g0, 0, none⟩)) :: (.int .i64 p1) :: (.int .i64 p2) :: undef :: undef :: (.pointer (some ⟨w0.heap.size, 0, none⟩)) :: (.slice none 0 0) :: (.int .i64 0) :: (.pointer (some ⟨w3.heap.size, 0, none⟩)) :: (.pointer (some ⟨w9.heap.size, 0, none⟩)) :: fv24 :: (.bool b26) :: undef :: undef :: (.tuple #[fv24, .bool b26]) :: (.pointer (some ⟨g0, 0, none⟩)) :: (.int .i64 p1) :: (.int .i64 p2) :: (.tuple #[fv24, .bool b26]) :: fv24 :: (.bool b26) :: (u31 0) :: (u31 1) :: (u31 2) :: (u31 3) :: (u31 4) :: (u31 5) :: (u31 6) :: (u31 7) :: (u31 8) :: (u31 9) :: undef :: undef :: undef :: undef :: undef :: undef :: undef :: undef :: undef :: undef :: undef :: undef :: undef :: undef :: undef :: undef :: undef :: undef :: undef :: undef :: undef :: undef :: undef :: undef :: undef :: undef :: undef :: undef :: undef :: undef :: undef :: []).toArray, []⟩ ∧ Ctl.go () = c32 ∧ St [g0, gs0] w0 w [boxE g0 [.pointer (some ⟨gs0, 0, none⟩), .slice A0 p0.length c0] 56, boxE gs0 [.bool b27] 53, boxE w0.heap.size [.int .i64 p2] 3, boxE w3.heap.size [.slice none 0 0] 22, boxE w9.heap.size [.int .i64 (-1)] 3, iterE Try.prog fv24 enccoverinterval i23 ft25]) ?_ ?_
 ·refine gx_seq (fun K35 hK36 => ?_)
  refine gx_region ?_
  refine gx_k (.bool b26) w21 ?_
  cases b26 with
  | true =>
   try dsimp only at hE33
   refine gx_k (.bool false) w21 (gx_k (.bool false) w21 ?_)
   refine gx_v (.int .i64 p2) w21 (run_load1 rfl (by kernel_rfl) (fun _ => by kernel_rfl) (hS22.box 2 rfl 0 rfl)) ?_
   rcases if_in hE33 with ⟨h37, hE33⟩ | ⟨h37, hE33⟩
   ·refine gx_v (.bool true) w21 (run_boolE (decide_eq_true h37) (by kernel_rfl)) ?_
    refine gx_k (.bool true) w21 (gx_k (.bool true) w21 (gx_o (gx_o (gx_k (.bool true) w21 ?_))))
    refine gx_nil ?_
    refine gx_thenN ?_
    refine hK36 _ _ ?_
    refine gx_yes (by kernel_rfl) ?_
    refine gx_goto ?_
    refine gx_thenG ?_
    obtain rfl := Option.some.inj hE33
    try dsimp only at hO34
    refine gx_jmpG ?_
    refine hJ6 _ _ ?_
    refine gx_seq (fun K38 hK39 => ?_)
    refine gx_pass ?_
    refine gx_thenN ?_
    refine hK39 _ _ ?_
    refine gx_seq (fun K40 hK41 => ?_)
    refine gx_region ?_
    refine gx_k (.slice none 0 0) w21 (gx_k (.int .i64 50) w21 ?_)
    refine gx_nil ?_
    refine gx_thenN ?_
    refine hK41 _ _ ?_
    refine gx_ret ?_
    refine gx_jmpR ?_
    have hS42 : St _ _ w21 [boxE g0 [.pointer (some ⟨gs0, 0, none⟩), .slice A0 p0.length c0] 56, boxE gs0 [.bool b27] 53, boxE w0.heap.size [.int .i64 p2] 3, boxE w3.heap.size [.slice none 0 0] 22, boxE w9.heap.size [.int .i64 (-1)] 3, iterE Try.prog fv24 enccoverinterval i23 ft25, rowE .u8 5 none 0 ([])] := hS22.nilrow .u8 5
    obtain rfl := Option.some.inj hO34
    exact gx_finM0 (.tuple #[.slice none (([] : List Int).length) 0, .int .i64 50]) (by kernel_rfl) (by kernel_rfl) ⟨_, rfl, none, 0, rfl, (hS42.pick [0, 1, 6] rfl rfl)⟩
   ·refine gx_v (.bool false) w21 (run_boolE (decide_eq_false h37) (by kernel_rfl)) ?_
    refine gx_k (.bool false) w21 (gx_k (.bool false) w21 ?_)
    refine gx_v (.int .i64 p2) w21 (run_load1 rfl (by kernel_rfl) (fun _ => by kernel_rfl) (hS22.box 2 rfl 0 rfl)) ?_
    rcases if_in hE33 with ⟨h43, hE33⟩ | ⟨h43, hE33⟩
    ·refine gx_v (.bool true) w21 (run_boolE (decide_eq_true h43) (by kernel_rfl)) ?_
     refine gx_k (.bool true) w21 ?_
     refine gx_nil ?_
     refine gx_thenN ?_
     refine hK36 _ _ ?_
     refine gx_yes (by kernel_rfl) ?_
     refine gx_goto ?_
     refine gx_thenG ?_
     obtain rfl := Option.some.inj hE33
     try dsimp only at hO34
     refine gx_jmpG ?_
     refine hJ6 _ _ ?_
     refine gx_seq (fun K44 hK45 => ?_)
     refine gx_pass ?_
     refine gx_thenN ?_
     refine hK45 _ _ ?_
     refine gx_seq (fun K46 hK47 => ?_)
     refine gx_region ?_
     refine gx_k (.slice none 0 0) w21 (gx_k (.int .i64 50) w21 ?_)
     refine gx_nil ?_
     refine gx_thenN ?_
     refine hK47 _ _ ?_
     refine gx_ret ?_
     refine gx_jmpR ?_
     have hS48 : St _ _ w21 [boxE g0 [.pointer (some ⟨gs0, 0, none⟩), .slice A0 p0.length c0] 56, boxE gs0 [.bool b27] 53, boxE w0.heap.size [.int .i64 p2] 3, boxE w3.heap.size [.slice none 0 0] 22, boxE w9.heap.size [.int .i64 (-1)] 3, iterE Try.prog fv24 enccoverinterval i23 ft25, rowE .u8 5 none 0 ([])] := hS22.nilrow .u8 5
     obtain rfl := Option.some.inj hO34
     exact gx_finM0 (.tuple #[.slice none (([] : List Int).length) 0, .int .i64 50]) (by kernel_rfl) (by kernel_rfl) ⟨_, rfl, none, 0, rfl, (hS48.pick [0, 1, 6] rfl rfl)⟩
    ·refine gx_v (.bool false) w21 (run_boolE (decide_eq_false h43) (by kernel_rfl)) ?_
     refine gx_k (.bool false) w21 ?_
     refine gx_nil ?_
     refine gx_thenN ?_
     refine hK36 _ _ ?_
     refine gx_no (by kernel_rfl) ?_
     refine gx_pass ?_
     refine gx_thenN ?_
     exact ⟨(fun i => List.getD ((.bool true) :: (.bool false) :: (.bool false) :: (.int .i64 p2) :: (.bool false) :: (.bool false) :: (.bool false) :: (.int .i64 p2) :: (.bool false) :: (.bool false) :: []) i undef), by kernel_rfl, (Option.some.inj hE33), hS22⟩
  | false =>
   try dsimp only at hE33
   refine gx_k (.bool true) w21 (gx_k (.bool true) w21 (gx_o (gx_o (gx_k (.bool true) w21 (gx_k (.bool true) w21 (gx_o (gx_o ?_)))))))
   refine gx_k (.bool true) w21 ?_
   refine gx_nil ?_
   refine gx_thenN ?_
   refine hK36 _ _ ?_
   refine gx_yes (by kernel_rfl) ?_
   refine gx_goto ?_
   refine gx_thenG ?_
   obtain rfl := Option.some.inj hE33
   try dsimp only at hO34
   refine gx_jmpG ?_
   refine hJ6 _ _ ?_
   refine gx_seq (fun K49 hK50 => ?_)
   refine gx_pass ?_
   refine gx_thenN ?_
   refine hK50 _ _ ?_
   refine gx_seq (fun K51 hK52 => ?_)
   refine gx_region ?_
   refine gx_k (.slice none 0 0) w21 (gx_k (.int .i64 50) w21 ?_)
   refine gx_nil ?_
   refine gx_thenN ?_
   refine hK52 _ _ ?_
   refine gx_ret ?_
   refine gx_jmpR ?_
   have hS53 : St _ _ w21 [boxE g0 [.pointer (some ⟨gs0, 0, none⟩), .slice A0 p0.length c0] 56, boxE gs0 [.bool b27] 53, boxE w0.heap.size [.int .i64 p2] 3, boxE w3.heap.size [.slice none 0 0] 22, boxE w9.heap.size [.int .i64 (-1)] 3, iterE Try.prog fv24 enccoverinterval i23 ft25, rowE .u8 5 none 0 ([])] := hS22.nilrow .u8 5
   obtain rfl := Option.some.inj hO34
   exact gx_finM0 (.tuple #[.slice none (([] : List Int).length) 0, .int .i64 50]) (by kernel_rfl) (by kernel_rfl) ⟨_, rfl, none, 0, rfl, (hS53.pick [0, 1, 6] rfl rfl)⟩
 ·rintro _ w29 ⟨u31, rfl, rfl, hS30⟩
  try dsimp only at hO34
  refine gx_seq (fun K54 hK55 => ?_)
  refine gx_region ?_
  refine gx_v (.int .i64 p2) w29 (run_load1 rfl (by kernel_rfl) (fun _ => by kernel_rfl) (hS30.box 2 rfl 0 rfl)) ?_
  obtain ⟨l56, hm57, hO34⟩ := bind_in hO34
  refine gx_r (st_make (T := 5) (k := .u8) (by_ := 1) rfl (by kernel_rfl) (by kernel_rfl) (by kernel_rfl) (by kernel_rfl) (by kernel_rfl) hS30 hm57) ?_
  rintro _ w58 ⟨A60, c61, rfl, hS59⟩
  have hS59 : St _ _ w58 [boxE g0 [.pointer (some ⟨gs0, 0, none⟩), .slice A0 p0.length c0] 56, boxE gs0 [.bool b27] 53, boxE w0.heap.size [.int .i64 p2] 3, boxE w3.heap.size [.slice none 0 0] 22, boxE w9.heap.size [.int .i64 (-1)] 3, iterE Try.prog fv24 enccoverinterval i23 ft25, rowE .u8 5 A60 c61 l56] := hS59
  refine gx_s (st_store (j := 0) (v := (.slice A60 l56.length c61)) rfl (by kernel_rfl) (by kernel_rfl) rfl (fun _ => by kernel_rfl) hS59 3 rfl (by show 0 < 1; decide)) ?_
  rintro w62 hS63
  have hS63 : St _ _ w62 [boxE g0 [.pointer (some ⟨gs0, 0, none⟩), .slice A0 p0.length c0] 56, boxE gs0 [.bool b27] 53, boxE w0.heap.size [.int .i64 p2] 3, boxE w3.heap.size [.slice A60 l56.length c61] 22, boxE w9.heap.size [.int .i64 (-1)] 3, iterE Try.prog fv24 enccoverinterval i23 ft25, rowE .u8 5 A60 c61 l56] := hS63
  refine gx_nil ?_
  refine gx_thenN ?_
  refine hK55 _ _ ?_
  refine gx_seq (fun K64 hK65 => ?_)
  refine gx_seq (fun K66 hK67 => ?_)
  refine gx_region ?_
  refine gx_k (fv24) w62 ?_
  refine gx_nil ?_
  refine gx_thenN ?_
  refine hK67 _ _ ?_
  refine gx_block ?_
  obtain ⟨its68, hq72, hF71⟩ := bind_in hO34
  clear hO34
  subst hq72
  obtain ⟨hS70, hit69⟩ := St.ranged (es := [boxE g0 [.pointer (some ⟨gs0, 0, none⟩), .slice A0 p0.length c0] 56, boxE gs0 [.bool b27] 53, boxE w0.heap.size [.int .i64 p2] 3, boxE w3.heap.size [.slice A60 l56.length c61] 22, boxE w9.heap.size [.int .i64 (-1)] 3, rowE .u8 5 A60 c61 l56]) (hS63.pick [0, 1, 2, 3, 4, 6, 5] rfl rfl)
  have hS79 : St _ _ w62 ([boxE g0 [.pointer (some ⟨gs0, 0, none⟩), .slice A0 p0.length c0] 56, boxE gs0 [.bool b27] 53, boxE w0.heap.size [.int .i64 p2] 3, boxE w3.heap.size [.slice A60 l56.length c61] 22, boxE w9.heap.size [.int .i64 (-1)] 3, rowE .u8 5 A60 c61 l56] ++ [agreeE ft25 w62]) := hS70.pick [0, 1, 2, 3, 4, 5, 6] rfl rfl
  obtain ⟨c76, hE77, hO78⟩ := bind_in hF71
  refine gx_range (v := fv24) (enc := enccoverinterval) (items := its68) (kp := (agreeE ft25 w62).holds) (es := [boxE g0 [.pointer (some ⟨gs0, 0, none⟩), .slice A0 p0.length c0] 56, boxE gs0 [.bool b27] 53, boxE w0.heap.size [.int .i64 p2] 3, boxE w3.heap.size [.slice A60 l56.length c61] 22, boxE w9.heap.size [.int .i64 (-1)] 3, rowE .u8 5 A60 c61 l56]) (ks := [agreeE ft25 w62]) (by kernel_rfl) hit69 (fun ⟨_, _, _⟩ => rfl) hS79 agree_kp (fun rest es => ∃ (x75 : Int) (l73 : List Int), cCls_X1 N p2 rest x75 l73 = some c76 ∧ es = [boxE g0 [.pointer (some ⟨gs0, 0, none⟩), .slice A0 p0.length c0] 56, boxE gs0 [.bool b27] 53, boxE w0.heap.size [.int .i64 p2] 3, boxE w3.heap.size [.slice A60 l73.length c61] 22, boxE w9.heap.size [.int .i64 x75] 3, rowE .u8 5 A60 c61 l73]) (fun es => ∃ (x75 : Int) (l73 : List Int), c76 = Ctl.ret (x75, l73) ∧ es = [boxE g0 [.pointer (some ⟨gs0, 0, none⟩), .slice A0 p0.length c0] 56, boxE gs0 [.bool b27] 53, boxE w0.heap.size [.int .i64 p2] 3, boxE w3.heap.size [.slice A60 l73.length c61] 22, boxE w9.heap.size [.int .i64 x75] 3, rowE .u8 5 A60 c61 l73]) (.goto 0) ⟨(-1), l56, hE77, rfl⟩ ?_ ?_ ?_
  ·rintro l85 r86 r87 ⟨x80, x81, x82⟩ its83 w88 _ ⟨x75, l73, hL84, rfl⟩ hS89
   rw [cCls_X1] at hL84
   refine gx_act ⟨((.pointer (some ⟨g0, 0, none⟩)) :: (.int .i64 p1) :: (.int .i64 p2) :: undef :: undef :: (.pointer (some ⟨w0.heap.size, 0, none⟩)) :: (.slice none 0 0) :: (.int .i64 0) :: (.pointer (some ⟨w3.heap.size, 0, none⟩)) :: (.pointer (some ⟨w9.heap.size, 0, none⟩)) :: fv24 :: (.bool b26) :: undef :: undef :: (.tuple #[fv24, .bool b26]) :: (.pointer (some ⟨g0, 0, none⟩)) :: (.int .i64 p1) :: (.int .i64 p2) :: (.tuple #[fv24, .bool b26]) :: fv24 :: (.bool b26) :: (u31 0) :: (u31 1) :: (u31 2) :: (u31 3) :: (u31 4) :: (u31 5) :: (u31 6) :: (u31 7) :: (u31 8) :: (u31 9) :: (.int .i64 p2) :: (.slice A60 l56.length c61) :: fv24 :: (.agg #[.int .i64 x80, .int .i64 x81, .int .i64 x82]) :: undef :: undef :: undef :: undef :: undef :: undef :: undef :: undef :: undef :: undef :: undef :: undef :: undef :: undef :: undef :: undef :: undef :: undef :: undef :: undef :: undef :: undef :: undef :: undef :: undef :: undef :: undef :: []).toArray, []⟩ (by kernel_rfl) ?_
   refine gx_region ?_
   refine gx_r (st_boxed [.int .i64 0, .int .i64 0, .int .i64 0] 63 hS89 (by kernel_rfl)) ?_
   rintro _ w91 ⟨rfl, hS92⟩
   have hS92 : St _ _ w91 [objE l85 r86, boxE g0 [.pointer (some ⟨gs0, 0, none⟩), .slice A0 p0.length c0] 56, boxE gs0 [.bool b27] 53, boxE w0.heap.size [.int .i64 p2] 3, boxE w3.heap.size [.slice A60 l73.length c61] 22, boxE w9.heap.size [.int .i64 x75] 3, rowE .u8 5 A60 c61 l73, boxE w88.heap.size [.int .i64 0, .int .i64 0, .int .i64 0] 63] := hS92
   refine gx_s (st_storeG (cs := [.int .i64 0, .int .i64 0, .int .i64 0]) (ds := [.int .i64 x80, .int .i64 x81, .int .i64 x82]) rfl (by kernel_rfl) (by kernel_rfl) (by kernel_rfl) rfl rfl hS92 7 rfl) ?_
   rintro w93 hS94
   have hS94 : St _ _ w93 [objE l85 r86, boxE g0 [.pointer (some ⟨gs0, 0, none⟩), .slice A0 p0.length c0] 56, boxE gs0 [.bool b27] 53, boxE w0.heap.size [.int .i64 p2] 3, boxE w3.heap.size [.slice A60 l73.length c61] 22, boxE w9.heap.size [.int .i64 x75] 3, rowE .u8 5 A60 c61 l73, boxE w88.heap.size [.int .i64 x80, .int .i64 x81, .int .i64 x82] 63] := hS94
   refine gx_nil ?_
   refine gx_thenN ?_
   refine ⟨[boxE g0 [.pointer (some ⟨gs0, 0, none⟩), .slice A0 p0.length c0] 56, boxE gs0 [.bool b27] 53, boxE w0.heap.size [.int .i64 p2] 3, boxE w3.heap.size [.slice A60 l73.length c61] 22, boxE w9.heap.size [.int .i64 x75] 3, rowE .u8 5 A60 c61 l73, boxE w88.heap.size [.int .i64 x80, .int .i64 x81, .int .i64 x82] 63], hS94, fun w90 hS95 => ?_⟩
   have hS95 : St _ _ w90 [objE l85 r87, boxE g0 [.pointer (some ⟨gs0, 0, none⟩), .slice A0 p0.length c0] 56, boxE gs0 [.bool b27] 53, boxE w0.heap.size [.int .i64 p2] 3, boxE w3.heap.size [.slice A60 l73.length c61] 22, boxE w9.heap.size [.int .i64 x75] 3, rowE .u8 5 A60 c61 l73, boxE w88.heap.size [.int .i64 x80, .int .i64 x81, .int .i64 x82] 63] := hS95
   refine gx_block ?_
   obtain ⟨c99, hE100, hO101⟩ := bind_in hL84
   refine gx_cut (fun a w => ∃ (u98 : Nat → Value), a = ⟨((.pointer (some ⟨g0, 0, none⟩)) :: (.int .i64 p1) :: (.int .i64 p2) :: undef :: undef :: (.pointer (some ⟨w0.heap.size, 0, none⟩)) :: (.slice none 0 0) :: (.int .i64 0) :: (.pointer (some ⟨w3.heap.size, 0, none⟩)) :: (.pointer (some ⟨w9.heap.size, 0, none⟩)) :: fv24 :: (.bool b26) :: (.pointer (some ⟨w88.heap.size, 0, none⟩)) :: undef :: (.tuple #[fv24, .bool b26]) :: (.pointer (some ⟨g0, 0, none⟩)) :: (.int .i64 p1) :: (.int .i64 p2) :: (.tuple #[fv24, .bool b26]) :: fv24 :: (.bool b26) :: (u31 0) :: (u31 1) :: (u31 2) :: (u31 3) :: (u31 4) :: (u31 5) :: (u31 6) :: (u31 7) :: (u31 8) :: (u31 9) :: (.int .i64 p2) :: (.slice A60 l56.length c61) :: fv24 :: (.agg #[.int .i64 x80, .int .i64 x81, .int .i64 x82]) :: (u98 0) :: (u98 1) :: (u98 2) :: (u98 3) :: (u98 4) :: (u98 5) :: (u98 6) :: (u98 7) :: (u98 8) :: (u98 9) :: undef :: undef :: undef :: undef :: undef :: undef :: undef :: undef :: undef :: undef :: undef :: undef :: undef :: undef :: undef :: undef :: undef :: []).toArray, []⟩ ∧ Ctl.go () = c99 ∧ St (feet [objE l85 r86, boxE g0 [.pointer (some ⟨gs0, 0, none⟩), .slice A0 p0.length c0] 56, boxE gs0 [.bool b27] 53, boxE w0.heap.size [.int .i64 p2] 3, boxE w3.heap.size [.slice A60 l73.length c61] 22, boxE w9.heap.size [.int .i64 x75] 3, rowE .u8 5 A60 c61 l73]) w88 w [objE l85 r87, boxE g0 [.pointer (some ⟨gs0, 0, none⟩), .slice A0 p0.length c0] 56, boxE gs0 [.bool b27] 53, boxE w0.heap.size [.int .i64 p2] 3, rowE .u8 5 A60 c61 l73, boxE w3.heap.size [.slice A60 l73.length c61] 22, boxE w9.heap.size [.int .i64 x75] 3, boxE w88.heap.size [.int .i64 x80, .int .i64 x81, .int .i64 x82] 63]) ?_ ?_
   ·refine gx_seq (fun K102 hK103 => ?_)
    refine gx_region ?_
    refine gx_v (.agg #[.int .i64 x80, .int .i64 x81, .int .i64 x82]) w90 (run_loadG (d := _) rfl (by kernel_rfl) (hS95.get 7 rfl) rfl rfl (by kernel_rfl)) ?_
    refine gx_v (.int .i64 x75) w90 (run_load1 rfl (by kernel_rfl) (fun _ => by kernel_rfl) (hS95.box 5 rfl 0 rfl)) ?_
    refine gx_v (.int .i64 p2) w90 (run_load1 rfl (by kernel_rfl) (fun _ => by kernel_rfl) (hS95.box 3 rfl 0 rfl)) ?_
    obtain ⟨b108, hc105, hE100⟩ := bind_in hE100
    try dsimp only at hE100
    refine gx_c (cFits_R  b108 w90) (cFits_ok N x80 x81 x82 x75 p2 _ hc105 w90 ) ?_
    rintro _ w106 ⟨rfl, hT109⟩
    have hS107 : St _ _ w106 [objE l85 r87, boxE g0 [.pointer (some ⟨gs0, 0, none⟩), .slice A0 p0.length c0] 56, boxE gs0 [.bool b27] 53, boxE w0.heap.size [.int .i64 p2] 3, boxE w3.heap.size [.slice A60 l73.length c61] 22, boxE w9.heap.size [.int .i64 x75] 3, rowE .u8 5 A60 c61 l73, boxE w88.heap.size [.int .i64 x80, .int .i64 x81, .int .i64 x82] 63] := hS95.take _ hT109
    cases b108 with
    | true =>
     try dsimp only at hE100
     refine gx_k (.bool false) w106 (gx_k (.bool false) w106 (gx_k (.pointer (some ⟨w88.heap.size, 2, none⟩)) w106 ?_))
     refine gx_v (.int .i64 x82) w106 (run_load1 rfl (by kernel_rfl) (fun _ => by kernel_rfl) (hS107.box 7 rfl 2 rfl)) ?_
     rcases if_in hE100 with ⟨h110, hE100⟩ | ⟨h110, hE100⟩
     ·refine gx_v (.bool true) w106 (run_boolE (decide_eq_true h110) (by kernel_rfl)) ?_
      refine gx_k (.bool true) w106 ?_
      refine gx_nil ?_
      refine gx_thenN ?_
      refine hK103 _ _ ?_
      refine gx_yes (by kernel_rfl) ?_
      refine gx_goto ?_
      refine gx_thenG ?_
      obtain rfl := Option.some.inj hE100
      try dsimp only at hO101
      refine gx_blkG ?_
      exact ⟨⟨rfl, [boxE g0 [.pointer (some ⟨gs0, 0, none⟩), .slice A0 p0.length c0] 56, boxE gs0 [.bool b27] 53, boxE w0.heap.size [.int .i64 p2] 3, boxE w3.heap.size [.slice A60 l73.length c61] 22, boxE w9.heap.size [.int .i64 x75] 3, rowE .u8 5 A60 c61 l73], (hS107.pick [0, 1, 2, 3, 4, 5, 6] rfl rfl), x75, l73, (Option.some.inj hO101).symm, rfl⟩⟩
     ·refine gx_v (.bool false) w106 (run_boolE (decide_eq_false h110) (by kernel_rfl)) ?_
      refine gx_k (.bool false) w106 ?_
      refine gx_nil ?_
      refine gx_thenN ?_
      refine hK103 _ _ ?_
      refine gx_no (by kernel_rfl) ?_
      refine gx_pass ?_
      refine gx_thenN ?_
      exact ⟨(fun i => List.getD ((.agg #[.int .i64 x80, .int .i64 x81, .int .i64 x82]) :: (.int .i64 x75) :: (.int .i64 p2) :: (.bool true) :: (.bool false) :: (.bool false) :: (.pointer (some ⟨w88.heap.size, 2, none⟩)) :: (.int .i64 x82) :: (.bool false) :: (.bool false) :: []) i undef), by kernel_rfl, (Option.some.inj hE100), (hS107.pick [0, 1, 2, 3, 6, 4, 5, 7] rfl rfl)⟩
    | false =>
     try dsimp only at hE100
     refine gx_k (.bool true) w106 (gx_k (.bool true) w106 (gx_o (gx_o (gx_o (gx_k (.bool true) w106 ?_)))))
     refine gx_nil ?_
     refine gx_thenN ?_
     refine hK103 _ _ ?_
     refine gx_yes (by kernel_rfl) ?_
     refine gx_goto ?_
     refine gx_thenG ?_
     obtain rfl := Option.some.inj hE100
     try dsimp only at hO101
     refine gx_blkG ?_
     exact ⟨⟨rfl, [boxE g0 [.pointer (some ⟨gs0, 0, none⟩), .slice A0 p0.length c0] 56, boxE gs0 [.bool b27] 53, boxE w0.heap.size [.int .i64 p2] 3, boxE w3.heap.size [.slice A60 l73.length c61] 22, boxE w9.heap.size [.int .i64 x75] 3, rowE .u8 5 A60 c61 l73], (hS107.pick [0, 1, 2, 3, 4, 5, 6] rfl rfl), x75, l73, (Option.some.inj hO101).symm, rfl⟩⟩
   ·rintro _ w96 ⟨u98, rfl, rfl, hS97⟩
    try dsimp only at hO101
    refine gx_seq (fun K111 hK112 => ?_)
    refine gx_region ?_
    refine gx_k (.pointer (some ⟨w88.heap.size, 1, none⟩)) w96 ?_
    refine gx_v (.int .i64 x81) w96 (run_load1 rfl (by kernel_rfl) (fun _ => by kernel_rfl) (hS97.box 7 rfl 1 rfl)) ?_
    refine gx_s (st_store (j := 0) (v := (.int .i64 x81)) rfl (by kernel_rfl) (by kernel_rfl) rfl (fun _ => by kernel_rfl) hS97 6 rfl (by show 0 < 1; decide)) ?_
    rintro w113 hS114
    have hS114 : St _ _ w113 [objE l85 r87, boxE g0 [.pointer (some ⟨gs0, 0, none⟩), .slice A0 p0.length c0] 56, boxE gs0 [.bool b27] 53, boxE w0.heap.size [.int .i64 p2] 3, rowE .u8 5 A60 c61 l73, boxE w3.heap.size [.slice A60 l73.length c61] 22, boxE w9.heap.size [.int .i64 x81] 3, boxE w88.heap.size [.int .i64 x80, .int .i64 x81, .int .i64 x82] 63] := hS114
    refine gx_nil ?_
    refine gx_thenN ?_
    refine hK112 _ _ ?_
    refine gx_seq (fun K115 hK116 => ?_)
    refine gx_region ?_
    refine gx_k (.pointer (some ⟨w88.heap.size, 0, none⟩)) w113 ?_
    refine gx_v (.int .i64 x80) w113 (run_load1 rfl (by kernel_rfl) (fun _ => by kernel_rfl) (hS114.box 7 rfl 0 rfl)) ?_
    refine gx_k (.int .i64 x80) w113 ?_
    refine gx_nil ?_
    refine gx_thenN ?_
    refine hK116 _ _ ?_
    obtain ⟨c122, hE123, hO124⟩ := bind_in hO101
    refine gx_mid (fun a w => ∃ (l120 : List Int) (u119 : Nat → Value), a = ⟨((.pointer (some ⟨g0, 0, none⟩)) :: (.int .i64 p1) :: (.int .i64 p2) :: undef :: undef :: (.pointer (some ⟨w0.heap.size, 0, none⟩)) :: (.slice none 0 0) :: (.int .i64 0) :: (.pointer (some ⟨w3.heap.size, 0, none⟩)) :: (.pointer (some ⟨w9.heap.size, 0, none⟩)) :: fv24 :: (.bool b26) :: (.pointer (some ⟨w88.heap.size, 0, none⟩)) :: (u119 0) :: (.tuple #[fv24, .bool b26]) :: (.pointer (some ⟨g0, 0, none⟩)) :: (.int .i64 p1) :: (.int .i64 p2) :: (.tuple #[fv24, .bool b26]) :: fv24 :: (.bool b26) :: (u31 0) :: (u31 1) :: (u31 2) :: (u31 3) :: (u31 4) :: (u31 5) :: (u31 6) :: (u31 7) :: (u31 8) :: (u31 9) :: (.int .i64 p2) :: (.slice A60 l56.length c61) :: fv24 :: (.agg #[.int .i64 x80, .int .i64 x81, .int .i64 x82]) :: (u98 0) :: (u98 1) :: (u98 2) :: (u98 3) :: (u98 4) :: (u98 5) :: (u98 6) :: (u98 7) :: (u98 8) :: (u98 9) :: (.pointer (some ⟨w88.heap.size, 1, none⟩)) :: (.int .i64 x81) :: (.pointer (some ⟨w88.heap.size, 0, none⟩)) :: (.int .i64 x80) :: (u119 1) :: (u119 2) :: (u119 3) :: (u119 4) :: (u119 5) :: (u119 6) :: (u119 7) :: (u119 8) :: (u119 9) :: (u119 10) :: (u119 11) :: (u119 12) :: undef :: []).toArray, []⟩ ∧ l120 = c122 ∧ St (feet [objE l85 r86, boxE g0 [.pointer (some ⟨gs0, 0, none⟩), .slice A0 p0.length c0] 56, boxE gs0 [.bool b27] 53, boxE w0.heap.size [.int .i64 p2] 3, boxE w3.heap.size [.slice A60 l73.length c61] 22, boxE w9.heap.size [.int .i64 x75] 3, rowE .u8 5 A60 c61 l73]) w88 w [objE l85 r87, boxE g0 [.pointer (some ⟨gs0, 0, none⟩), .slice A0 p0.length c0] 56, boxE gs0 [.bool b27] 53, boxE w0.heap.size [.int .i64 p2] 3, rowE .u8 5 A60 c61 l120, boxE w3.heap.size [.slice A60 l120.length c61] 22, boxE w9.heap.size [.int .i64 x81] 3, boxE w88.heap.size [.int .i64 x80, .int .i64 x81, .int .i64 x82] 63]) ?_ ?_
    ·refine gx_block ?_
     refine gx_loop (fun k a w => ∃ (l128 : List Int) (x130 : Int) (u127 : Nat → Value), a = ⟨((.pointer (some ⟨g0, 0, none⟩)) :: (.int .i64 p1) :: (.int .i64 p2) :: undef :: undef :: (.pointer (some ⟨w0.heap.size, 0, none⟩)) :: (.slice none 0 0) :: (.int .i64 0) :: (.pointer (some ⟨w3.heap.size, 0, none⟩)) :: (.pointer (some ⟨w9.heap.size, 0, none⟩)) :: fv24 :: (.bool b26) :: (.pointer (some ⟨w88.heap.size, 0, none⟩)) :: (.int .i64 x130) :: (.tuple #[fv24, .bool b26]) :: (.pointer (some ⟨g0, 0, none⟩)) :: (.int .i64 p1) :: (.int .i64 p2) :: (.tuple #[fv24, .bool b26]) :: fv24 :: (.bool b26) :: (u31 0) :: (u31 1) :: (u31 2) :: (u31 3) :: (u31 4) :: (u31 5) :: (u31 6) :: (u31 7) :: (u31 8) :: (u31 9) :: (.int .i64 p2) :: (.slice A60 l56.length c61) :: fv24 :: (.agg #[.int .i64 x80, .int .i64 x81, .int .i64 x82]) :: (u98 0) :: (u98 1) :: (u98 2) :: (u98 3) :: (u98 4) :: (u98 5) :: (u98 6) :: (u98 7) :: (u98 8) :: (u98 9) :: (.pointer (some ⟨w88.heap.size, 1, none⟩)) :: (.int .i64 x81) :: (.pointer (some ⟨w88.heap.size, 0, none⟩)) :: (.int .i64 x80) :: (u127 0) :: (u127 1) :: (u127 2) :: (u127 3) :: (u127 4) :: (u127 5) :: (u127 6) :: (u127 7) :: (u127 8) :: (u127 9) :: (u127 10) :: (u127 11) :: undef :: []).toArray, []⟩ ∧ cCls_L2 N x81 x82 k l128 x130 = some c122 ∧ St (feet [objE l85 r86, boxE g0 [.pointer (some ⟨gs0, 0, none⟩), .slice A0 p0.length c0] 56, boxE gs0 [.bool b27] 53, boxE w0.heap.size [.int .i64 p2] 3, boxE w3.heap.size [.slice A60 l73.length c61] 22, boxE w9.heap.size [.int .i64 x75] 3, rowE .u8 5 A60 c61 l73]) w88 w [objE l85 r87, boxE g0 [.pointer (some ⟨gs0, 0, none⟩), .slice A0 p0.length c0] 56, boxE gs0 [.bool b27] 53, boxE w0.heap.size [.int .i64 p2] 3, rowE .u8 5 A60 c61 l128, boxE w3.heap.size [.slice A60 l128.length c61] 22, boxE w9.heap.size [.int .i64 x81] 3, boxE w88.heap.size [.int .i64 x80, .int .i64 x81, .int .i64 x82] 63]) N ?_ ?_
     ·exact ⟨l73, x80, (fun i => List.getD (undef :: undef :: undef :: undef :: undef :: undef :: undef :: undef :: undef :: undef :: undef :: undef :: []) i undef), by kernel_rfl, hE123, hS114⟩
     ·rintro k131 _ w125 ⟨l128, x130, u127, rfl, hL132, hS126⟩
      cases k131 with
      | zero => cases hL132
      | succ k131 =>
       rw [cCls_L2] at hL132
       refine gx_seq (fun K133 hK134 => ?_)
       refine gx_seq (fun K135 hK136 => ?_)
       refine gx_region ?_
       refine gx_k (.int .i64 x130) w125 (gx_k (.pointer (some ⟨w88.heap.size, 1, none⟩)) w125 ?_)
       refine gx_v (.int .i64 x81) w125 (run_load1 rfl (by kernel_rfl) (fun _ => by kernel_rfl) (hS126.box 7 rfl 1 rfl)) ?_
       rcases if_in hL132 with ⟨h137, hL132⟩ | ⟨h137, hL132⟩
       ·refine gx_v (.bool true) w125 (run_boolE (decide_eq_true h137) (by kernel_rfl)) ?_
        refine gx_nil ?_
        refine gx_thenN ?_
        refine hK136 _ _ ?_
        refine gx_yes (by kernel_rfl) ?_
        refine gx_pass ?_
        refine gx_thenN ?_
        refine hK134 _ _ ?_
        refine gx_seq (fun K138 hK139 => ?_)
        refine gx_block ?_
        refine gx_region ?_
        refine gx_v (.slice A60 l128.length c61) w125 (run_load1 rfl (by kernel_rfl) (fun _ => by kernel_rfl) (hS126.box 5 rfl 0 rfl)) ?_
        refine gx_k (.int .i64 x130) w125 (gx_k (.pointer (some ⟨w88.heap.size, 2, none⟩)) w125 ?_)
        refine gx_v (.int .i64 x82) w125 (run_load1 rfl (by kernel_rfl) (fun _ => by kernel_rfl) (hS126.box 7 rfl 2 rfl)) ?_
        refine gx_k (.int .u8 (IntKind.u8.wrap x82)) w125 ?_
        obtain ⟨x140, hx141, hL132⟩ := bind_in hL132
        refine gx_v (.pointer (Option.map (fun p => p.add (Int.toNat x130 * 1)) A60)) w125 (run_ixaddr (E := 5) (s := 1) (k := .i64) (c := c61) rfl (by kernel_rfl) (by kernel_rfl) (by kernel_rfl) (fun _ => by kernel_rfl) (ix_in hx141).1 (ix_in hx141).2.1 (num_nil (hS126.row 4 rfl).1)) ?_
        obtain ⟨l144, hx145, hL132⟩ := bind_in hL132
        refine gx_s (st_storeix rfl (by kernel_rfl) (by kernel_rfl) (fun _ => by kernel_rfl) hS126 4 rfl hx145) ?_
        rintro w142 hS143
        have hS143 : St _ _ w142 [objE l85 r87, boxE g0 [.pointer (some ⟨gs0, 0, none⟩), .slice A0 p0.length c0] 56, boxE gs0 [.bool b27] 53, boxE w0.heap.size [.int .i64 p2] 3, rowE .u8 5 A60 c61 l144, boxE w3.heap.size [.slice A60 l128.length c61] 22, boxE w9.heap.size [.int .i64 x81] 3, boxE w88.heap.size [.int .i64 x80, .int .i64 x81, .int .i64 x82] 63] := hS143
        rw [show l128.length = l144.length from (setx_len hx145).symm] at hS143
        refine gx_nil ?_
        refine gx_blkN ?_
        refine gx_thenN ?_
        refine hK139 _ _ ?_
        refine gx_region ?_
        refine gx_k (.int .i64 x130) w142 (gx_k (.int .i64 (IntKind.i64.wrap (x130 + 1))) w142 (gx_k (.int .i64 (IntKind.i64.wrap (x130 + 1))) w142 ?_))
        refine gx_nil ?_
        refine gx_thenN ?_
        exact ⟨k131, Nat.lt_succ_self k131, l144, (IntKind.i64.wrap (x130 + 1)), (fun i => List.getD ((.int .i64 x130) :: (.pointer (some ⟨w88.heap.size, 1, none⟩)) :: (.int .i64 x81) :: (.bool true) :: (.int .i64 x130) :: (.int .i64 (IntKind.i64.wrap (x130 + 1))) :: (.slice A60 l128.length c61) :: (.int .i64 x130) :: (.pointer (some ⟨w88.heap.size, 2, none⟩)) :: (.int .i64 x82) :: (.int .u8 (IntKind.u8.wrap x82)) :: (.pointer (Option.map (fun p => p.add (Int.toNat x130 * 1)) A60)) :: []) i undef), by kernel_rfl, hL132, hS143⟩
       ·refine gx_v (.bool false) w125 (run_boolE (decide_eq_false h137) (by kernel_rfl)) ?_
        refine gx_nil ?_
        refine gx_thenN ?_
        refine hK136 _ _ ?_
        refine gx_no (by kernel_rfl) ?_
        refine gx_exit ?_
        refine gx_thenE ?_
        refine gx_thenE ?_
        refine gx_blkE ?_
        refine gx_thenN ?_
        exact ⟨l128, (fun i => List.getD ((.int .i64 x130) :: (.int .i64 x130) :: (.pointer (some ⟨w88.heap.size, 1, none⟩)) :: (.int .i64 x81) :: (.bool false) :: (u127 4) :: (u127 5) :: (u127 6) :: (u127 7) :: (u127 8) :: (u127 9) :: (u127 10) :: (u127 11) :: []) i undef), by kernel_rfl, (Option.some.inj hL132), hS126⟩
    ·rintro _ w117 ⟨l120, u119, rfl, rfl, hS118⟩
     try dsimp only at hO124
     refine gx_blkN ?_
     exact ⟨⟨[boxE g0 [.pointer (some ⟨gs0, 0, none⟩), .slice A0 p0.length c0] 56, boxE gs0 [.bool b27] 53, boxE w0.heap.size [.int .i64 p2] 3, boxE w3.heap.size [.slice A60 l120.length c61] 22, boxE w9.heap.size [.int .i64 x81] 3, rowE .u8 5 A60 c61 l120], (hS118.pick [0, 1, 2, 3, 5, 6, 4] rfl rfl), x81, l120, hO124, rfl⟩⟩
  ·rintro D146 w147 _ ⟨x75, l73, hL84, rfl⟩ hS148
   rw [cCls_X1] at hL84
   obtain rfl := Option.some.inj hL84
   try dsimp only at hO78
   have hS148 : St _ _ w147 [objE D146 (.deferred (some [])), boxE g0 [.pointer (some ⟨gs0, 0, none⟩), .slice A0 p0.length c0] 56, boxE gs0 [.bool b27] 53, boxE w0.heap.size [.int .i64 p2] 3, boxE w3.heap.size [.slice A60 l73.length c61] 22, boxE w9.heap.size [.int .i64 x75] 3, rowE .u8 5 A60 c61 l73, agreeE ft25 w62] := hS148
   refine gx_blkN ?_
   refine gx_thenN ?_
   refine hK65 _ _ ?_
   refine gx_seq (fun K149 hK150 => ?_)
   refine gx_seq (fun K151 hK152 => ?_)
   refine gx_region ?_
   refine gx_v (.slice A60 l73.length c61) w147 (run_load1 rfl (by kernel_rfl) (fun _ => by kernel_rfl) (hS148.box 4 rfl 0 rfl)) ?_
   refine gx_k (.slice A60 l73.length c61) w147 (gx_k (.int .i64 0) w147 ?_)
   refine gx_nil ?_
   refine gx_thenN ?_
   refine hK152 _ _ ?_
   refine gx_ret ?_
   refine gx_thenR ?_
   refine gx_jmpR ?_
   obtain rfl := Option.some.inj hO78
   exact gx_finM1 (es := [boxE g0 [.pointer (some ⟨gs0, 0, none⟩), .slice A0 p0.length c0] 56, boxE gs0 [.bool b27] 53, rowE .u8 5 A60 c61 l73]) (.tuple #[.slice A60 l73.length c61, .int .i64 0]) (by kernel_rfl) (hS148.pick [0, 1, 2, 6] rfl rfl) (fun w hS => ⟨by kernel_rfl, _, rfl, A60, c61, rfl, hS⟩)
  ·rintro D146 w147 _ ⟨x75, l73, rfl, rfl⟩ hS148
   try dsimp only at hO78
   have hS148 : St _ _ w147 [objE D146 (.deferred (some [])), boxE g0 [.pointer (some ⟨gs0, 0, none⟩), .slice A0 p0.length c0] 56, boxE gs0 [.bool b27] 53, boxE w0.heap.size [.int .i64 p2] 3, boxE w3.heap.size [.slice A60 l73.length c61] 22, boxE w9.heap.size [.int .i64 x75] 3, rowE .u8 5 A60 c61 l73, agreeE ft25 w62] := hS148
   refine gx_goto ?_
   refine gx_blkG ?_
   refine gx_thenG ?_
   refine gx_jmpG ?_
   refine hJ6 _ _ ?_
   refine gx_seq (fun K153 hK154 => ?_)
   refine gx_pass ?_
   refine gx_thenN ?_
   refine hK154 _ _ ?_
   refine gx_seq (fun K155 hK156 => ?_)
   refine gx_region ?_
   refine gx_k (.slice none 0 0) w147 (gx_k (.int .i64 50) w147 ?_)
   refine gx_nil ?_
   refine gx_thenN ?_
   refine hK156 _ _ ?_
   refine gx_ret ?_
   refine gx_jmpR ?_
   have hS157 : St _ _ w147 [objE D146 (.deferred (some [])), boxE g0 [.pointer (some ⟨gs0, 0, none⟩), .slice A0 p0.length c0] 56, boxE gs0 [.bool b27] 53, boxE w0.heap.size [.int .i64 p2] 3, boxE w3.heap.size [.slice A60 l73.length c61] 22, boxE w9.heap.size [.int .i64 x75] 3, rowE .u8 5 A60 c61 l73, agreeE ft25 w62, rowE .u8 5 none 0 ([])] := hS148.nilrow .u8 5
   obtain rfl := Option.some.inj hO78
   exact gx_finM1 (es := [boxE g0 [.pointer (some ⟨gs0, 0, none⟩), .slice A0 p0.length c0] 56, boxE gs0 [.bool b27] 53, rowE .u8 5 none 0 ([])]) (.tuple #[.slice none (([] : List Int).length) 0, .int .i64 50]) (by kernel_rfl) (hS157.pick [0, 1, 2, 8] rfl rfl) (fun w hS => ⟨by kernel_rfl, _, rfl, none, 0, rfl, hS⟩)

def cPutCov_X1 (N : Nat) : List (Int × Int × Int) → List Int → Int → Option (Ctl (List Int × Int) (List Int × Int))
 | [], l43, x44 => some (Ctl.go (l43, x44))
 | (x49, x50, _x51) :: its52, l43, x44 => (if x49 ≤ x44 then some (Ctl.ret (l43, x44)) else ((apx l43 ([x49])).bind fun l76 => cPutCov_X1 N its52 l76 x50))
def cPutCov (N : Nat) (p0 : List Int) : Option (List Int × Int) :=
 ((cCount N ((p0.length : Nat) : Int)).bind fun b27 => (match b27 with | true => ((cListed1 N p0).bind fun its37 => ((cPutCov_X1 N its37 ([1, ((p0.length : Nat) : Int)]) (-1)).bind fun | Ctl.go (l43, _x44) => ((cPut N l43).bind fun l96 => some (l96, 0)) | Ctl.ret (_l43, _x44) => some ([], 2))) | false => some ([], 2)))

def cPutCov_R (r : List Int × Int) (w0 : World) (v : Value) (w : World) : Prop := ∃ (A0' : Option Addr) (c0' : Nat), v = .tuple #[.slice A0' r.1.length c0', .int .i64 r.2] ∧ St [] w0 w [rowE .u8 5 A0' c0' r.1]

def cPutCls_X1 (N : Nat) : List (Int × Int × Int) → List Int → Option (Ctl (List Int) (List Int))
 | [], l39 => some (Ctl.go l39)
 | (x44, x45, x46) :: its47, l39 => (if x46 > 4 then some (Ctl.ret l39) else ((apx l39 ([x44, x45, x46])).bind fun l69 => ((ix l69 (1 : Int)).bind fun x78 => ((ix l69 (1 : Int)).bind fun _x80 => ((setx l69 (1 : Int) (IntKind.i64.wrap (x78 + 1))).bind fun l84 => cPutCls_X1 N its47 l84)))))
def cPutCls (N : Nat) (p0 : List Int) : Option (List Int × Int) :=
 (if ((p0.length : Nat) : Int) > 65535 then some ([], 2) else ((cRows1 N p0).bind fun its31 => ((cPutCls_X1 N its31 ([2, 0])).bind fun | Ctl.go l39 => ((cPut N l39).bind fun l97 => some (l97, 0)) | Ctl.ret _l39 => some ([], 2))))

def cPutCls_R (r : List Int × Int) (w0 : World) (v : Value) (w : World) : Prop := ∃ (A0' : Option Addr) (c0' : Nat), v = .tuple #[.slice A0' r.1.length c0', .int .i64 r.2] ∧ St [] w0 w [rowE .u8 5 A0' c0' r.1]

set_option maxRecDepth 100000 in
set_option maxHeartbeats 4000000 in
theorem cPutCls_ok (N : Nat) (p0 : List Int) (A0 : Option Addr) (c0 : Nat) (r : List Int × Int) (hF : cPutCls N p0 = some r) (w0 : World) (hv0 : Vw [] .u8 w0 A0 c0 p0) :
  Calls Try.prog 11 #[.slice A0 p0.length c0] w0 fun e w => ∃ v, e = .returned v ∧ cPutCls_R r w0 v w := by
 have hS0 := St.start w0
 unfold cPutCls at hF
 refine calls_ofM Try.func11 rfl ⟨((.slice A0 p0.length c0) :: undef :: undef :: undef :: undef :: undef :: undef :: undef :: undef :: undef :: undef :: undef :: undef :: undef :: undef :: undef :: undef :: undef :: undef :: undef :: undef :: undef :: undef :: undef :: undef :: undef :: undef :: undef :: undef :: undef :: undef :: undef :: []).toArray, []⟩ (by kernel_rfl) ?_
 refine gx_seq (fun K1 hK2 => ?_)
 refine gx_region ?_
 refine gx_k (.slice none 0 0) w0 (gx_k (.int .i64 0) w0 ?_)
 refine gx_nil ?_
 refine gx_thenN ?_
 refine hK2 _ _ ?_
 refine gx_scope 0 rfl (fun J3 hJ4 => ?_)
 refine gx_seq (fun K5 hK6 => ?_)
 refine gx_region ?_
 refine gx_r (st_made .i64 2 [2, 0] hS0 (by show 2 ≤ 1000000000; decide) (by kernel_rfl)) ?_
 rintro _ w7 ⟨rfl, hS8⟩
 have hS8 : St _ _ w7 [rowE .i64 2 (some ⟨w0.heap.size, 0, none⟩) 2 ([2, 0])] := hS8
 refine gx_r (st_boxed [.slice none 0 0] 67 hS8 (by kernel_rfl)) ?_
 rintro _ w9 ⟨rfl, hS10⟩
 have hS10 : St _ _ w9 [rowE .i64 2 (some ⟨w0.heap.size, 0, none⟩) 2 ([2, 0]), boxE w7.heap.size [.slice none 0 0] 67] := hS10
 refine gx_s (st_store (j := 0) (v := (.slice (some ⟨w0.heap.size, 0, none⟩) (([2, 0]).length) 2)) rfl (by kernel_rfl) (by kernel_rfl) rfl (fun _ => by kernel_rfl) hS10 1 rfl (by show 0 < 1; decide)) ?_
 rintro w11 hS12
 have hS12 : St _ _ w11 [rowE .i64 2 (some ⟨w0.heap.size, 0, none⟩) 2 ([2, 0]), boxE w7.heap.size [.slice (some ⟨w0.heap.size, 0, none⟩) (([2, 0]).length) 2] 67] := hS12
 refine gx_nil ?_
 refine gx_thenN ?_
 refine hK6 _ _ ?_
 refine gx_seq (fun K13 hK14 => ?_)
 refine gx_seq (fun K15 hK16 => ?_)
 refine gx_region ?_
 refine gx_k (.slice A0 p0.length c0) w11 (gx_k (.int .i64 ((p0.length : Nat) : Int)) w11 ?_)
 rcases if_in hF with ⟨h17, hF⟩ | ⟨h17, hF⟩
 ·refine gx_v (.bool true) w11 (run_boolE (decide_eq_true h17) (by kernel_rfl)) ?_
  refine gx_nil ?_
  refine gx_thenN ?_
  refine hK16 _ _ ?_
  refine gx_yes (by kernel_rfl) ?_
  refine gx_goto ?_
  refine gx_thenG ?_
  refine gx_jmpG ?_
  refine hJ4 _ _ ?_
  refine gx_seq (fun K18 hK19 => ?_)
  refine gx_pass ?_
  refine gx_thenN ?_
  refine hK19 _ _ ?_
  refine gx_seq (fun K20 hK21 => ?_)
  refine gx_region ?_
  refine gx_k (.slice none 0 0) w11 (gx_k (.int .i64 2) w11 ?_)
  refine gx_nil ?_
  refine gx_thenN ?_
  refine hK21 _ _ ?_
  refine gx_ret ?_
  refine gx_jmpR ?_
  have hS22 : St _ _ w11 [rowE .i64 2 (some ⟨w0.heap.size, 0, none⟩) 2 ([2, 0]), boxE w7.heap.size [.slice (some ⟨w0.heap.size, 0, none⟩) (([2, 0]).length) 2] 67, rowE .u8 5 none 0 ([])] := hS12.nilrow .u8 5
  obtain rfl := Option.some.inj hF
  exact gx_finM0 (.tuple #[.slice none (([] : List Int).length) 0, .int .i64 2]) (by kernel_rfl) (by kernel_rfl) ⟨_, rfl, none, 0, rfl, (hS22.pick [2] rfl rfl)⟩
 ·refine gx_v (.bool false) w11 (run_boolE (decide_eq_false h17) (by kernel_rfl)) ?_
  refine gx_nil ?_
  refine gx_thenN ?_
  refine hK16 _ _ ?_
  refine gx_no (by kernel_rfl) ?_
  refine gx_pass ?_
  refine gx_thenN ?_
  refine hK14 _ _ ?_
  refine gx_seq (fun K23 hK24 => ?_)
  refine gx_seq (fun K25 hK26 => ?_)
  refine gx_region ?_
  refine gx_k (.slice A0 p0.length c0) w11 ?_
  refine gx_c (cRows_R A0 p0.length c0 () w11) (cRows_ok N  A0 p0.length c0 _ rfl w11) ?_
  rintro _ w27 ⟨g30, rfl, hT29⟩
  have hS28 : St _ _ w27 [rowE .i64 2 (some ⟨w0.heap.size, 0, none⟩) 2 ([2, 0]), boxE w7.heap.size [.slice (some ⟨w0.heap.size, 0, none⟩) (([2, 0]).length) 2] 67, boxE g30 [.slice A0 p0.length c0] 22] := hS12.take _ hT29
  refine gx_nil ?_
  refine gx_thenN ?_
  refine hK26 _ _ ?_
  refine gx_block ?_
  obtain ⟨its31, hi34, hF⟩ := bind_in hF
  have hS33 : St _ _ w27 ([rowE .i64 2 (some ⟨w0.heap.size, 0, none⟩) 2 ([2, 0]), boxE w7.heap.size [.slice (some ⟨w0.heap.size, 0, none⟩) (([2, 0]).length) 2] 67] ++ [boxE g30 [.slice A0 p0.length c0] 22]) := hS28.pick [0, 1, 2] rfl rfl
  have hit32 := cRows1_iter N p0 _ hi34 g30 A0 c0 hv0.nn
  have hS43 : St _ _ w27 ([rowE .i64 2 (some ⟨w0.heap.size, 0, none⟩) 2 ([2, 0]), boxE w7.heap.size [.slice (some ⟨w0.heap.size, 0, none⟩) (([2, 0]).length) 2] 67] ++ [boxE g30 [.slice A0 p0.length c0] 22]) := hS33.pick [0, 1, 2] rfl rfl
  obtain ⟨c40, hE41, hO42⟩ := bind_in hF
  refine gx_range (v := .func (.func 37) #[] #[.pointer (some ⟨g30, 0, none⟩)]) (enc := enccoverinterval) (items := its31) (kp := (cRows1_kp g30 A0 c0 p0)) (es := [rowE .i64 2 (some ⟨w0.heap.size, 0, none⟩) 2 ([2, 0]), boxE w7.heap.size [.slice (some ⟨w0.heap.size, 0, none⟩) (([2, 0]).length) 2] 67]) (ks := [boxE g30 [.slice A0 p0.length c0] 22]) (by kernel_rfl) hit32 (fun ⟨_, _, _⟩ => rfl) hS43 (fun W es h => ⟨((fun e he => (h.holds e he).1) (boxE g30 [.slice A0 p0.length c0] 22) (by simp)), (h.view hv0)⟩) (fun rest es => ∃ (l39 : List Int) (A37 : Option Addr) (c38 : Nat), cPutCls_X1 N rest l39 = some c40 ∧ es = [rowE .i64 2 A37 c38 l39, boxE w7.heap.size [.slice A37 l39.length c38] 67]) (fun es => ∃ (l39 : List Int) (A37 : Option Addr) (c38 : Nat), c40 = Ctl.ret l39 ∧ es = [rowE .i64 2 A37 c38 l39, boxE w7.heap.size [.slice A37 l39.length c38] 67]) (.goto 0) ⟨([2, 0]), (some ⟨w0.heap.size, 0, none⟩), 2, hE41, rfl⟩ ?_ ?_ ?_
  ·rintro l49 r50 r51 ⟨x44, x45, x46⟩ its47 w52 _ ⟨l39, A37, c38, hL48, rfl⟩ hS53
   rw [cPutCls_X1] at hL48
   refine gx_act ⟨((.slice A0 p0.length c0) :: undef :: (.slice none 0 0) :: (.int .i64 0) :: (.pointer (some ⟨w7.heap.size, 0, none⟩)) :: undef :: (.slice (some ⟨w0.heap.size, 0, none⟩) (([2, 0]).length) 2) :: (.slice A0 p0.length c0) :: (.int .i64 ((p0.length : Nat) : Int)) :: (.bool false) :: (.slice A0 p0.length c0) :: (.func (.func 37) #[] #[.pointer (some ⟨g30, 0, none⟩)]) :: (.agg #[.int .i64 x44, .int .i64 x45, .int .i64 x46]) :: undef :: undef :: undef :: undef :: undef :: undef :: undef :: undef :: undef :: undef :: undef :: undef :: undef :: undef :: undef :: undef :: undef :: undef :: undef :: []).toArray, []⟩ (by kernel_rfl) ?_
   refine gx_region ?_
   refine gx_r (st_boxed [.int .i64 0, .int .i64 0, .int .i64 0] 63 hS53 (by kernel_rfl)) ?_
   rintro _ w55 ⟨rfl, hS56⟩
   have hS56 : St _ _ w55 [objE l49 r50, rowE .i64 2 A37 c38 l39, boxE w7.heap.size [.slice A37 l39.length c38] 67, boxE w52.heap.size [.int .i64 0, .int .i64 0, .int .i64 0] 63] := hS56
   refine gx_s (st_storeG (cs := [.int .i64 0, .int .i64 0, .int .i64 0]) (ds := [.int .i64 x44, .int .i64 x45, .int .i64 x46]) rfl (by kernel_rfl) (by kernel_rfl) (by kernel_rfl) rfl rfl hS56 3 rfl) ?_
   rintro w57 hS58
   have hS58 : St _ _ w57 [objE l49 r50, rowE .i64 2 A37 c38 l39, boxE w7.heap.size [.slice A37 l39.length c38] 67, boxE w52.heap.size [.int .i64 x44, .int .i64 x45, .int .i64 x46] 63] := hS58
   refine gx_nil ?_
   refine gx_thenN ?_
   refine ⟨[rowE .i64 2 A37 c38 l39, boxE w7.heap.size [.slice A37 l39.length c38] 67, boxE w52.heap.size [.int .i64 x44, .int .i64 x45, .int .i64 x46] 63], hS58, fun w54 hS59 => ?_⟩
   have hS59 : St _ _ w54 [objE l49 r51, rowE .i64 2 A37 c38 l39, boxE w7.heap.size [.slice A37 l39.length c38] 67, boxE w52.heap.size [.int .i64 x44, .int .i64 x45, .int .i64 x46] 63] := hS59
   refine gx_block ?_
   refine gx_seq (fun K60 hK61 => ?_)
   refine gx_seq (fun K62 hK63 => ?_)
   refine gx_region ?_
   refine gx_k (.pointer (some ⟨w52.heap.size, 2, none⟩)) w54 ?_
   refine gx_v (.int .i64 x46) w54 (run_load1 rfl (by kernel_rfl) (fun _ => by kernel_rfl) (hS59.box 3 rfl 2 rfl)) ?_
   rcases if_in hL48 with ⟨h64, hL48⟩ | ⟨h64, hL48⟩
   ·refine gx_v (.bool true) w54 (run_boolE (decide_eq_true h64) (by kernel_rfl)) ?_
    refine gx_nil ?_
    refine gx_thenN ?_
    refine hK63 _ _ ?_
    refine gx_yes (by kernel_rfl) ?_
    refine gx_goto ?_
    refine gx_thenG ?_
    refine gx_blkG ?_
    exact ⟨⟨rfl, [rowE .i64 2 A37 c38 l39, boxE w7.heap.size [.slice A37 l39.length c38] 67], (hS59.pick [0, 1, 2] rfl rfl), l39, A37, c38, (Option.some.inj hL48).symm, rfl⟩⟩
   ·refine gx_v (.bool false) w54 (run_boolE (decide_eq_false h64) (by kernel_rfl)) ?_
    refine gx_nil ?_
    refine gx_thenN ?_
    refine hK63 _ _ ?_
    refine gx_no (by kernel_rfl) ?_
    refine gx_pass ?_
    refine gx_thenN ?_
    refine hK61 _ _ ?_
    refine gx_seq (fun K65 hK66 => ?_)
    refine gx_region ?_
    refine gx_v (.slice A37 l39.length c38) w54 (run_load1 rfl (by kernel_rfl) (fun _ => by kernel_rfl) (hS59.box 2 rfl 0 rfl)) ?_
    refine gx_k (.pointer (some ⟨w52.heap.size, 0, none⟩)) w54 ?_
    refine gx_v (.int .i64 x44) w54 (run_load1 rfl (by kernel_rfl) (fun _ => by kernel_rfl) (hS59.box 3 rfl 0 rfl)) ?_
    refine gx_k (.pointer (some ⟨w52.heap.size, 1, none⟩)) w54 ?_
    refine gx_v (.int .i64 x45) w54 (run_load1 rfl (by kernel_rfl) (fun _ => by kernel_rfl) (hS59.box 3 rfl 1 rfl)) ?_
    refine gx_k (.pointer (some ⟨w52.heap.size, 2, none⟩)) w54 ?_
    refine gx_v (.int .i64 x46) w54 (run_load1 rfl (by kernel_rfl) (fun _ => by kernel_rfl) (hS59.box 3 rfl 2 rfl)) ?_
    refine gx_r (st_made .i64 2 [x44, x45, x46] hS59 (by show 3 ≤ 1000000000; decide) (by kernel_rfl)) ?_
    rintro _ w67 ⟨rfl, hS68⟩
    have hS68 : St _ _ w67 [objE l49 r51, rowE .i64 2 A37 c38 l39, boxE w7.heap.size [.slice A37 l39.length c38] 67, boxE w52.heap.size [.int .i64 x44, .int .i64 x45, .int .i64 x46] 63, rowE .i64 2 (some ⟨w54.heap.size, 0, none⟩) 3 ([x44, x45, x46])] := hS68
    obtain ⟨l69, ha70, hL48⟩ := bind_in hL48
    obtain ⟨ha70, hq71⟩ := apx_in ha70
    refine gx_r (st_append rfl (by kernel_rfl) (by kernel_rfl) hS68 1 rfl (hS68.row 4 rfl).1 (hS68.row 4 rfl).2 ha70 (by kernel_rfl) (by kernel_rfl)) ?_
    rintro _ w74 ⟨A72, c73, rfl, hS75⟩
    rw [← hq71] at hS75 ⊢
    have hS75 : St _ _ w74 [objE l49 r51, rowE .i64 2 A72 c73 l69, boxE w7.heap.size [.slice A37 l39.length c38] 67, boxE w52.heap.size [.int .i64 x44, .int .i64 x45, .int .i64 x46] 63, rowE .i64 2 (some ⟨w54.heap.size, 0, none⟩) 3 ([x44, x45, x46])] := hS75
    refine gx_s (st_store (j := 0) (v := (.slice A72 l69.length c73)) rfl (by kernel_rfl) (by kernel_rfl) rfl (fun _ => by kernel_rfl) hS75 2 rfl (by show 0 < 1; decide)) ?_
    rintro w76 hS77
    have hS77 : St _ _ w76 [objE l49 r51, rowE .i64 2 A72 c73 l69, boxE w7.heap.size [.slice A72 l69.length c73] 67, boxE w52.heap.size [.int .i64 x44, .int .i64 x45, .int .i64 x46] 63, rowE .i64 2 (some ⟨w54.heap.size, 0, none⟩) 3 ([x44, x45, x46])] := hS77
    refine gx_nil ?_
    refine gx_thenN ?_
    refine hK66 _ _ ?_
    refine gx_region ?_
    refine gx_v (.slice A72 l69.length c73) w76 (run_load1 rfl (by kernel_rfl) (fun _ => by kernel_rfl) (hS77.box 2 rfl 0 rfl)) ?_
    obtain ⟨x78, hx79, hL48⟩ := bind_in hL48
    refine gx_v (.pointer (Option.map (fun p => p.add (Int.toNat 1 * 1)) A72)) w76 (run_ixaddr (E := 2) (s := 1) (k := .i64) (c := c73) rfl (by kernel_rfl) (by kernel_rfl) (by kernel_rfl) (fun _ => by kernel_rfl) (ix_in hx79).1 (ix_in hx79).2.1 (num_nil (hS77.row 1 rfl).1)) ?_
    refine gx_v (.int .i64 x78) w76 (run_loadix rfl (by kernel_rfl) (fun _ => by kernel_rfl) (hS77.row 1 rfl).1 hx79) ?_
    refine gx_k (.int .i64 (IntKind.i64.wrap (x78 + 1))) w76 ?_
    obtain ⟨x80, hx81, hL48⟩ := bind_in hL48
    refine gx_v (.pointer (Option.map (fun p => p.add (Int.toNat 1 * 1)) A72)) w76 (run_ixaddr (E := 2) (s := 1) (k := .i64) (c := c73) rfl (by kernel_rfl) (by kernel_rfl) (by kernel_rfl) (fun _ => by kernel_rfl) (ix_in hx81).1 (ix_in hx81).2.1 (num_nil (hS77.row 1 rfl).1)) ?_
    obtain ⟨l84, hx85, hL48⟩ := bind_in hL48
    refine gx_s (st_storeix rfl (by kernel_rfl) (by kernel_rfl) (fun _ => by kernel_rfl) hS77 1 rfl hx85) ?_
    rintro w82 hS83
    have hS83 : St _ _ w82 [objE l49 r51, rowE .i64 2 A72 c73 l84, boxE w7.heap.size [.slice A72 l69.length c73] 67, boxE w52.heap.size [.int .i64 x44, .int .i64 x45, .int .i64 x46] 63, rowE .i64 2 (some ⟨w54.heap.size, 0, none⟩) 3 ([x44, x45, x46])] := hS83
    rw [show l69.length = l84.length from (setx_len hx85).symm] at hS83
    refine gx_nil ?_
    refine gx_blkN ?_
    exact ⟨⟨[rowE .i64 2 A72 c73 l84, boxE w7.heap.size [.slice A72 l84.length c73] 67], (hS83.pick [0, 1, 2] rfl rfl), l84, A72, c73, hL48, rfl⟩⟩
  ·rintro D86 w87 _ ⟨l39, A37, c38, hL48, rfl⟩ hS88
   rw [cPutCls_X1] at hL48
   obtain rfl := Option.some.inj hL48
   try dsimp only at hO42
   have hS88 : St _ _ w87 [objE D86 (.deferred (some [])), rowE .i64 2 A37 c38 l39, boxE w7.heap.size [.slice A37 l39.length c38] 67, boxE g30 [.slice A0 p0.length c0] 22] := hS88
   refine gx_blkN ?_
   refine gx_thenN ?_
   refine hK24 _ _ ?_
   refine gx_seq (fun K89 hK90 => ?_)
   refine gx_seq (fun K91 hK92 => ?_)
   refine gx_region ?_
   refine gx_v (.slice A37 l39.length c38) w87 (run_load1 rfl (by kernel_rfl) (fun _ => by kernel_rfl) (hS88.box 2 rfl 0 rfl)) ?_
   obtain ⟨l97, hc94, hO42⟩ := bind_in hO42
   try dsimp only at hO42
   refine gx_c (cPut_R  l97 w87) (cPut_ok N l39 A37 c38 _ hc94 w87 (Vw.of (hS88.row 1 rfl).1 (hS88.row 1 rfl).2)) ?_
   rintro _ w95 ⟨A98, c99, rfl, hT100⟩
   have hS96 : St _ _ w95 [objE D86 (.deferred (some [])), rowE .i64 2 A37 c38 l39, boxE w7.heap.size [.slice A37 l39.length c38] 67, boxE g30 [.slice A0 p0.length c0] 22, rowE .u8 5 A98 c99 l97] := hS88.take _ hT100
   refine gx_k (.slice A98 l97.length c99) w95 (gx_k (.int .i64 0) w95 ?_)
   refine gx_nil ?_
   refine gx_thenN ?_
   refine hK92 _ _ ?_
   refine gx_ret ?_
   refine gx_thenR ?_
   refine gx_jmpR ?_
   obtain rfl := Option.some.inj hO42
   exact gx_finM1 (es := [rowE .u8 5 A98 c99 l97]) (.tuple #[.slice A98 l97.length c99, .int .i64 0]) (by kernel_rfl) (hS96.pick [0, 4] rfl rfl) (fun w hS => ⟨by kernel_rfl, _, rfl, A98, c99, rfl, hS⟩)
  ·rintro D86 w87 _ ⟨l39, A37, c38, rfl, rfl⟩ hS88
   try dsimp only at hO42
   have hS88 : St _ _ w87 [objE D86 (.deferred (some [])), rowE .i64 2 A37 c38 l39, boxE w7.heap.size [.slice A37 l39.length c38] 67, boxE g30 [.slice A0 p0.length c0] 22] := hS88
   refine gx_goto ?_
   refine gx_blkG ?_
   refine gx_thenG ?_
   refine gx_jmpG ?_
   refine hJ4 _ _ ?_
   refine gx_seq (fun K101 hK102 => ?_)
   refine gx_pass ?_
   refine gx_thenN ?_
   refine hK102 _ _ ?_
   refine gx_seq (fun K103 hK104 => ?_)
   refine gx_region ?_
   refine gx_k (.slice none 0 0) w87 (gx_k (.int .i64 2) w87 ?_)
   refine gx_nil ?_
   refine gx_thenN ?_
   refine hK104 _ _ ?_
   refine gx_ret ?_
   refine gx_jmpR ?_
   have hS105 : St _ _ w87 [objE D86 (.deferred (some [])), rowE .i64 2 A37 c38 l39, boxE w7.heap.size [.slice A37 l39.length c38] 67, boxE g30 [.slice A0 p0.length c0] 22, rowE .u8 5 none 0 ([])] := hS88.nilrow .u8 5
   obtain rfl := Option.some.inj hO42
   exact gx_finM1 (es := [rowE .u8 5 none 0 ([])]) (.tuple #[.slice none (([] : List Int).length) 0, .int .i64 2]) (by kernel_rfl) (hS105.pick [0, 4] rfl rfl) (fun w hS => ⟨by kernel_rfl, _, rfl, none, 0, rfl, hS⟩)

end Go.Proofs.Ytcleaepcjbfmhaa
