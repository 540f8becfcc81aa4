/-
  The program, walked.
-/
import Derived.Test.YtbdhgjaoojimmaaDoorP0
namespace Go.Proofs.YtbdhgjaoojimmaaDoor
open Go Go.RowKit
set_option linter.unusedVariables false

def pForms_X1 (N : Nat) : List (Int × Int × Int × Int) → (List Int) → Option (List Int)
 | [], l31 => some (l31)
 | (x36, x37, x38, x39) :: its40, l31 => ((pForm N x37 x38 x39).bind fun x61 => ((ix l31 x36).bind fun _x65 => ((setx l31 x36 x61).bind fun l69 => pForms_X1 N its40 l69)))
def pForms (N : Nat) (p0 : List Int) : Option (List Int) :=
 ((mkx ((p0.length : Nat) : Int)).bind fun l5 => ((pNbs1 N p0).bind fun its23 => ((pForms_X1 N its23 l5).bind fun l31 => some l31)))

set_option linter.unusedVariables false in
def pForms_R (r : List Int) (w0 : World) (v : Value) (w : World) : Prop := ∃ (A0' : Option Addr) (c0' : Nat), v = .slice A0' r.length c0' ∧ St [] w0 w [rowE .u8 5 A0' c0' r]

set_option maxRecDepth 100000 in
set_option maxHeartbeats 4000000 in
theorem pForms_ok (N : Nat) (p0 : List Int) (A0 : Option Addr) (c0 : Nat) (r : List Int) (hF : pForms N p0 = some r) (w0 : World) (hv0 : Vw [] .i32 w0 A0 c0 p0) (hcd : MirB [] w0) :
  Calls Tryd.prog 9 #[.slice A0 p0.length c0] w0 fun e w => ∃ v, e = .returned v ∧ pForms_R r w0 v w := by
 have hS0 := St.start w0
 unfold pForms at hF
 refine calls_ofM Tryd.func9 rfl ⟨((.slice A0 p0.length c0) :: un 18 ([])).toArray, []⟩ (by kernel_rfl) ?_
 refine gx_seq (fun K1 hK2 => ?_)
 refine gx_region ?_
 refine gx_k (.slice none 0 0) w0 ?_
 refine gx_nil ?_
 refine gx_thenN ?_
 refine hK2 _ _ ?_
 refine gx_seq (fun K3 hK4 => ?_)
 refine gx_region ?_
 refine gx_k (.slice A0 p0.length c0) w0 (gx_k (.int .i64 ((p0.length : Nat) : Int)) w0 ?_)
 obtain ⟨l5, hm6, hF⟩ := bind_in hF
 refine gx_r (st_make (T := 5) (k := .u8) (by_ := 1) rfl (by kernel_rfl) (by kernel_rfl) (by kernel_rfl) (by kernel_rfl) (by kernel_rfl) hS0 hm6) ?_
 rintro _ w7 ⟨A9, c10, rfl, hS8⟩
 have hS8 : St _ _ w7 [rowE .u8 5 A9 c10 l5] := hS8
 refine gx_r (st_boxed [.slice none 0 0] 24 hS8 (by kernel_rfl)) ?_
 rintro _ w11 ⟨rfl, hS12⟩
 have hS12 : St _ _ w11 [rowE .u8 5 A9 c10 l5, boxE w7.heap.size [.slice none 0 0] 24] := hS12
 refine gx_s (st_store (j := 0) (v := (.slice A9 l5.length c10)) rfl (by kernel_rfl) (by kernel_rfl) rfl (fun _ => by kernel_rfl) hS12 1 rfl (by show 0 < 1; decide)) ?_
 rintro w13 hS14
 have hS14 : St _ _ w13 [rowE .u8 5 A9 c10 l5, boxE w7.heap.size [.slice A9 l5.length c10] 24] := hS14
 refine gx_nil ?_
 refine gx_thenN ?_
 refine hK4 _ _ ?_
 refine gx_seq (fun K15 hK16 => ?_)
 refine gx_seq (fun K17 hK18 => ?_)
 refine gx_region ?_
 refine gx_k (.slice A0 p0.length c0) w13 ?_
 refine gx_c (pNbs_R A0 p0.length c0 () w13) (pNbs_ok N  A0 p0.length c0 _ rfl w13) ?_
 rintro _ w19 ⟨g22, rfl, hT21⟩
 have hS20 : St _ _ w19 [rowE .u8 5 A9 c10 l5, boxE w7.heap.size [.slice A9 l5.length c10] 24, boxE g22 [.slice A0 p0.length c0] 22] := hS14.take _ hT21
 refine gx_nil ?_
 refine gx_thenN ?_
 refine hK18 _ _ ?_
 refine gx_block ?_
 obtain ⟨its23, hi26, hF⟩ := bind_in hF
 have hS25 : St _ _ w19 ([rowE .u8 5 A9 c10 l5, boxE w7.heap.size [.slice A9 l5.length c10] 24] ++ [boxE g22 [.slice A0 p0.length c0] 22]) := hS20.pick [0, 1, 2] rfl rfl
 have hit24 := pNbs1_iter N p0 _ hi26 g22 A0 c0 hv0.nn
 have hS35 : St _ _ w19 ([rowE .u8 5 A9 c10 l5, boxE w7.heap.size [.slice A9 l5.length c10] 24] ++ [boxE g22 [.slice A0 p0.length c0] 22]) := hS25.pick [0, 1, 2] rfl rfl
 obtain ⟨c32, hE33, hO34⟩ := bind_in hF
 refine gx_rangeO (v := .func (.func 25) #[] #[.pointer (some ⟨g22, 0, none⟩)]) (enc := encint_joiningcharacter) (items := its23) (kp := (pNbs1_kp g22 A0 c0 p0)) (es := [rowE .u8 5 A9 c10 l5, boxE w7.heap.size [.slice A9 l5.length c10] 24]) (ks := [boxE g22 [.slice A0 p0.length c0] 22]) (by kernel_rfl) hit24 (fun ⟨_, _, _, _⟩ => rfl) hS35 (fun rest es => ∃ (l31 : List Int), pForms_X1 N rest l31 = some c32 ∧ es = [rowE .u8 5 A9 c10 l31, boxE w7.heap.size [.slice A9 l31.length c10] 24]) (fun _ => False) (fun W es _ h => ⟨((fun e he => (h.holds e he).1) (boxE g22 [.slice A0 p0.length c0] 22) (by simp)), (h.view hv0)⟩) .skip ⟨l5, hE33, rfl⟩ ?_ ?_ ?_
 ·rintro l42 r43 r44 ⟨x36, x37, x38, x39⟩ its40 w45 _ ⟨l31, hL41, rfl⟩ D48 hP49
  rw [pForms_X1] at hL41
  have hcd := MirB.atL hcd hP49
  have hS46 : St (feet [objE l42 r43, rowE .u8 5 A9 c10 l31, boxE w7.heap.size [.slice A9 l31.length c10] 24]) w45 w45 [objE l42 r43, rowE .u8 5 A9 c10 l31, boxE w7.heap.size [.slice A9 l31.length c10] 24] := hP49.feetP
  refine gx_act ⟨((.slice A0 p0.length c0) :: undef :: (.slice none 0 0) :: (.pointer (some ⟨w7.heap.size, 0, none⟩)) :: undef :: undef :: (.slice A0 p0.length c0) :: (.int .i64 ((p0.length : Nat) : Int)) :: (.slice A9 l5.length c10) :: (.slice A0 p0.length c0) :: (.func (.func 25) #[] #[.pointer (some ⟨g22, 0, none⟩)]) :: (.int .i64 x36) :: (.agg #[.int .u8 x37, .int .u8 x38, .int .u8 x39]) :: un 6 ([])).toArray, []⟩ (by kernel_rfl) ?_
  refine gx_seq (fun K50 hK51 => ?_)
  refine gx_region ?_
  refine gx_k (.int .i64 x36) w45 ?_
  refine gx_nil ?_
  refine gx_thenN ?_
  refine hK51 _ _ ?_
  refine gx_region ?_
  refine gx_r (st_boxed [.int .u8 0, .int .u8 0, .int .u8 0] 36 hS46 (by kernel_rfl)) ?_
  rintro _ w52 ⟨rfl, hS53⟩
  have hS53 : St _ _ w52 [objE l42 r43, rowE .u8 5 A9 c10 l31, boxE w7.heap.size [.slice A9 l31.length c10] 24, boxE w45.heap.size [.int .u8 0, .int .u8 0, .int .u8 0] 36] := hS53
  refine gx_s (st_storeG (cs := [.int .u8 0, .int .u8 0, .int .u8 0]) (ds := [.int .u8 x37, .int .u8 x38, .int .u8 x39]) rfl (by kernel_rfl) (by kernel_rfl) (by kernel_rfl) rfl rfl hS53 3 rfl) ?_
  rintro w54 hS55
  have hS55 : St _ _ w54 [objE l42 r43, rowE .u8 5 A9 c10 l31, boxE w7.heap.size [.slice A9 l31.length c10] 24, boxE w45.heap.size [.int .u8 x37, .int .u8 x38, .int .u8 x39] 36] := hS55
  refine gx_nil ?_
  refine gx_thenN ?_
  refine ⟨[rowE .u8 5 A9 c10 l31, boxE w7.heap.size [.slice A9 l31.length c10] 24, boxE w45.heap.size [.int .u8 x37, .int .u8 x38, .int .u8 x39] 36], hS55, fun w47 hS56 => ?_⟩
  have hS56 : St _ _ w47 [objE l42 r44, rowE .u8 5 A9 c10 l31, boxE w7.heap.size [.slice A9 l31.length c10] 24, boxE w45.heap.size [.int .u8 x37, .int .u8 x38, .int .u8 x39] 36] := hS56
  refine gx_block ?_
  refine gd_start (fun w => St (feet [objE l42 r43, rowE .u8 5 A9 c10 l31, boxE w7.heap.size [.slice A9 l31.length c10] 24]) w45 w [objE l42 r44, rowE .u8 5 A9 c10 l31, boxE w7.heap.size [.slice A9 l31.length c10] 24, boxE w45.heap.size [.int .u8 x37, .int .u8 x38, .int .u8 x39] 36]) 6 #[false, false, false, false, false, false] (by kernel_rfl) (by kernel_rfl) ?_
  have hS58 := hS56.drew
  generalize w47.drew = w57 at hS58 ⊢
  refine gu1 0 13 (.slice A9 l31.length c10) rfl hS58 (fun w hSw => run_load1 rfl (by kernel_rfl) (fun _ => by kernel_rfl) (hSw.box 2 rfl 0 rfl)) ?_
  refine gv1 1 14 (.int .i64 x36) rfl hS58 ?_
  refine gu1 2 15 (.agg #[.int .u8 x37, .int .u8 x38, .int .u8 x39]) rfl hS58 (fun w hSw => run_loadG (d := _) rfl (by kernel_rfl) (hSw.get 3 rfl) rfl rfl (by kernel_rfl)) ?_
  have hP59 : St _ _ w57 ([] ++ [objE l42 r44, rowE .u8 5 A9 c10 l31, boxE w7.heap.size [.slice A9 l31.length c10] 24, boxE w45.heap.size [.int .u8 x37, .int .u8 x38, .int .u8 x39] 36]) := hS58
  obtain ⟨x61, hc60, hL41⟩ := bind_in hL41
  try dsimp only at hL41
  refine gdC 3 { dst := some 16, op := _, type := _, pos := _, after := _, guard := _ } (pForm_R x61 w57) rfl (by kernel_rfl) (pForm_ok N x37 x38 x39 _ hc60 w57 (MirB.atL hcd hP59)) ?_
  rintro _ w62 ⟨rfl, hT64⟩
  have hS63 : St _ _ w62 [objE l42 r44, rowE .u8 5 A9 c10 l31, boxE w7.heap.size [.slice A9 l31.length c10] 24, boxE w45.heap.size [.int .u8 x37, .int .u8 x38, .int .u8 x39] 36] := hS58.take _ hT64
  refine ⟨hS63, ?_⟩
  obtain ⟨x65, hx66, hL41⟩ := bind_in hL41
  refine gu1 4 17 (.pointer (Option.map (fun (p : Addr) => p.add (Int.toNat x36 * 1)) A9)) rfl hS63 (fun w hSw => run_ixaddr (E := 5) (s := 1) (k := .i64) (c := c10) rfl (by kernel_rfl) (by kernel_rfl) (by kernel_rfl) (fun _ => by kernel_rfl) (ix_in hx66).1 (ix_in hx66).2.1 (num_nil (hS63.row 1 rfl).1)) ?_
  obtain ⟨l69, hx70, hL41⟩ := bind_in hL41
  refine gdSz 5 { dst := none, op := _, type := _, pos := _, after := _, guard := _ } rfl (st_storeix rfl (by kernel_rfl) (by kernel_rfl) (fun _ => by kernel_rfl) hS63 1 rfl hx70) ?_
  rintro w67 hS68
  have hS68 : St _ _ w67 [objE l42 r44, rowE .u8 5 A9 c10 l69, boxE w7.heap.size [.slice A9 l31.length c10] 24, boxE w45.heap.size [.int .u8 x37, .int .u8 x38, .int .u8 x39] 36] := hS68
  refine gd_done (by kernel_rfl) ?_
  have hS71 : St _ _ w67 [objE l42 r44, rowE .u8 5 A9 c10 l69, boxE w7.heap.size [.slice A9 l69.length c10] 24, boxE w45.heap.size [.int .u8 x37, .int .u8 x38, .int .u8 x39] 36] := (show [objE l42 r44, rowE .u8 5 A9 c10 l69, boxE w7.heap.size [.slice A9 l31.length c10] 24, boxE w45.heap.size [.int .u8 x37, .int .u8 x38, .int .u8 x39] 36] = [objE l42 r44, rowE .u8 5 A9 c10 l69, boxE w7.heap.size [.slice A9 l69.length c10] 24, boxE w45.heap.size [.int .u8 x37, .int .u8 x38, .int .u8 x39] 36] by rw [show l31.length = l69.length from (setx_len hx70).symm]) ▸ hS68
  refine gx_blkN ?_
  exact ⟨⟨[rowE .u8 5 A9 c10 l69, boxE w7.heap.size [.slice A9 l69.length c10] 24], (hS71.pick [0, 1, 2] rfl rfl), l69, hL41, rfl⟩⟩
 ·rintro D72 w73 _ ⟨l31, hL41, rfl⟩ hS74
  rw [pForms_X1] at hL41
  obtain rfl := Option.some.inj hL41
  try dsimp only at hO34
  have hS74 : St _ _ w73 [objE D72 (.deferred (some [])), rowE .u8 5 A9 c10 l31, boxE w7.heap.size [.slice A9 l31.length c10] 24, boxE g22 [.slice A0 p0.length c0] 22] := hS74
  refine gx_blkN ?_
  refine gx_thenN ?_
  refine hK16 _ _ ?_
  refine gx_seq (fun K75 hK76 => ?_)
  refine gx_region ?_
  refine gx_v (.slice A9 l31.length c10) w73 (run_load1 rfl (by kernel_rfl) (fun _ => by kernel_rfl) (hS74.box 2 rfl 0 rfl)) ?_
  refine gx_k (.slice A9 l31.length c10) w73 ?_
  refine gx_nil ?_
  refine gx_thenN ?_
  refine hK76 _ _ ?_
  refine gx_ret ?_
  obtain rfl := Option.some.inj hO34
  exact gx_finM1 (es := [rowE .u8 5 A9 c10 l31]) (.slice A9 l31.length c10) (by kernel_rfl) (hS74.pick [0, 1] rfl rfl) (fun w hS => ⟨by kernel_rfl, _, rfl, A9, c10, rfl, hS⟩)
 ·exact fun _ _ _ h => h.elim

end Go.Proofs.YtbdhgjaoojimmaaDoor
