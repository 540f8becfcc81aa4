/-
  The program, walked.
-/
import Derived.Test.YtdfgecndbfmgnaaDoorPB2
namespace Go.Proofs.YtdfgecndbfmgnaaDoor
open Go Go.RowKit
set_option linter.unusedVariables false

def pBec_kp (k0 : Nat) (Aq0 : Option Addr) (cq0 : Nat) (k1 : Nat) (k2 : Nat) (q0 : List Int) (q1 : Int) (q2 : Int) (W : World) : Prop := W.heap[k0]? = some (.cells [.slice Aq0 q0.length cq0].toArray 23 (0, 0)) ∧ NumZ .u8 W (.slice Aq0 q0.length cq0) q0 ∧ W.heap[k1]? = some (.cells [.int .u8 q1].toArray 33 (0, 0)) ∧ W.heap[k2]? = some (.cells [.int .u8 q2].toArray 33 (0, 0))

def pBec_L1 (N : Nat) (q1 : Int) (l16 : List Int) : Nat → Bool → Int → Option (Ctl (Bool) (Int))
 | 0, _, _ => none
 | k27+1, b25, x26 => (if x26 < ((l16.length : Nat) : Int) then ((ix l16 x26).bind fun x38 => ((bDir N x38).bind fun x46 => (if x46 = 0 then pBec_L1 N q1 l16 k27 b25 (IntKind.i64.wrap (x26 + 1)) else (if x46 = q1 then some (Ctl.ret q1) else pBec_L1 N q1 l16 k27 true (IntKind.i64.wrap (x26 + 1)))))) else some (Ctl.go b25))
def pBec (N : Nat) (p0_0 : Int) (p0_1 : Int) (q0 : List Int) (q1 : Int) (q2 : Int) : Option (Int) :=
 ((((cutx q0 (IntKind.i64.wrap (p0_0 + 1)) p0_1).bind fun l16 => pBec_L1 N q1 l16 N false 0) : Option (Ctl (Bool) (Int))).bind fun | Ctl.go b10 => (match b10 with | true => ((cutx q0 (0 : Int) p0_0).bind fun l67 => ((pAhead N l67 q2).bind fun x77 => some x77)) | false => some 0) | Ctl.ret r => some r)

set_option linter.unusedVariables false in
def pBec_R (r : Int) (w0 : World) (v : Value) (w : World) : Prop := v = .int .u8 r ∧ St [] w0 w []

set_option maxRecDepth 100000 in
set_option maxHeartbeats 4000000 in
theorem pBec_ok (N : Nat) (p0_0 : Int) (p0_1 : Int) (q0 : List Int) (q1 : Int) (q2 : Int) (k0 : Nat) (Aq0 : Option Addr) (cq0 : Nat) (k1 : Nat) (k2 : Nat) (r : Int) (hF : pBec N p0_0 p0_1 q0 q1 q2 = some r) (w0 : World) (hnq0 : Aq0 = none → cq0 = 0) (hk : pBec_kp k0 Aq0 cq0 k1 k2 q0 q1 q2 w0) :
  Calls Tryd.prog 38 #[.agg #[.int .i64 p0_0, .int .i64 p0_1], .pointer (some ⟨k0, 0, none⟩), .pointer (some ⟨k1, 0, none⟩), .pointer (some ⟨k2, 0, none⟩)] w0 fun e w => ∃ v, e = .returned v ∧ pBec_R r w0 v w := by
 have hS0 := St.start w0
 unfold pBec at hF
 refine calls_of Tryd.func38 rfl ⟨((.agg #[.int .i64 p0_0, .int .i64 p0_1]) :: (.pointer (some ⟨k0, 0, none⟩)) :: (.pointer (some ⟨k1, 0, none⟩)) :: (.pointer (some ⟨k2, 0, none⟩)) :: un 34 ([])).toArray, []⟩ (by kernel_rfl) ?_
 refine gx_seq (fun K1 hK2 => ?_)
 refine gx_region ?_
 refine gx_r (st_boxed [.int .i64 p0_0, .int .i64 p0_1] 30 hS0 (by kernel_rfl)) ?_
 rintro _ w3 ⟨rfl, hS4⟩
 have hS4 : St _ _ w3 [boxE w0.heap.size [.int .i64 p0_0, .int .i64 p0_1] 30] := hS4
 refine gx_k (.int .u8 0) w3 ?_
 refine gx_nil ?_
 refine gx_thenN ?_
 refine hK2 _ _ ?_
 refine gx_seq (fun K5 hK6 => ?_)
 refine gx_region ?_
 refine gx_k (.bool false) w3 ?_
 refine gx_nil ?_
 refine gx_thenN ?_
 refine hK6 _ _ ?_
 obtain ⟨c11, hE12, hO13⟩ := bind_in hF
 refine gx_cut (fun a w => ∃ (b10 : Bool), selfA (fun u9 => ⟨((u9 0) :: (.pointer (some ⟨k0, 0, none⟩)) :: (.pointer (some ⟨k1, 0, none⟩)) :: (.pointer (some ⟨k2, 0, none⟩)) :: (.pointer (some ⟨w0.heap.size, 0, none⟩)) :: (u9 5) :: (.bool b10) :: undef :: dd u9 8 22 (un 8 ([]))).toArray, []⟩) a ∧ Ctl.go b10 = c11 ∧ St [] w0 w [boxE w0.heap.size [.int .i64 p0_0, .int .i64 p0_1] 30]) ?_ ?_
 ·refine gx_seq (fun K14 hK15 => ?_)
  refine gx_region ?_
  refine gx_v (.slice Aq0 q0.length cq0) w3 (run_load1 rfl (by kernel_rfl) (fun _ => by kernel_rfl) (hS4.read hk.1 0 rfl)) ?_
  refine gx_k (.pointer (some ⟨w0.heap.size, 0, none⟩)) w3 ?_
  refine gx_v (.int .i64 p0_0) w3 (run_load1 rfl (by kernel_rfl) (fun _ => by kernel_rfl) (hS4.box 0 rfl 0 rfl)) ?_
  refine gx_k (.int .i64 (IntKind.i64.wrap (p0_0 + 1))) w3 (gx_k (.pointer (some ⟨w0.heap.size, 1, none⟩)) w3 ?_)
  refine gx_v (.int .i64 p0_1) w3 (run_load1 rfl (by kernel_rfl) (fun _ => by kernel_rfl) (hS4.box 0 rfl 1 rfl)) ?_
  obtain ⟨l16, hx17, hE12⟩ := bind_in hE12
  obtain ⟨A18, c19, hA20⟩ := cut_is Aq0 (Int.toNat (IntKind.i64.wrap (p0_0 + 1))) (Int.toNat p0_1) cq0
  rw [← cutx_len hx17] at hA20
  refine gx_v (.slice A18 l16.length c19) w3 (run_cut (TE := 33) (n := q0.length) (l := Int.toNat (IntKind.i64.wrap (p0_0 + 1))) (h := Int.toNat p0_1) (some (.int .i64 (IntKind.i64.wrap (p0_0 + 1)))) (some (.int .i64 p0_1)) rfl (by kernel_rfl) (by kernel_rfl) (by kernel_rfl) (by kernel_rfl) (fun _ => by kernel_rfl) (bnd_lh (cutx_in hx17).1 (cutx_in hx17).2.1 (Int.le_trans (cutx_in hx17).2.2.1 (by exact_mod_cast num_room (hS4.view (Vw.of hk.2.1 hnq0))))) hA20) ?_
  refine gx_k (.int .i64 ((l16.length : Nat) : Int)) w3 (gx_k (.int .i64 0) w3 ?_)
  refine gx_nil ?_
  refine gx_thenN ?_
  refine hK15 _ _ ?_
  refine gx_block ?_
  refine gx_loop (fun k a w => ∃ (b25 : Bool) (x26 : Int), selfA (fun u24 => ⟨((u24 0) :: (.pointer (some ⟨k0, 0, none⟩)) :: (.pointer (some ⟨k1, 0, none⟩)) :: (.pointer (some ⟨k2, 0, none⟩)) :: (.pointer (some ⟨w0.heap.size, 0, none⟩)) :: (u24 5) :: (.bool b25) :: undef :: dd u24 8 2 ((.pointer (some ⟨w0.heap.size, 0, none⟩)) :: (.int .i64 p0_0) :: (.int .i64 (IntKind.i64.wrap (p0_0 + 1))) :: (.pointer (some ⟨w0.heap.size, 1, none⟩)) :: (.int .i64 p0_1) :: (.slice A18 l16.length c19) :: (.int .i64 ((l16.length : Nat) : Int)) :: (.int .i64 x26) :: dd u24 18 12 (un 8 ([])))).toArray, []⟩) a ∧ pBec_L1 N q1 l16 k b25 x26 = some c11 ∧ St [] w0 w [boxE w0.heap.size [.int .i64 p0_0, .int .i64 p0_1] 30]) N ?_ ?_
  ·exact ⟨false, 0, selfA_i (by kernel_rfl), hE12, hS4⟩
  ·rintro k27 _ w22 ⟨b25, x26, hq58, hL28, hS23⟩
   obtain ⟨u24, rfl⟩ := selfA_u hq58
   cases k27 with
   | zero => cases hL28
   | succ k27 =>
    first | rw [pBec_L1] at hL28 | unfold pBec_L1 at hL28
    refine gx_seq (fun K29 hK30 => ?_)
    refine gx_region ?_
    rcases if_in hL28 with ⟨h31, hL28⟩ | ⟨h31, hL28⟩
    ·refine gx_v (.bool true) w22 (run_boolE (decide_eq_true h31) (by kernel_rfl)) ?_
     refine gx_nil ?_
     refine gx_thenN ?_
     refine hK30 _ _ ?_
     refine gx_seq (fun K32 hK33 => ?_)
     refine gx_yes (by kernel_rfl) ?_
     refine gx_pass ?_
     refine gx_thenN ?_
     refine hK33 _ _ ?_
     refine gx_seq (fun K34 hK35 => ?_)
     refine gx_block ?_
     refine gx_seq (fun K36 hK37 => ?_)
     refine gx_region ?_
     obtain ⟨x38, hx39, hL28⟩ := bind_in hL28
     refine gx_v (.pointer (Option.map (fun (p : Addr) => p.add (Int.toNat x26 * 1)) A18)) w22 (run_ixaddr (E := 33) (s := 1) (k := .i64) (c := c19) rfl (by kernel_rfl) (by kernel_rfl) (by kernel_rfl) (fun _ => by kernel_rfl) (ix_in hx39).1 (ix_in hx39).2.1 (num_nil (num_cut (hS23.view (Vw.of hk.2.1 hnq0)) hx17 hA20))) ?_
     refine gx_v (.int .u8 x38) w22 (run_loadix rfl (by kernel_rfl) (fun _ => by kernel_rfl) (num_cut (hS23.view (Vw.of hk.2.1 hnq0)) hx17 hA20) hx39) ?_
     refine gx_k (.int .u8 x38) w22 ?_
     refine gx_nil ?_
     refine gx_thenN ?_
     refine hK37 _ _ ?_
     refine gx_seq (fun K40 hK41 => ?_)
     refine gx_region ?_
     refine gx_k (.int .u8 x38) w22 ?_
     obtain ⟨x46, hc43, hL28⟩ := bind_in hL28
     try dsimp only at hL28
     refine gx_c (bDir_R  x46 w22) (bDir_ok N x38 _ hc43 w22 ) ?_
     rintro _ w44 ⟨rfl, hT47⟩
     have hS45 : St _ _ w44 [boxE w0.heap.size [.int .i64 p0_0, .int .i64 p0_1] 30] := hS23.take _ hT47
     refine gx_nil ?_
     refine gx_thenN ?_
     refine hK41 _ _ ?_
     refine gx_block ?_
     refine gx_seq (fun K48 hK49 => ?_)
     refine gx_region ?_
     rcases if_in hL28 with ⟨h50, hL28⟩ | ⟨h50, hL28⟩
     ·refine gx_v (.bool true) w44 (run_boolE (decide_eq_true h50) (by kernel_rfl)) ?_
      refine gx_k (.bool true) w44 ?_
      refine gx_nil ?_
      refine gx_thenN ?_
      refine hK49 _ _ ?_
      refine gx_yes (by kernel_rfl) ?_
      refine gx_pass ?_
      refine gx_blkN ?_
      refine gx_blkN ?_
      refine gx_thenN ?_
      refine hK35 _ _ ?_
      refine gx_region ?_
      refine gx_k (.int .i64 (IntKind.i64.wrap (x26 + 1))) w44 (gx_k (.int .i64 (IntKind.i64.wrap (x26 + 1))) w44 ?_)
      refine gx_nil ?_
      refine gx_thenN ?_
      exact ⟨k27, Nat.lt_succ_self k27, b25, (IntKind.i64.wrap (x26 + 1)), selfA_i (by kernel_rfl), hL28, hS45⟩
     ·refine gx_v (.bool false) w44 (run_boolE (decide_eq_false h50) (by kernel_rfl)) ?_
      refine gx_k (.bool false) w44 ?_
      refine gx_nil ?_
      refine gx_thenN ?_
      refine hK49 _ _ ?_
      refine gx_no (by kernel_rfl) ?_
      refine gx_seq (fun K51 hK52 => ?_)
      refine gx_region ?_
      refine gx_v (.int .u8 q1) w44 (run_load1 rfl (by kernel_rfl) (fun _ => by kernel_rfl) (hS45.read hk.2.2.1 0 rfl)) ?_
      rcases if_in hL28 with ⟨h53, hL28⟩ | ⟨h53, hL28⟩
      ·refine gx_v (.bool true) w44 (run_boolE (decide_eq_true h53) (by kernel_rfl)) ?_
       refine gx_k (.bool true) w44 ?_
       refine gx_nil ?_
       refine gx_thenN ?_
       refine hK52 _ _ ?_
       refine gx_yes (by kernel_rfl) ?_
       refine gx_seq (fun K54 hK55 => ?_)
       refine gx_region ?_
       refine gx_v (.int .u8 q1) w44 (run_load1 rfl (by kernel_rfl) (fun _ => by kernel_rfl) (hS45.read hk.2.2.1 0 rfl)) ?_
       refine gx_k (.int .u8 q1) w44 ?_
       refine gx_nil ?_
       refine gx_thenN ?_
       refine hK55 _ _ ?_
       refine gx_ret ?_
       refine gx_blkR ?_
       refine gx_blkR ?_
       refine gx_thenR ?_
       refine gx_thenR ?_
       refine gx_blkR ?_
       refine gx_thenR ?_
       obtain rfl := Option.some.inj hL28
       try dsimp only at hO13
       obtain rfl := Option.some.inj hO13
       exact gx_fin (.int .u8 q1) (by kernel_rfl) (by kernel_rfl) ⟨_, rfl, rfl, (hS45.pick [] rfl rfl)⟩
      ·refine gx_v (.bool false) w44 (run_boolE (decide_eq_false h53) (by kernel_rfl)) ?_
       refine gx_k (.bool false) w44 ?_
       refine gx_nil ?_
       refine gx_thenN ?_
       refine hK52 _ _ ?_
       refine gx_no (by kernel_rfl) ?_
       refine gx_region ?_
       refine gx_k (.bool true) w44 ?_
       refine gx_nil ?_
       refine gx_blkN ?_
       refine gx_blkN ?_
       refine gx_thenN ?_
       refine hK35 _ _ ?_
       refine gx_region ?_
       refine gx_k (.int .i64 (IntKind.i64.wrap (x26 + 1))) w44 (gx_k (.int .i64 (IntKind.i64.wrap (x26 + 1))) w44 ?_)
       refine gx_nil ?_
       refine gx_thenN ?_
       exact ⟨k27, Nat.lt_succ_self k27, true, (IntKind.i64.wrap (x26 + 1)), selfA_i (by kernel_rfl), hL28, hS45⟩
    ·refine gx_v (.bool false) w22 (run_boolE (decide_eq_false h31) (by kernel_rfl)) ?_
     refine gx_nil ?_
     refine gx_thenN ?_
     refine hK30 _ _ ?_
     refine gx_seq (fun K56 hK57 => ?_)
     refine gx_no (by kernel_rfl) ?_
     refine gx_exit ?_
     refine gx_thenE ?_
     refine gx_thenE ?_
     refine gx_blkE ?_
     refine gx_thenN ?_
     exact ⟨b25, selfA_i (by kernel_rfl), (Option.some.inj hL28), hS23⟩
 ·rintro _ w7 ⟨b10, hq81, rfl, hS8⟩
  obtain ⟨u9, rfl⟩ := selfA_u hq81
  try dsimp only at hO13
  refine gx_seq (fun K59 hK60 => ?_)
  refine gx_seq (fun K61 hK62 => ?_)
  refine gx_region ?_
  refine gx_k (.bool b10) w7 ?_
  cases b10 with
  | true =>
   try dsimp only at hO13
   refine gx_k (.bool false) w7 ?_
   refine gx_nil ?_
   refine gx_thenN ?_
   refine hK62 _ _ ?_
   refine gx_no (by kernel_rfl) ?_
   refine gx_pass ?_
   refine gx_thenN ?_
   refine hK60 _ _ ?_
   refine gx_seq (fun K63 hK64 => ?_)
   refine gd_start (fun w => St [] w0 w [boxE w0.heap.size [.int .i64 p0_0, .int .i64 p0_1] 30]) 7 #[false, false, false, false, false, false, false] (by kernel_rfl) (by kernel_rfl) ?_
   have hS66 := hS8.drew
   generalize w7.drew = w65 at hS66 ⊢
   refine gu1 0 32 (.slice Aq0 q0.length cq0) rfl hS66 (fun w hSw => run_load1 rfl (by kernel_rfl) (fun _ => by kernel_rfl) (hSw.read hk.1 0 rfl)) ?_
   refine gv1 1 33 (.pointer (some ⟨w0.heap.size, 0, none⟩)) rfl hS66 ?_
   refine gu1 2 34 (.int .i64 p0_0) rfl hS66 (fun w hSw => run_load1 rfl (by kernel_rfl) (fun _ => by kernel_rfl) (hSw.box 0 rfl 0 rfl)) ?_
   obtain ⟨l67, hx68, hO13⟩ := bind_in hO13
   obtain ⟨A69, c70, hA71⟩ := cut_is Aq0 (Int.toNat (0 : Int)) (Int.toNat p0_0) cq0
   rw [← cutx_len hx68] at hA71
   refine gu1 3 35 (.slice A69 l67.length c70) rfl hS66 (fun w hSw => run_cut (TE := 33) (n := q0.length) (l := Int.toNat (0 : Int)) (h := Int.toNat p0_0) none (some (.int .i64 p0_0)) rfl (by kernel_rfl) (by kernel_rfl) (by kernel_rfl) (by kernel_rfl) (fun _ => by kernel_rfl) (bnd_h (cutx_in hx68).2.1 (Int.le_trans (cutx_in hx68).2.2.1 (by exact_mod_cast num_room (hS66.view (Vw.of hk.2.1 hnq0))))) hA71) ?_
   refine gu1 4 36 (.int .u8 q2) rfl hS66 (fun w hSw => run_load1 rfl (by kernel_rfl) (fun _ => by kernel_rfl) (hSw.read hk.2.2.2 0 rfl)) ?_
   obtain ⟨x77, hc74, hO13⟩ := bind_in hO13
   try dsimp only at hO13
   refine gdC 5 { dst := some 37, op := _, type := _, pos := _, after := _, guard := _ } (pAhead_R  x77 w65) rfl (by kernel_rfl) (pAhead_ok N l67 q2 A69 c70 _ hc74 w65 (Vw.of (num_cut (hS66.view (Vw.of hk.2.1 hnq0)) hx68 hA71) (cut_nn hnq0 hA71))) ?_
   rintro _ w75 ⟨rfl, hT78⟩
   have hS76 : St _ _ w75 [boxE w0.heap.size [.int .i64 p0_0, .int .i64 p0_1] 30] := hS66.take _ hT78
   refine ⟨hS76, ?_⟩
   refine gv1 6 5 (.int .u8 x77) rfl hS76 ?_
   refine gd_done (by kernel_rfl) ?_
   refine gx_thenN ?_
   refine hK64 _ _ ?_
   refine gx_ret ?_
   obtain rfl := Option.some.inj hO13
   exact gx_fin (.int .u8 x77) (by kernel_rfl) (by kernel_rfl) ⟨_, rfl, rfl, (hS76.pick [] rfl rfl)⟩
  | false =>
   try dsimp only at hO13
   refine gx_k (.bool true) w7 ?_
   refine gx_nil ?_
   refine gx_thenN ?_
   refine hK62 _ _ ?_
   refine gx_yes (by kernel_rfl) ?_
   refine gx_seq (fun K79 hK80 => ?_)
   refine gx_region ?_
   refine gx_k (.int .u8 0) w7 ?_
   refine gx_nil ?_
   refine gx_thenN ?_
   refine hK80 _ _ ?_
   refine gx_ret ?_
   refine gx_thenR ?_
   obtain rfl := Option.some.inj hO13
   exact gx_fin (.int .u8 0) (by kernel_rfl) (by kernel_rfl) ⟨_, rfl, rfl, (hS8.pick [] rfl rfl)⟩

end Go.Proofs.YtdfgecndbfmgnaaDoor
