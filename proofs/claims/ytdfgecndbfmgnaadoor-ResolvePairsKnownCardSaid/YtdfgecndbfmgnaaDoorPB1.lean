/-
  The program, walked.
-/
import Derived.Test.YtdfgecndbfmgnaaDoorPB0
import Derived.Test.YtdfgecndbfmgnaaDoorBr
namespace Go.Proofs.YtdfgecndbfmgnaaDoor
open Go Go.RowKit
set_option linter.unusedVariables false

def pPaired_L1 (N : Nat) (p0 : List Int) (p1 : List Int) : Nat → (List (Int × Int)) → Int → (List (Int × Int)) → Option (Ctl (List (Int × Int)) (List (Int × Int)))
 | 0, _, _, _ => none
 | k34+1, l31, x32, m33 => (if x32 < ((p0.length : Nat) : Int) then ((ix p0 x32).bind fun x45 => ((ix p1 x32).bind fun x51 => (if x51 ≠ 14 then pPaired_L1 N p0 p1 k34 l31 (IntKind.i64.wrap (x32 + 1)) m33 else ((ucBr N x45).bind fun (x58, b59, b60) => (match b60 with | true => (match b59 with | true => ((kPut m33 x32 x58).bind fun (m75, b76) => (match b76 with | true => pPaired_L1 N p0 p1 k34 l31 (IntKind.i64.wrap (x32 + 1)) m75 | false => some (Ctl.ret l31))) | false => ((kTake m33 x58).bind fun (m87, x88, b89) => (match b89 with | true => ((apg l31 ([(x88, x32)] : List (Int × Int))).bind fun l95 => pPaired_L1 N p0 p1 k34 l95 (IntKind.i64.wrap (x32 + 1)) m87) | false => pPaired_L1 N p0 p1 k34 l31 (IntKind.i64.wrap (x32 + 1)) m87))) | false => pPaired_L1 N p0 p1 k34 l31 (IntKind.i64.wrap (x32 + 1)) m33))))) else some (Ctl.go l31))
def pPaired (N : Nat) (p0 : List Int) (p1 : List Int) : Option (List (Int × Int)) :=
 ((pPaired_L1 N p0 p1 N ([] : List (Int × Int)) 0 ([] : List (Int × Int)) : Option (Ctl (List (Int × Int)) (List (Int × Int)))).bind fun | Ctl.go l16 => some l16 | Ctl.ret r => some r)

set_option linter.unusedVariables false in
def pPaired_R (r : List (Int × Int)) (w0 : World) (v : Value) (w : World) : Prop := ∃ (A0' : Option Addr) (c0' : Nat) (vs0' : List Value) (ft' : List Nat), v = .slice A0' r.length c0' ∧ St [] w0 w [rowG 30 2 (.slice A0' r.length c0') r.length vs0', poolE ft' w] ∧ (fEach (pairE (intE .i64) (intE .i64)) vs0' r).rd w ft'

set_option maxRecDepth 100000 in
set_option maxHeartbeats 4000000 in
theorem pPaired_ok (N : Nat) (p0 : List Int) (p1 : List Int) (A0 : Option Addr) (c0 : Nat) (A1 : Option Addr) (c1 : Nat) (r : List (Int × Int)) (hF : pPaired N p0 p1 = some r) (w0 : World) (hv0 : Vw [] .i32 w0 A0 c0 p0) (hv1 : Vw [] .u8 w0 A1 c1 p1) (hcd : MirW w0) :
  Calls Tryd.prog 13 #[.slice A0 p0.length c0, .slice A1 p1.length c1] w0 fun e w => ∃ v, e = .returned v ∧ pPaired_R r w0 v w := by
 have hS0 := (St.start w0).pool0
 unfold pPaired at hF
 refine calls_of Tryd.func13 rfl ⟨((.slice A0 p0.length c0) :: (.slice A1 p1.length c1) :: un 54 ([])).toArray, []⟩ (by kernel_rfl) ?_
 refine gx_seq (fun K1 hK2 => ?_)
 refine gx_region ?_
 refine gx_k (.slice none 0 0) w0 ?_
 refine gx_nil ?_
 refine gx_thenN ?_
 refine hK2 _ _ ?_
 refine gx_seq (fun K3 hK4 => ?_)
 refine gx_region ?_
 refine gx_r (st_stk0 hS0 (by kernel_rfl)) ?_
 rintro _ w5 ⟨rfl, hS6⟩
 have hS6 : St _ _ w5 [poolE ([]) w0, stkE w0.heap.size ([] : List (Int × Int))] := hS6
 refine gx_nil ?_
 refine gx_thenN ?_
 refine hK4 _ _ ?_
 refine gx_seq (fun K7 hK8 => ?_)
 refine gx_region ?_
 refine gx_k (.slice none 0 0) w5 ?_
 refine gx_nil ?_
 refine gx_thenN ?_
 refine hK8 _ _ ?_
 obtain ⟨c17, hE18, hO19⟩ := bind_in hF
 refine gx_cut (fun a w => ∃ (l16 : List (Int × Int)) (A12 : Option Addr) (c13 : Nat) (vs14 : List Value), selfA (fun u11 => ⟨(dd u11 0 2 (undef :: undef :: dd u11 4 2 ((.slice A12 l16.length c13) :: dd u11 7 48 (undef :: [])))).toArray, []⟩) a ∧ Ctl.go l16 = c17 ∧ St [] w0 w [poolE ([]) w0, rowG 30 2 (.slice A12 l16.length c13) l16.length vs14] ∧ (fEach (pairE (intE .i64) (intE .i64)) vs14 l16).rd w0 ([])) ?_ ?_
 ·refine gx_seq (fun K20 hK21 => ?_)
  refine gx_region ?_
  refine gx_k (.slice A0 p0.length c0) w5 (gx_k (.int .i64 ((p0.length : Nat) : Int)) w5 (gx_k (.int .i64 0) w5 ?_))
  refine gx_nil ?_
  refine gx_thenN ?_
  refine hK21 _ _ ?_
  refine gx_block ?_
  have hS22 : St _ _ w5 [poolE ([]) w0, stkE w0.heap.size ([] : List (Int × Int)), rowG 30 2 (.slice none (([] : List (Int × Int)).length) 0) (([] : List (Int × Int)).length) ([])] := hS6.nilrowN 30 2
  have hf23 : (fEach (pairE (intE .i64) (intE .i64)) [] []).rd w0 ([]) := each_nil
  refine gx_loop (fun k a w => ∃ (l31 : List (Int × Int)) (x32 : Int) (m33 : List (Int × Int)) (A27 : Option Addr) (c28 : Nat) (vs29 : List Value), selfA (fun u26 => ⟨((u26 0) :: (.slice A1 p1.length c1) :: undef :: undef :: (u26 4) :: (.pointer (some ⟨w0.heap.size, 0, none⟩)) :: (.slice A27 l31.length c28) :: dd u26 7 7 ((.slice A0 p0.length c0) :: (.int .i64 ((p0.length : Nat) : Int)) :: (.int .i64 x32) :: dd u26 17 38 (undef :: []))).toArray, []⟩) a ∧ pPaired_L1 N p0 p1 k l31 x32 m33 = some c17 ∧ St [] w0 w [poolE ([]) w0, rowG 30 2 (.slice A27 l31.length c28) l31.length vs29, stkE w0.heap.size m33] ∧ (fEach (pairE (intE .i64) (intE .i64)) vs29 l31).rd w0 ([])) N ?_ ?_
  ·exact ⟨([] : List (Int × Int)), 0, ([] : List (Int × Int)), none, 0, ([]), selfA_i (by kernel_rfl), hE18, (hS22.pick [0, 2, 1] rfl rfl), hf23⟩
  ·rintro k34 _ w24 ⟨l31, x32, m33, A27, c28, vs29, hq105, hL35, hS25, hf30⟩
   obtain ⟨u26, rfl⟩ := selfA_u hq105
   cases k34 with
   | zero => cases hL35
   | succ k34 =>
    first | rw [pPaired_L1] at hL35 | unfold pPaired_L1 at hL35
    refine gx_seq (fun K36 hK37 => ?_)
    refine gx_region ?_
    rcases if_in hL35 with ⟨h38, hL35⟩ | ⟨h38, hL35⟩
    ·refine gx_v (.bool true) w24 (run_boolE (decide_eq_true h38) (by kernel_rfl)) ?_
     refine gx_nil ?_
     refine gx_thenN ?_
     refine hK37 _ _ ?_
     refine gx_seq (fun K39 hK40 => ?_)
     refine gx_yes (by kernel_rfl) ?_
     refine gx_pass ?_
     refine gx_thenN ?_
     refine hK40 _ _ ?_
     refine gx_seq (fun K41 hK42 => ?_)
     refine gx_block ?_
     refine gx_seq (fun K43 hK44 => ?_)
     refine gx_region ?_
     refine gx_k (.int .i64 x32) w24 ?_
     obtain ⟨x45, hx46, hL35⟩ := bind_in hL35
     refine gx_v (.pointer (Option.map (fun (p : Addr) => p.add (Int.toNat x32 * 1)) A0)) w24 (run_ixaddr (E := 21) (s := 1) (k := .i64) (c := c0) rfl (by kernel_rfl) (by kernel_rfl) (by kernel_rfl) (fun _ => by kernel_rfl) (ix_in hx46).1 (ix_in hx46).2.1 (num_nil (hS25.view hv0))) ?_
     refine gx_v (.int .i32 x45) w24 (run_loadix rfl (by kernel_rfl) (fun _ => by kernel_rfl) (hS25.view hv0) hx46) ?_
     refine gx_k (.int .i64 x32) w24 (gx_k (.int .i32 x45) w24 ?_)
     refine gx_nil ?_
     refine gx_thenN ?_
     refine hK44 _ _ ?_
     refine gx_seq (fun K47 hK48 => ?_)
     refine gx_seq (fun K49 hK50 => ?_)
     refine gx_region ?_
     refine gx_k (.slice A1 p1.length c1) w24 (gx_k (.int .i64 x32) w24 ?_)
     obtain ⟨x51, hx52, hL35⟩ := bind_in hL35
     refine gx_v (.pointer (Option.map (fun (p : Addr) => p.add (Int.toNat x32 * 1)) A1)) w24 (run_ixaddr (E := 33) (s := 1) (k := .i64) (c := c1) rfl (by kernel_rfl) (by kernel_rfl) (by kernel_rfl) (fun _ => by kernel_rfl) (ix_in hx52).1 (ix_in hx52).2.1 (num_nil (hS25.view hv1))) ?_
     refine gx_v (.int .u8 x51) w24 (run_loadix rfl (by kernel_rfl) (fun _ => by kernel_rfl) (hS25.view hv1) hx52) ?_
     rcases if_in hL35 with ⟨h53, hL35⟩ | ⟨h53, hL35⟩
     ·refine gx_v (.bool true) w24 (run_boolE (ne_yes h53) (by kernel_rfl)) ?_
      refine gx_nil ?_
      refine gx_thenN ?_
      refine hK50 _ _ ?_
      refine gx_yes (by kernel_rfl) ?_
      refine gx_exit ?_
      refine gx_thenE ?_
      refine gx_blkE ?_
      refine gx_thenN ?_
      refine hK42 _ _ ?_
      refine gx_region ?_
      refine gx_k (.int .i64 (IntKind.i64.wrap (x32 + 1))) w24 (gx_k (.int .i64 (IntKind.i64.wrap (x32 + 1))) w24 ?_)
      refine gx_nil ?_
      refine gx_thenN ?_
      exact ⟨k34, Nat.lt_succ_self k34, l31, (IntKind.i64.wrap (x32 + 1)), m33, A27, c28, vs29, selfA_i (by kernel_rfl), hL35, hS25, hf30⟩
     ·refine gx_v (.bool false) w24 (run_boolE (ne_no h53) (by kernel_rfl)) ?_
      refine gx_nil ?_
      refine gx_thenN ?_
      refine hK50 _ _ ?_
      refine gx_no (by kernel_rfl) ?_
      refine gx_pass ?_
      refine gx_thenN ?_
      refine hK48 _ _ ?_
      refine gx_seq (fun K54 hK55 => ?_)
      refine gx_region ?_
      refine gx_k (.int .i32 x45) w24 ?_
      have hP56 : St _ _ w24 ([] ++ [poolE ([]) w0, rowG 30 2 (.slice A27 l31.length c28) l31.length vs29, stkE w0.heap.size m33]) := hS25
      obtain ⟨⟨x58, b59, b60⟩, hc57, hL35⟩ := bind_in hL35
      try dsimp only at hL35
      refine gx_c (ucBr_R (x58, b59, b60) w24) (ucBr_ok N x45 _ hc57 w24 (MirW.at hcd hS25.below)) ?_
      rintro _ w61 ⟨rfl, hT63⟩
      have hS62 : St _ _ w61 [poolE ([]) w0, rowG 30 2 (.slice A27 l31.length c28) l31.length vs29, stkE w0.heap.size m33] := hS25.take _ hT63
      refine gx_k (.tuple #[.int .i32 x58, .bool b59, .bool b60]) w61 (gx_k (.int .i32 x58) w61 (gx_k (.bool b59) w61 (gx_k (.bool b60) w61 (gx_k (.int .i32 x58) w61 (gx_k (.bool b59) w61 (gx_k (.bool b60) w61 ?_))))))
      refine gx_nil ?_
      refine gx_thenN ?_
      refine hK55 _ _ ?_
      refine gx_block ?_
      refine gx_seq (fun K64 hK65 => ?_)
      refine gx_region ?_
      refine gx_k (.bool b60) w61 ?_
      cases b60 with
      | true =>
       try dsimp only at hL35
       refine gx_k (.bool false) w61 (gx_k (.bool false) w61 ?_)
       refine gx_nil ?_
       refine gx_thenN ?_
       refine hK65 _ _ ?_
       refine gx_no (by kernel_rfl) ?_
       refine gx_seq (fun K66 hK67 => ?_)
       refine gx_region ?_
       refine gx_k (.bool b59) w61 (gx_k (.bool b59) w61 ?_)
       refine gx_nil ?_
       refine gx_thenN ?_
       refine hK67 _ _ ?_
       cases b59 with
       | true =>
        try dsimp only at hL35
        refine gx_yes (by kernel_rfl) ?_
        refine gx_seq (fun K68 hK69 => ?_)
        refine gx_region ?_
        refine gx_k (.int .i64 x32) w61 (gx_k (.int .i32 x58) w61 ?_)
        have hP70 : St _ _ w61 ([stkE w0.heap.size m33] ++ [poolE ([]) w0, rowG 30 2 (.slice A27 l31.length c28) l31.length vs29]) := hS62.pick [2, 0, 1] rfl rfl
        obtain ⟨⟨m75, b76⟩, hc71, hL35⟩ := bind_in hL35
        try dsimp only at hL35
        refine gx_c (kPut_R w0.heap.size (m75, b76) w61) (kPut_ok w0.heap.size m33 x32 x58 _ hc71 w61 hP70.part) ?_
        rintro _ w72 ⟨rfl, hT74⟩
        have hS73 : St _ _ w72 [poolE ([]) w0, rowG 30 2 (.slice A27 l31.length c28) l31.length vs29, stkE w0.heap.size m75] := hP70.lendN _ hT74
        cases b76 with
        | true =>
         try dsimp only at hL35
         refine gx_k (.bool false) w72 ?_
         refine gx_nil ?_
         refine gx_thenN ?_
         refine hK69 _ _ ?_
         refine gx_no (by kernel_rfl) ?_
         refine gx_pass ?_
         refine gx_blkN ?_
         refine gx_blkN ?_
         refine gx_thenN ?_
         refine hK42 _ _ ?_
         refine gx_region ?_
         refine gx_k (.int .i64 (IntKind.i64.wrap (x32 + 1))) w72 (gx_k (.int .i64 (IntKind.i64.wrap (x32 + 1))) w72 ?_)
         refine gx_nil ?_
         refine gx_thenN ?_
         exact ⟨k34, Nat.lt_succ_self k34, l31, (IntKind.i64.wrap (x32 + 1)), m75, A27, c28, vs29, selfA_i (by kernel_rfl), hL35, hS73, hf30⟩
        | false =>
         try dsimp only at hL35
         refine gx_k (.bool true) w72 ?_
         refine gx_nil ?_
         refine gx_thenN ?_
         refine hK69 _ _ ?_
         refine gx_yes (by kernel_rfl) ?_
         refine gx_seq (fun K77 hK78 => ?_)
         refine gx_region ?_
         refine gx_k (.slice A27 l31.length c28) w72 (gx_k (.slice A27 l31.length c28) w72 ?_)
         refine gx_nil ?_
         refine gx_thenN ?_
         refine hK78 _ _ ?_
         refine gx_ret ?_
         refine gx_blkR ?_
         refine gx_blkR ?_
         refine gx_thenR ?_
         refine gx_thenR ?_
         refine gx_blkR ?_
         refine gx_thenR ?_
         obtain rfl := Option.some.inj hL35
         try dsimp only at hO19
         have hS79 : St _ _ w72 [poolE ([]) w72, rowG 30 2 (.slice A27 l31.length c28) l31.length vs29, stkE w0.heap.size m75] := hS73.renew 0 rfl
         obtain rfl := Option.some.inj hO19
         exact gx_fin (.slice A27 l31.length c28) (by kernel_rfl) (by kernel_rfl) ⟨_, rfl, A27, c28, vs29, ([]), rfl, (hS79.pick [1, 0] rfl rfl), (hS73.now 0 rfl hf30)⟩
       | false =>
        try dsimp only at hL35
        refine gx_no (by kernel_rfl) ?_
        refine gx_seq (fun K80 hK81 => ?_)
        refine gx_region ?_
        refine gx_k (.int .i32 x58) w61 ?_
        have hP82 : St _ _ w61 ([stkE w0.heap.size m33] ++ [poolE ([]) w0, rowG 30 2 (.slice A27 l31.length c28) l31.length vs29]) := hS62.pick [2, 0, 1] rfl rfl
        obtain ⟨⟨m87, x88, b89⟩, hc83, hL35⟩ := bind_in hL35
        try dsimp only at hL35
        refine gx_c (kTake_R w0.heap.size (m87, x88, b89) w61) (kTake_ok w0.heap.size m33 x58 _ hc83 w61 hP82.part) ?_
        rintro _ w84 ⟨rfl, hT86⟩
        have hS85 : St _ _ w84 [poolE ([]) w0, rowG 30 2 (.slice A27 l31.length c28) l31.length vs29, stkE w0.heap.size m87] := hP82.lendN _ hT86
        refine gx_k (.tuple #[.int .i64 x88, .bool b89]) w84 (gx_k (.int .i64 x88) w84 (gx_k (.bool b89) w84 (gx_k (.int .i64 x88) w84 (gx_k (.bool b89) w84 ?_))))
        refine gx_nil ?_
        refine gx_thenN ?_
        refine hK81 _ _ ?_
        refine gx_seq (fun K90 hK91 => ?_)
        refine gx_region ?_
        refine gx_k (.bool b89) w84 ?_
        refine gx_nil ?_
        refine gx_thenN ?_
        refine hK91 _ _ ?_
        cases b89 with
        | true =>
         try dsimp only at hL35
         refine gx_yes (by kernel_rfl) ?_
         refine gx_region ?_
         refine gx_k (.slice A27 l31.length c28) w84 (gx_k (.int .i64 x88) w84 (gx_k (.int .i64 x32) w84 (gx_k (.agg #[.int .i64 x88, .int .i64 x32]) w84 ?_)))
         have hf92 : (fEach (pairE (intE .i64) (intE .i64)) [.int .i64 x88, .int .i64 x32] [(x88, x32)]).rd w0 ([]) := (each_cons (rd_pair (rd_intg .i64 x88) (rd_intg .i64 x32)) each_nil)
         refine gx_r (st_madeP (e := (pairE (intE .i64) (intE .i64))) 30 1 [.int .i64 x88, .int .i64 x32] [(x88, x32)] hS85 rfl hf92 (by decide) (by kernel_rfl)) ?_
         rintro _ w93 ⟨rfl, hS94⟩
         have hS94 : St _ _ w93 [poolE ([]) w0, rowG 30 2 (.slice A27 l31.length c28) l31.length vs29, stkE w0.heap.size m87, rowG 30 2 (.slice (some ⟨w84.heap.size, 0, none⟩) 1 1) 1 ([.int .i64 x88, .int .i64 x32])] := hS94
         obtain ⟨l95, ha96, hL35⟩ := bind_in hL35
         refine gx_r (st_appendP (e := (pairE (intE .i64) (intE .i64))) rfl (by kernel_rfl) (by kernel_rfl) hS94 1 rfl rfl (show 1 = ([(x88, x32)] : List (Int × Int)).length from rfl) hf30 hf92 (rowG_lies (e := (pairE (intE .i64) (intE .i64))) (show 1 = ([(x88, x32)] : List (Int × Int)).length from rfl) (hS94.get 3 rfl)) (rowG_spec (e := (pairE (intE .i64) (intE .i64))) (show 1 = ([(x88, x32)] : List (Int × Int)).length from rfl) (hS94.get 3 rfl)).2.2.1 ha96 (by kernel_rfl) (by kernel_rfl) (by decide)) ?_
         rintro _ w101 ⟨A97, c98, vs99, rfl, hf100, hS102⟩
         have hS102 : St _ _ w101 [poolE ([]) w0, rowG 30 2 (.slice A97 l95.length c98) l95.length vs99, stkE w0.heap.size m87, rowG 30 2 (.slice (some ⟨w84.heap.size, 0, none⟩) 1 1) 1 ([.int .i64 x88, .int .i64 x32])] := hS102
         refine gx_k (.slice A97 l95.length c98) w101 ?_
         refine gx_nil ?_
         refine gx_blkN ?_
         refine gx_blkN ?_
         refine gx_thenN ?_
         refine hK42 _ _ ?_
         refine gx_region ?_
         refine gx_k (.int .i64 (IntKind.i64.wrap (x32 + 1))) w101 (gx_k (.int .i64 (IntKind.i64.wrap (x32 + 1))) w101 ?_)
         refine gx_nil ?_
         refine gx_thenN ?_
         exact ⟨k34, Nat.lt_succ_self k34, l95, (IntKind.i64.wrap (x32 + 1)), m87, A97, c98, vs99, selfA_i (by kernel_rfl), hL35, (hS102.pick [0, 1, 2] rfl rfl), hf100⟩
        | false =>
         try dsimp only at hL35
         refine gx_no (by kernel_rfl) ?_
         refine gx_pass ?_
         refine gx_blkN ?_
         refine gx_blkN ?_
         refine gx_thenN ?_
         refine hK42 _ _ ?_
         refine gx_region ?_
         refine gx_k (.int .i64 (IntKind.i64.wrap (x32 + 1))) w84 (gx_k (.int .i64 (IntKind.i64.wrap (x32 + 1))) w84 ?_)
         refine gx_nil ?_
         refine gx_thenN ?_
         exact ⟨k34, Nat.lt_succ_self k34, l31, (IntKind.i64.wrap (x32 + 1)), m87, A27, c28, vs29, selfA_i (by kernel_rfl), hL35, hS85, hf30⟩
      | false =>
       try dsimp only at hL35
       refine gx_k (.bool true) w61 (gx_k (.bool true) w61 ?_)
       refine gx_nil ?_
       refine gx_thenN ?_
       refine hK65 _ _ ?_
       refine gx_yes (by kernel_rfl) ?_
       refine gx_pass ?_
       refine gx_blkN ?_
       refine gx_blkN ?_
       refine gx_thenN ?_
       refine hK42 _ _ ?_
       refine gx_region ?_
       refine gx_k (.int .i64 (IntKind.i64.wrap (x32 + 1))) w61 (gx_k (.int .i64 (IntKind.i64.wrap (x32 + 1))) w61 ?_)
       refine gx_nil ?_
       refine gx_thenN ?_
       exact ⟨k34, Nat.lt_succ_self k34, l31, (IntKind.i64.wrap (x32 + 1)), m33, A27, c28, vs29, selfA_i (by kernel_rfl), hL35, hS62, hf30⟩
    ·refine gx_v (.bool false) w24 (run_boolE (decide_eq_false h38) (by kernel_rfl)) ?_
     refine gx_nil ?_
     refine gx_thenN ?_
     refine hK37 _ _ ?_
     refine gx_seq (fun K103 hK104 => ?_)
     refine gx_no (by kernel_rfl) ?_
     refine gx_exit ?_
     refine gx_thenE ?_
     refine gx_thenE ?_
     refine gx_blkE ?_
     refine gx_thenN ?_
     exact ⟨l31, A27, c28, vs29, selfA_i (by kernel_rfl), (Option.some.inj hL35), (hS25.pick [0, 1] rfl rfl), hf30⟩
 ·rintro _ w9 ⟨l16, A12, c13, vs14, hq109, rfl, hS10, hf15⟩
  obtain ⟨u11, rfl⟩ := selfA_u hq109
  try dsimp only at hO19
  refine gx_seq (fun K106 hK107 => ?_)
  refine gx_region ?_
  refine gx_k (.slice A12 l16.length c13) w9 (gx_k (.slice A12 l16.length c13) w9 ?_)
  refine gx_nil ?_
  refine gx_thenN ?_
  refine hK107 _ _ ?_
  refine gx_ret ?_
  have hS108 : St _ _ w9 [poolE ([]) w9, rowG 30 2 (.slice A12 l16.length c13) l16.length vs14] := hS10.renew 0 rfl
  obtain rfl := Option.some.inj hO19
  exact gx_fin (.slice A12 l16.length c13) (by kernel_rfl) (by kernel_rfl) ⟨_, rfl, A12, c13, vs14, ([]), rfl, (hS108.pick [1, 0] rfl rfl), (hS10.now 0 rfl hf15)⟩

end Go.Proofs.YtdfgecndbfmgnaaDoor
