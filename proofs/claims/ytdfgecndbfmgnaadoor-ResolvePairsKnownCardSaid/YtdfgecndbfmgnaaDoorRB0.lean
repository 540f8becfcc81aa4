/-
  The document's brackets and classes, walked.
-/
import Derived.Test.YtdfgecndbfmgnaaDoorGu
namespace Go.Proofs.YtdfgecndbfmgnaaDoor
open Go Go.RowKit
set_option linter.unusedVariables false

def enccalamusref02Range : Enc (Int × Int × Int) := (pairE (intE .i32) (pairE (intE .i32) (intE .u8)))

def rSide (_N : Nat) (p0 : Int) : Option (Int) :=
 (if p0 = 1 then some 1 else (if p0 = 2 then some 2 else (if p0 = 4 then some 2 else (if p0 = 7 then some 2 else some 0))))

set_option linter.unusedVariables false in
def rSide_R (r : Int) (w0 : World) (v : Value) (w : World) : Prop := v = .int .u8 r ∧ St [] w0 w []

set_option maxRecDepth 100000 in
set_option maxHeartbeats 4000000 in
theorem rSide_ok (N : Nat) (p0 : Int)  (r : Int) (hF : rSide N p0 = some r) (w0 : World)  :
  Calls Tryd.prog 55 #[.int .u8 p0] w0 fun e w => ∃ v, e = .returned v ∧ rSide_R r w0 v w := by
 have hS0 := St.start w0
 unfold rSide at hF
 refine calls_of Tryd.func55 rfl ⟨((.int .u8 p0) :: un 9 ([])).toArray, []⟩ (by kernel_rfl) ?_
 refine gx_seq (fun K1 hK2 => ?_)
 refine gx_region ?_
 refine gx_k (.int .u8 0) w0 ?_
 refine gx_nil ?_
 refine gx_thenN ?_
 refine hK2 _ _ ?_
 refine gx_seq (fun K3 hK4 => ?_)
 refine gx_seq (fun K5 hK6 => ?_)
 refine gx_region ?_
 refine gx_k (.int .u8 p0) w0 ?_
 refine gx_nil ?_
 refine gx_thenN ?_
 refine hK6 _ _ ?_
 refine gx_block ?_
 refine gx_seq (fun K7 hK8 => ?_)
 refine gx_region ?_
 rcases if_in hF with ⟨h9, hF⟩ | ⟨h9, hF⟩
 ·refine gx_v (.bool true) w0 (run_boolE (decide_eq_true h9) (by kernel_rfl)) ?_
  refine gx_k (.bool true) w0 ?_
  refine gx_nil ?_
  refine gx_thenN ?_
  refine hK8 _ _ ?_
  refine gx_yes (by kernel_rfl) ?_
  refine gx_seq (fun K10 hK11 => ?_)
  refine gx_region ?_
  refine gx_k (.int .u8 1) w0 ?_
  refine gx_nil ?_
  refine gx_thenN ?_
  refine hK11 _ _ ?_
  refine gx_ret ?_
  refine gx_blkR ?_
  refine gx_thenR ?_
  obtain rfl := Option.some.inj hF
  exact gx_fin (.int .u8 1) (by kernel_rfl) (by kernel_rfl) ⟨_, rfl, rfl, hS0⟩
 ·refine gx_v (.bool false) w0 (run_boolE (decide_eq_false h9) (by kernel_rfl)) ?_
  refine gx_k (.bool false) w0 ?_
  refine gx_nil ?_
  refine gx_thenN ?_
  refine hK8 _ _ ?_
  refine gx_no (by kernel_rfl) ?_
  refine gx_seq (fun K12 hK13 => ?_)
  refine gx_seq (fun K14 hK15 => ?_)
  refine gx_region ?_
  rcases if_in hF with ⟨h16, hF⟩ | ⟨h16, hF⟩
  ·refine gx_v (.bool true) w0 (run_boolE (decide_eq_true h16) (by kernel_rfl)) ?_
   refine gx_k (.bool true) w0 ?_
   refine gx_nil ?_
   refine gx_thenN ?_
   refine hK15 _ _ ?_
   refine gx_yes (by kernel_rfl) ?_
   refine gx_pass ?_
   refine gx_thenN ?_
   refine hK13 _ _ ?_
   refine gx_yes (by kernel_rfl) ?_
   refine gx_seq (fun K17 hK18 => ?_)
   refine gx_region ?_
   refine gx_k (.int .u8 2) w0 ?_
   refine gx_nil ?_
   refine gx_thenN ?_
   refine hK18 _ _ ?_
   refine gx_ret ?_
   refine gx_blkR ?_
   refine gx_thenR ?_
   obtain rfl := Option.some.inj hF
   exact gx_fin (.int .u8 2) (by kernel_rfl) (by kernel_rfl) ⟨_, rfl, rfl, hS0⟩
  ·refine gx_v (.bool false) w0 (run_boolE (decide_eq_false h16) (by kernel_rfl)) ?_
   refine gx_k (.bool false) w0 ?_
   refine gx_nil ?_
   refine gx_thenN ?_
   refine hK15 _ _ ?_
   refine gx_no (by kernel_rfl) ?_
   refine gx_seq (fun K19 hK20 => ?_)
   refine gx_region ?_
   rcases if_in hF with ⟨h21, hF⟩ | ⟨h21, hF⟩
   ·refine gx_v (.bool true) w0 (run_boolE (decide_eq_true h21) (by kernel_rfl)) ?_
    refine gx_k (.bool true) w0 ?_
    refine gx_nil ?_
    refine gx_thenN ?_
    refine hK20 _ _ ?_
    refine gx_yes (by kernel_rfl) ?_
    refine gx_pass ?_
    refine gx_thenN ?_
    refine hK13 _ _ ?_
    refine gx_yes (by kernel_rfl) ?_
    refine gx_seq (fun K22 hK23 => ?_)
    refine gx_region ?_
    refine gx_k (.int .u8 2) w0 ?_
    refine gx_nil ?_
    refine gx_thenN ?_
    refine hK23 _ _ ?_
    refine gx_ret ?_
    refine gx_blkR ?_
    refine gx_thenR ?_
    obtain rfl := Option.some.inj hF
    exact gx_fin (.int .u8 2) (by kernel_rfl) (by kernel_rfl) ⟨_, rfl, rfl, hS0⟩
   ·refine gx_v (.bool false) w0 (run_boolE (decide_eq_false h21) (by kernel_rfl)) ?_
    refine gx_k (.bool false) w0 ?_
    refine gx_nil ?_
    refine gx_thenN ?_
    refine hK20 _ _ ?_
    refine gx_no (by kernel_rfl) ?_
    refine gx_region ?_
    rcases if_in hF with ⟨h24, hF⟩ | ⟨h24, hF⟩
    ·refine gx_v (.bool true) w0 (run_boolE (decide_eq_true h24) (by kernel_rfl)) ?_
     refine gx_k (.bool true) w0 ?_
     refine gx_nil ?_
     refine gx_thenN ?_
     refine hK13 _ _ ?_
     refine gx_yes (by kernel_rfl) ?_
     refine gx_seq (fun K25 hK26 => ?_)
     refine gx_region ?_
     refine gx_k (.int .u8 2) w0 ?_
     refine gx_nil ?_
     refine gx_thenN ?_
     refine hK26 _ _ ?_
     refine gx_ret ?_
     refine gx_blkR ?_
     refine gx_thenR ?_
     obtain rfl := Option.some.inj hF
     exact gx_fin (.int .u8 2) (by kernel_rfl) (by kernel_rfl) ⟨_, rfl, rfl, hS0⟩
    ·refine gx_v (.bool false) w0 (run_boolE (decide_eq_false h24) (by kernel_rfl)) ?_
     refine gx_k (.bool false) w0 ?_
     refine gx_nil ?_
     refine gx_thenN ?_
     refine hK13 _ _ ?_
     refine gx_no (by kernel_rfl) ?_
     refine gx_pass ?_
     refine gx_blkN ?_
     refine gx_thenN ?_
     refine hK4 _ _ ?_
     refine gx_seq (fun K27 hK28 => ?_)
     refine gx_region ?_
     refine gx_k (.int .u8 0) w0 ?_
     refine gx_nil ?_
     refine gx_thenN ?_
     refine hK28 _ _ ?_
     refine gx_ret ?_
     obtain rfl := Option.some.inj hF
     exact gx_fin (.int .u8 0) (by kernel_rfl) (by kernel_rfl) ⟨_, rfl, rfl, hS0⟩

def rTwos (_N : Nat) : Option (List (Int × Int)) :=
 some ([(40, 41), (91, 93), (123, 125), (8261, 8262), (8317, 8318), (8333, 8334), (8968, 8969), (8970, 8971), (9001, 9002), (10214, 10215), (10216, 10217), (10218, 10219), (10220, 10221), (10222, 10223), (12296, 12297), (12298, 12299), (12300, 12301), (12302, 12303), (12304, 12305), (12308, 12309), (12310, 12311), (12312, 12313), (12314, 12315)] : List (Int × Int))

set_option linter.unusedVariables false in
def rTwos_R (r : List (Int × Int)) (w0 : World) (v : Value) (w : World) : Prop := ∃ (A0' : Option Addr) (c0' : Nat) (vs0' : List Value) (ft' : List Nat), v = .slice A0' r.length c0' ∧ St [] w0 w [rowG 73 2 (.slice A0' r.length c0') r.length vs0', poolE ft' w] ∧ (fEach (pairE (intE .i32) (intE .i32)) vs0' r).rd w ft'

set_option maxRecDepth 100000 in
set_option maxHeartbeats 4000000 in
theorem rTwos_ok (N : Nat)  (r : List (Int × Int)) (hF : rTwos N = some r) (w0 : World)  :
  Calls Tryd.prog 31 #[] w0 fun e w => ∃ v, e = .returned v ∧ rTwos_R r w0 v w := by
 have hS0 := (St.start w0).pool0
 unfold rTwos at hF
 refine calls_of Tryd.func31 rfl ⟨(un 25 ([])).toArray, []⟩ (by kernel_rfl) ?_
 refine gx_seq (fun K1 hK2 => ?_)
 refine gx_region ?_
 refine gx_k (.slice none 0 0) w0 ?_
 refine gx_nil ?_
 refine gx_thenN ?_
 refine hK2 _ _ ?_
 refine gx_seq (fun K3 hK4 => ?_)
 refine gx_region ?_
 refine gx_k (.agg #[.int .i32 40, .int .i32 41]) w0 (gx_k (.agg #[.int .i32 91, .int .i32 93]) w0 (gx_k (.agg #[.int .i32 123, .int .i32 125]) w0 (gx_k (.agg #[.int .i32 8261, .int .i32 8262]) w0 (gx_k (.agg #[.int .i32 8317, .int .i32 8318]) w0 (gx_k (.agg #[.int .i32 8333, .int .i32 8334]) w0 (gx_k (.agg #[.int .i32 8968, .int .i32 8969]) w0 (gx_k (.agg #[.int .i32 8970, .int .i32 8971]) w0 ?_)))))))
 refine gx_k (.agg #[.int .i32 9001, .int .i32 9002]) w0 (gx_k (.agg #[.int .i32 10214, .int .i32 10215]) w0 (gx_k (.agg #[.int .i32 10216, .int .i32 10217]) w0 (gx_k (.agg #[.int .i32 10218, .int .i32 10219]) w0 (gx_k (.agg #[.int .i32 10220, .int .i32 10221]) w0 (gx_k (.agg #[.int .i32 10222, .int .i32 10223]) w0 (gx_k (.agg #[.int .i32 12296, .int .i32 12297]) w0 (gx_k (.agg #[.int .i32 12298, .int .i32 12299]) w0 ?_)))))))
 refine gx_k (.agg #[.int .i32 12300, .int .i32 12301]) w0 (gx_k (.agg #[.int .i32 12302, .int .i32 12303]) w0 (gx_k (.agg #[.int .i32 12304, .int .i32 12305]) w0 (gx_k (.agg #[.int .i32 12308, .int .i32 12309]) w0 (gx_k (.agg #[.int .i32 12310, .int .i32 12311]) w0 (gx_k (.agg #[.int .i32 12312, .int .i32 12313]) w0 (gx_k (.agg #[.int .i32 12314, .int .i32 12315]) w0 ?_))))))
 have hf5 : (fEach (pairE (intE .i32) (intE .i32)) [.int .i32 40, .int .i32 41, .int .i32 91, .int .i32 93, .int .i32 123, .int .i32 125, .int .i32 8261, .int .i32 8262, .int .i32 8317, .int .i32 8318, .int .i32 8333, .int .i32 8334, .int .i32 8968, .int .i32 8969, .int .i32 8970, .int .i32 8971, .int .i32 9001, .int .i32 9002, .int .i32 10214, .int .i32 10215, .int .i32 10216, .int .i32 10217, .int .i32 10218, .int .i32 10219, .int .i32 10220, .int .i32 10221, .int .i32 10222, .int .i32 10223, .int .i32 12296, .int .i32 12297, .int .i32 12298, .int .i32 12299, .int .i32 12300, .int .i32 12301, .int .i32 12302, .int .i32 12303, .int .i32 12304, .int .i32 12305, .int .i32 12308, .int .i32 12309, .int .i32 12310, .int .i32 12311, .int .i32 12312, .int .i32 12313, .int .i32 12314, .int .i32 12315] [(40, 41), (91, 93), (123, 125), (8261, 8262), (8317, 8318), (8333, 8334), (8968, 8969), (8970, 8971), (9001, 9002), (10214, 10215), (10216, 10217), (10218, 10219), (10220, 10221), (10222, 10223), (12296, 12297), (12298, 12299), (12300, 12301), (12302, 12303), (12304, 12305), (12308, 12309), (12310, 12311), (12312, 12313), (12314, 12315)]).rd w0 ([]) := (each_cons (rd_pair (rd_intg .i32 (40 : Int)) (rd_intg .i32 (41 : Int))) (each_cons (rd_pair (rd_intg .i32 (91 : Int)) (rd_intg .i32 (93 : Int))) (each_cons (rd_pair (rd_intg .i32 (123 : Int)) (rd_intg .i32 (125 : Int))) (each_cons (rd_pair (rd_intg .i32 (8261 : Int)) (rd_intg .i32 (8262 : Int))) (each_cons (rd_pair (rd_intg .i32 (8317 : Int)) (rd_intg .i32 (8318 : Int))) (each_cons (rd_pair (rd_intg .i32 (8333 : Int)) (rd_intg .i32 (8334 : Int))) (each_cons (rd_pair (rd_intg .i32 (8968 : Int)) (rd_intg .i32 (8969 : Int))) (each_cons (rd_pair (rd_intg .i32 (8970 : Int)) (rd_intg .i32 (8971 : Int))) (each_cons (rd_pair (rd_intg .i32 (9001 : Int)) (rd_intg .i32 (9002 : Int))) (each_cons (rd_pair (rd_intg .i32 (10214 : Int)) (rd_intg .i32 (10215 : Int))) (each_cons (rd_pair (rd_intg .i32 (10216 : Int)) (rd_intg .i32 (10217 : Int))) (each_cons (rd_pair (rd_intg .i32 (10218 : Int)) (rd_intg .i32 (10219 : Int))) (each_cons (rd_pair (rd_intg .i32 (10220 : Int)) (rd_intg .i32 (10221 : Int))) (each_cons (rd_pair (rd_intg .i32 (10222 : Int)) (rd_intg .i32 (10223 : Int))) (each_cons (rd_pair (rd_intg .i32 (12296 : Int)) (rd_intg .i32 (12297 : Int))) (each_cons (rd_pair (rd_intg .i32 (12298 : Int)) (rd_intg .i32 (12299 : Int))) (each_cons (rd_pair (rd_intg .i32 (12300 : Int)) (rd_intg .i32 (12301 : Int))) (each_cons (rd_pair (rd_intg .i32 (12302 : Int)) (rd_intg .i32 (12303 : Int))) (each_cons (rd_pair (rd_intg .i32 (12304 : Int)) (rd_intg .i32 (12305 : Int))) (each_cons (rd_pair (rd_intg .i32 (12308 : Int)) (rd_intg .i32 (12309 : Int))) (each_cons (rd_pair (rd_intg .i32 (12310 : Int)) (rd_intg .i32 (12311 : Int))) (each_cons (rd_pair (rd_intg .i32 (12312 : Int)) (rd_intg .i32 (12313 : Int))) (each_cons (rd_pair (rd_intg .i32 (12314 : Int)) (rd_intg .i32 (12315 : Int))) each_nil)))))))))))))))))))))))
 refine gx_r (st_madeP (e := (pairE (intE .i32) (intE .i32))) 73 23 [.int .i32 40, .int .i32 41, .int .i32 91, .int .i32 93, .int .i32 123, .int .i32 125, .int .i32 8261, .int .i32 8262, .int .i32 8317, .int .i32 8318, .int .i32 8333, .int .i32 8334, .int .i32 8968, .int .i32 8969, .int .i32 8970, .int .i32 8971, .int .i32 9001, .int .i32 9002, .int .i32 10214, .int .i32 10215, .int .i32 10216, .int .i32 10217, .int .i32 10218, .int .i32 10219, .int .i32 10220, .int .i32 10221, .int .i32 10222, .int .i32 10223, .int .i32 12296, .int .i32 12297, .int .i32 12298, .int .i32 12299, .int .i32 12300, .int .i32 12301, .int .i32 12302, .int .i32 12303, .int .i32 12304, .int .i32 12305, .int .i32 12308, .int .i32 12309, .int .i32 12310, .int .i32 12311, .int .i32 12312, .int .i32 12313, .int .i32 12314, .int .i32 12315] [(40, 41), (91, 93), (123, 125), (8261, 8262), (8317, 8318), (8333, 8334), (8968, 8969), (8970, 8971), (9001, 9002), (10214, 10215), (10216, 10217), (10218, 10219), (10220, 10221), (10222, 10223), (12296, 12297), (12298, 12299), (12300, 12301), (12302, 12303), (12304, 12305), (12308, 12309), (12310, 12311), (12312, 12313), (12314, 12315)] hS0 rfl hf5 (by decide) (by kernel_rfl)) ?_
 rintro _ w6 ⟨rfl, hS7⟩
 have hS7 : St _ _ w6 [poolE ([]) w0, rowG 73 2 (.slice (some ⟨w0.heap.size, 0, none⟩) 23 23) 23 ([.int .i32 40, .int .i32 41, .int .i32 91, .int .i32 93, .int .i32 123, .int .i32 125, .int .i32 8261, .int .i32 8262, .int .i32 8317, .int .i32 8318, .int .i32 8333, .int .i32 8334, .int .i32 8968, .int .i32 8969, .int .i32 8970, .int .i32 8971, .int .i32 9001, .int .i32 9002, .int .i32 10214, .int .i32 10215, .int .i32 10216, .int .i32 10217, .int .i32 10218, .int .i32 10219, .int .i32 10220, .int .i32 10221, .int .i32 10222, .int .i32 10223, .int .i32 12296, .int .i32 12297, .int .i32 12298, .int .i32 12299, .int .i32 12300, .int .i32 12301, .int .i32 12302, .int .i32 12303, .int .i32 12304, .int .i32 12305, .int .i32 12308, .int .i32 12309, .int .i32 12310, .int .i32 12311, .int .i32 12312, .int .i32 12313, .int .i32 12314, .int .i32 12315])] := hS7
 refine gx_k (.slice (some ⟨w0.heap.size, 0, none⟩) 23 23) w6 ?_
 refine gx_nil ?_
 refine gx_thenN ?_
 refine hK4 _ _ ?_
 refine gx_ret ?_
 have hS8 : St _ _ w6 [poolE ([]) w0, rowG 73 2 (.slice (some ⟨w0.heap.size, 0, none⟩) ((([(40, 41), (91, 93), (123, 125), (8261, 8262), (8317, 8318), (8333, 8334), (8968, 8969), (8970, 8971), (9001, 9002), (10214, 10215), (10216, 10217), (10218, 10219), (10220, 10221), (10222, 10223), (12296, 12297), (12298, 12299), (12300, 12301), (12302, 12303), (12304, 12305), (12308, 12309), (12310, 12311), (12312, 12313), (12314, 12315)] : List (Int × Int))).length) 23) ((([(40, 41), (91, 93), (123, 125), (8261, 8262), (8317, 8318), (8333, 8334), (8968, 8969), (8970, 8971), (9001, 9002), (10214, 10215), (10216, 10217), (10218, 10219), (10220, 10221), (10222, 10223), (12296, 12297), (12298, 12299), (12300, 12301), (12302, 12303), (12304, 12305), (12308, 12309), (12310, 12311), (12312, 12313), (12314, 12315)] : List (Int × Int))).length) ([.int .i32 40, .int .i32 41, .int .i32 91, .int .i32 93, .int .i32 123, .int .i32 125, .int .i32 8261, .int .i32 8262, .int .i32 8317, .int .i32 8318, .int .i32 8333, .int .i32 8334, .int .i32 8968, .int .i32 8969, .int .i32 8970, .int .i32 8971, .int .i32 9001, .int .i32 9002, .int .i32 10214, .int .i32 10215, .int .i32 10216, .int .i32 10217, .int .i32 10218, .int .i32 10219, .int .i32 10220, .int .i32 10221, .int .i32 10222, .int .i32 10223, .int .i32 12296, .int .i32 12297, .int .i32 12298, .int .i32 12299, .int .i32 12300, .int .i32 12301, .int .i32 12302, .int .i32 12303, .int .i32 12304, .int .i32 12305, .int .i32 12308, .int .i32 12309, .int .i32 12310, .int .i32 12311, .int .i32 12312, .int .i32 12313, .int .i32 12314, .int .i32 12315])] := hS7.len (e := (pairE (intE .i32) (intE .i32))) 1 rfl (show 23 = ([(40, 41), (91, 93), (123, 125), (8261, 8262), (8317, 8318), (8333, 8334), (8968, 8969), (8970, 8971), (9001, 9002), (10214, 10215), (10216, 10217), (10218, 10219), (10220, 10221), (10222, 10223), (12296, 12297), (12298, 12299), (12300, 12301), (12302, 12303), (12304, 12305), (12308, 12309), (12310, 12311), (12312, 12313), (12314, 12315)] : List (Int × Int)).length from rfl)
 have hS9 : St _ _ w6 [poolE ([]) w6, rowG 73 2 (.slice (some ⟨w0.heap.size, 0, none⟩) ((([(40, 41), (91, 93), (123, 125), (8261, 8262), (8317, 8318), (8333, 8334), (8968, 8969), (8970, 8971), (9001, 9002), (10214, 10215), (10216, 10217), (10218, 10219), (10220, 10221), (10222, 10223), (12296, 12297), (12298, 12299), (12300, 12301), (12302, 12303), (12304, 12305), (12308, 12309), (12310, 12311), (12312, 12313), (12314, 12315)] : List (Int × Int))).length) 23) ((([(40, 41), (91, 93), (123, 125), (8261, 8262), (8317, 8318), (8333, 8334), (8968, 8969), (8970, 8971), (9001, 9002), (10214, 10215), (10216, 10217), (10218, 10219), (10220, 10221), (10222, 10223), (12296, 12297), (12298, 12299), (12300, 12301), (12302, 12303), (12304, 12305), (12308, 12309), (12310, 12311), (12312, 12313), (12314, 12315)] : List (Int × Int))).length) ([.int .i32 40, .int .i32 41, .int .i32 91, .int .i32 93, .int .i32 123, .int .i32 125, .int .i32 8261, .int .i32 8262, .int .i32 8317, .int .i32 8318, .int .i32 8333, .int .i32 8334, .int .i32 8968, .int .i32 8969, .int .i32 8970, .int .i32 8971, .int .i32 9001, .int .i32 9002, .int .i32 10214, .int .i32 10215, .int .i32 10216, .int .i32 10217, .int .i32 10218, .int .i32 10219, .int .i32 10220, .int .i32 10221, .int .i32 10222, .int .i32 10223, .int .i32 12296, .int .i32 12297, .int .i32 12298, .int .i32 12299, .int .i32 12300, .int .i32 12301, .int .i32 12302, .int .i32 12303, .int .i32 12304, .int .i32 12305, .int .i32 12308, .int .i32 12309, .int .i32 12310, .int .i32 12311, .int .i32 12312, .int .i32 12313, .int .i32 12314, .int .i32 12315])] := hS8.renew 0 rfl
 obtain rfl := Option.some.inj hF
 exact gx_fin (.slice (some ⟨w0.heap.size, 0, none⟩) 23 23) (by kernel_rfl) (by kernel_rfl) ⟨_, rfl, (some ⟨w0.heap.size, 0, none⟩), 23, ([.int .i32 40, .int .i32 41, .int .i32 91, .int .i32 93, .int .i32 123, .int .i32 125, .int .i32 8261, .int .i32 8262, .int .i32 8317, .int .i32 8318, .int .i32 8333, .int .i32 8334, .int .i32 8968, .int .i32 8969, .int .i32 8970, .int .i32 8971, .int .i32 9001, .int .i32 9002, .int .i32 10214, .int .i32 10215, .int .i32 10216, .int .i32 10217, .int .i32 10218, .int .i32 10219, .int .i32 10220, .int .i32 10221, .int .i32 10222, .int .i32 10223, .int .i32 12296, .int .i32 12297, .int .i32 12298, .int .i32 12299, .int .i32 12300, .int .i32 12301, .int .i32 12302, .int .i32 12303, .int .i32 12304, .int .i32 12305, .int .i32 12308, .int .i32 12309, .int .i32 12310, .int .i32 12311, .int .i32 12312, .int .i32 12313, .int .i32 12314, .int .i32 12315]), ([]), by kernel_rfl, (hS9.pick [1, 0] rfl rfl), (hS8.now 0 rfl hf5)⟩

def rBr_L1 (N : Nat) (p0 : Int) (l7 : List (Int × Int)) : Nat → Int → Option (Ctl (Unit) (Int × Bool × Bool))
 | 0, _ => none
 | k36+1, x35 => (if x35 < ((l7.length : Nat) : Int) then ((ixg l7 x35).bind fun x49 => (if p0 ≠ x49.1 then ((ixg l7 x35).bind fun x63 => (if p0 ≠ x63.2 then rBr_L1 N p0 l7 k36 (IntKind.i64.wrap (x35 + 1)) else ((ixg l7 x35).bind fun x81 => (if x81.2 = 9002 then ((ixg l7 x35).bind fun x99 => some (Ctl.ret (12297, (decide (p0 = x99.1)), true))) else ((ixg l7 x35).bind fun x116 => ((ixg l7 x35).bind fun x129 => some (Ctl.ret (x116.2, (decide (p0 = x129.1)), true)))))))) else ((ixg l7 x35).bind fun x146 => (if x146.2 = 9002 then ((ixg l7 x35).bind fun x164 => some (Ctl.ret (12297, (decide (p0 = x164.1)), true))) else ((ixg l7 x35).bind fun x181 => ((ixg l7 x35).bind fun x194 => some (Ctl.ret (x181.2, (decide (p0 = x194.1)), true)))))))) else some (Ctl.go ()))
def rBr (N : Nat) (p0 : Int) : Option (Int × Bool × Bool) :=
 ((rTwos N ).bind fun l7 => ((rBr_L1 N p0 l7 N 0 : Option (Ctl (Unit) (Int × Bool × Bool))).bind fun | Ctl.go () => some (0, false, false) | Ctl.ret r => some r))

set_option linter.unusedVariables false in
def rBr_R (r : Int × Bool × Bool) (w0 : World) (v : Value) (w : World) : Prop := v = .tuple #[.int .i32 r.1, .bool r.2.1, .bool r.2.2] ∧ St [] w0 w []

set_option maxRecDepth 100000 in
set_option maxHeartbeats 4000000 in
theorem rBr_ok (N : Nat) (p0 : Int)  (r : Int × Bool × Bool) (hF : rBr N p0 = some r) (w0 : World)  :
  Calls Tryd.prog 16 #[.int .i32 p0] w0 fun e w => ∃ v, e = .returned v ∧ rBr_R r w0 v w := by
 have hS0 := (St.start w0).pool0
 unfold rBr at hF
 refine calls_of Tryd.func16 rfl ⟨((.int .i32 p0) :: un 54 ([])).toArray, []⟩ (by kernel_rfl) ?_
 refine gx_seq (fun K1 hK2 => ?_)
 refine gx_region ?_
 refine gx_k (.int .i32 0) w0 (gx_k (.bool false) w0 (gx_k (.bool false) w0 ?_))
 refine gx_nil ?_
 refine gx_thenN ?_
 refine hK2 _ _ ?_
 refine gx_seq (fun K3 hK4 => ?_)
 refine gx_region ?_
 have hP5 : St _ _ w0 ([] ++ [poolE ([]) w0]) := hS0
 obtain ⟨l7, hc6, hF⟩ := bind_in hF
 try dsimp only at hF
 refine gx_c (rTwos_R l7 w0) (rTwos_ok N  _ hc6 w0 ) ?_
 rintro _ w13 ⟨A8, c9, vs10, ft12, rfl, hT15, hf11⟩
 have hS14 : St _ _ w13 [poolE ([]) w0, rowG 73 2 (.slice A8 l7.length c9) l7.length vs10, poolE ft12 w13] := hS0.take _ hT15
 obtain ⟨ft16, W17, hS18, hT19, hU20⟩ := hS14.merge 2 0 rfl rfl (by decide)
 have hS18 : St _ _ w13 [poolE ft16 W17, rowG 73 2 (.slice A8 l7.length c9) l7.length vs10] := hS18
 have hT19 : Turn [] w0 w0 ([]) W17 ft16 := hT19
 have hf23 : (fEach (pairE (intE .i32) (intE .i32)) vs10 l7).rd W17 ft16 := hU20 _ hf11
 refine gx_k (.slice A8 l7.length c9) w13 ?_
 refine gx_nil ?_
 refine gx_thenN ?_
 refine hK4 _ _ ?_
 obtain ⟨c27, hE28, hO29⟩ := bind_in hF
 refine gx_cut (fun a w => selfA (fun u26 => ⟨((.int .i32 p0) :: undef :: dd u26 2 53 ([])).toArray, []⟩) a ∧ Ctl.go () = c27 ∧ St [] w0 w [poolE ft16 W17]) ?_ ?_
 ·refine gx_seq (fun K30 hK31 => ?_)
  refine gx_region ?_
  refine gx_k (.int .i64 0) w13 ?_
  refine gx_nil ?_
  refine gx_thenN ?_
  refine hK31 _ _ ?_
  refine gx_block ?_
  refine gx_loop (fun k a w => ∃ (x35 : Int), selfA (fun u34 => ⟨((.int .i32 p0) :: undef :: dd u34 2 3 ((.slice A8 l7.length c9) :: (.int .i64 x35) :: dd u34 7 48 ([]))).toArray, []⟩) a ∧ rBr_L1 N p0 l7 k x35 = some c27 ∧ St [] w0 w [poolE ft16 W17, rowG 73 2 (.slice A8 l7.length c9) l7.length vs10]) N ?_ ?_
  ·exact ⟨0, selfA_i (by kernel_rfl), hE28, hS18⟩
  ·rintro k36 _ w32 ⟨x35, hq207, hL37, hS33⟩
   obtain ⟨u34, rfl⟩ := selfA_u hq207
   cases k36 with
   | zero => cases hL37
   | succ k36 =>
    first | rw [rBr_L1] at hL37 | unfold rBr_L1 at hL37
    refine gx_seq (fun K38 hK39 => ?_)
    refine gx_seq (fun K40 hK41 => ?_)
    refine gx_region ?_
    refine gx_k (.int .i64 x35) w32 (gx_k (.slice A8 l7.length c9) w32 (gx_k (.int .i64 ((l7.length : Nat) : Int)) w32 ?_))
    rcases if_in hL37 with ⟨h42, hL37⟩ | ⟨h42, hL37⟩
    ·refine gx_v (.bool true) w32 (run_boolE (decide_eq_true h42) (by kernel_rfl)) ?_
     refine gx_nil ?_
     refine gx_thenN ?_
     refine hK41 _ _ ?_
     refine gx_yes (by kernel_rfl) ?_
     refine gx_pass ?_
     refine gx_thenN ?_
     refine hK39 _ _ ?_
     refine gx_seq (fun K43 hK44 => ?_)
     refine gx_block ?_
     refine gx_seq (fun K45 hK46 => ?_)
     refine gx_seq (fun K47 hK48 => ?_)
     refine gx_region ?_
     refine gx_k (.int .i32 p0) w32 (gx_k (.slice A8 l7.length c9) w32 (gx_k (.int .i64 x35) w32 ?_))
     obtain ⟨x49, hx50, hL37⟩ := bind_in hL37
     obtain ⟨g51, o52, e53, hA54, he55, h56, ha57⟩ := elem_at (e := (pairE (intE .i32) (intE .i32))) (rowG_lies (e := (pairE (intE .i32) (intE .i32))) rfl (hS33.get 1 rfl)) hf23 hx50 (by decide)
     obtain ⟨e58, e59, rfl, h60, h61⟩ := h56
     obtain rfl := h60
     obtain rfl := h61
     have ha57 : ∀ w', Lies w' A8 vs10 → w'.rangeAt g51 o52 [.int .i32 x49.1, .int .i32 x49.2] := ha57
     refine gx_v (.pointer (some ⟨g51, o52, none⟩)) w32 (run_ixaddrN (E := 73) (s := 2) (k := .i64) (c := c9) rfl (by kernel_rfl) (by kernel_rfl) (by kernel_rfl) (fun _ => by kernel_rfl) (ixg_in hx50).1 (ixg_in hx50).2.1 hA54) ?_
     refine gx_k (.pointer (some ⟨g51, o52, none⟩)) w32 ?_
     refine gx_v (.int .i32 x49.1) w32 (run_loadN1 0 rfl (by kernel_rfl) (fun _ => by kernel_rfl) (ha57 _ (rowG_lies (e := (pairE (intE .i32) (intE .i32))) rfl (hS33.get 1 rfl))) rfl) ?_
     rcases if_in hL37 with ⟨h62, hL37⟩ | ⟨h62, hL37⟩
     ·refine gx_v (.bool true) w32 (run_boolE (ne_yes h62) (by kernel_rfl)) ?_
      refine gx_k (.bool true) w32 (gx_k (.int .i32 p0) w32 (gx_k (.slice A8 l7.length c9) w32 (gx_k (.int .i64 x35) w32 ?_)))
      obtain ⟨x63, hx64, hL37⟩ := bind_in hL37
      obtain ⟨g65, o66, e67, hA68, he69, h70, ha71⟩ := elem_at (e := (pairE (intE .i32) (intE .i32))) (rowG_lies (e := (pairE (intE .i32) (intE .i32))) rfl (hS33.get 1 rfl)) hf23 hx64 (by decide)
      obtain ⟨e72, e73, rfl, h74, h75⟩ := h70
      obtain rfl := h74
      obtain rfl := h75
      have ha71 : ∀ w', Lies w' A8 vs10 → w'.rangeAt g65 o66 [.int .i32 x63.1, .int .i32 x63.2] := ha71
      refine gx_v (.pointer (some ⟨g65, o66, none⟩)) w32 (run_ixaddrN (E := 73) (s := 2) (k := .i64) (c := c9) rfl (by kernel_rfl) (by kernel_rfl) (by kernel_rfl) (fun _ => by kernel_rfl) (ixg_in hx64).1 (ixg_in hx64).2.1 hA68) ?_
      refine gx_k (.pointer (some ⟨g65, o66 + 1, none⟩)) w32 ?_
      refine gx_v (.int .i32 x63.2) w32 (run_loadN1 1 rfl (by kernel_rfl) (fun _ => by kernel_rfl) (ha71 _ (rowG_lies (e := (pairE (intE .i32) (intE .i32))) rfl (hS33.get 1 rfl))) rfl) ?_
      rcases if_in hL37 with ⟨h76, hL37⟩ | ⟨h76, hL37⟩
      ·refine gx_v (.bool true) w32 (run_boolE (ne_yes h76) (by kernel_rfl)) ?_
       refine gx_k (.bool true) w32 ?_
       refine gx_nil ?_
       refine gx_thenN ?_
       refine hK48 _ _ ?_
       refine gx_yes (by kernel_rfl) ?_
       refine gx_exit ?_
       refine gx_thenE ?_
       refine gx_blkE ?_
       refine gx_thenN ?_
       refine hK44 _ _ ?_
       refine gx_region ?_
       refine gx_k (.int .i64 x35) w32 (gx_k (.int .i64 (IntKind.i64.wrap (x35 + 1))) w32 (gx_k (.int .i64 (IntKind.i64.wrap (x35 + 1))) w32 ?_))
       refine gx_nil ?_
       refine gx_thenN ?_
       exact ⟨k36, Nat.lt_succ_self k36, (IntKind.i64.wrap (x35 + 1)), selfA_i (by kernel_rfl), hL37, hS33⟩
      ·refine gx_v (.bool false) w32 (run_boolE (ne_no h76) (by kernel_rfl)) ?_
       refine gx_k (.bool false) w32 ?_
       refine gx_nil ?_
       refine gx_thenN ?_
       refine hK48 _ _ ?_
       refine gx_no (by kernel_rfl) ?_
       refine gx_pass ?_
       refine gx_thenN ?_
       refine hK46 _ _ ?_
       refine gx_seq (fun K77 hK78 => ?_)
       refine gx_seq (fun K79 hK80 => ?_)
       refine gx_region ?_
       refine gx_k (.slice A8 l7.length c9) w32 (gx_k (.int .i64 x35) w32 ?_)
       obtain ⟨x81, hx82, hL37⟩ := bind_in hL37
       obtain ⟨g83, o84, e85, hA86, he87, h88, ha89⟩ := elem_at (e := (pairE (intE .i32) (intE .i32))) (rowG_lies (e := (pairE (intE .i32) (intE .i32))) rfl (hS33.get 1 rfl)) hf23 hx82 (by decide)
       obtain ⟨e90, e91, rfl, h92, h93⟩ := h88
       obtain rfl := h92
       obtain rfl := h93
       have ha89 : ∀ w', Lies w' A8 vs10 → w'.rangeAt g83 o84 [.int .i32 x81.1, .int .i32 x81.2] := ha89
       refine gx_v (.pointer (some ⟨g83, o84, none⟩)) w32 (run_ixaddrN (E := 73) (s := 2) (k := .i64) (c := c9) rfl (by kernel_rfl) (by kernel_rfl) (by kernel_rfl) (fun _ => by kernel_rfl) (ixg_in hx82).1 (ixg_in hx82).2.1 hA86) ?_
       refine gx_k (.pointer (some ⟨g83, o84 + 1, none⟩)) w32 ?_
       refine gx_v (.int .i32 x81.2) w32 (run_loadN1 1 rfl (by kernel_rfl) (fun _ => by kernel_rfl) (ha89 _ (rowG_lies (e := (pairE (intE .i32) (intE .i32))) rfl (hS33.get 1 rfl))) rfl) ?_
       rcases if_in hL37 with ⟨h94, hL37⟩ | ⟨h94, hL37⟩
       ·refine gx_v (.bool true) w32 (run_boolE (decide_eq_true h94) (by kernel_rfl)) ?_
        refine gx_nil ?_
        refine gx_thenN ?_
        refine hK80 _ _ ?_
        refine gx_yes (by kernel_rfl) ?_
        refine gx_seq (fun K95 hK96 => ?_)
        refine gd_start (fun w => St [] w0 w [poolE ft16 W17, rowG 73 2 (.slice A8 l7.length c9) l7.length vs10]) 10 #[false, false, false, false, false, false, false, false, false, false] (by kernel_rfl) (by kernel_rfl) ?_
        have hS98 := hS33.drew
        generalize w32.drew = w97 at hS98 ⊢
        refine gv1 0 36 (.int .i32 p0) rfl hS98 ?_
        refine gv1 1 37 (.slice A8 l7.length c9) rfl hS98 ?_
        refine gv1 2 38 (.int .i64 x35) rfl hS98 ?_
        obtain ⟨x99, hx100, hL37⟩ := bind_in hL37
        obtain ⟨g101, o102, e103, hA104, he105, h106, ha107⟩ := elem_at (e := (pairE (intE .i32) (intE .i32))) (rowG_lies (e := (pairE (intE .i32) (intE .i32))) rfl (hS98.get 1 rfl)) hf23 hx100 (by decide)
        obtain ⟨e108, e109, rfl, h110, h111⟩ := h106
        obtain rfl := h110
        obtain rfl := h111
        have ha107 : ∀ w', Lies w' A8 vs10 → w'.rangeAt g101 o102 [.int .i32 x99.1, .int .i32 x99.2] := ha107
        refine gu1 3 39 (.pointer (some ⟨g101, o102, none⟩)) rfl hS98 (fun w hSw => run_ixaddrN (E := 73) (s := 2) (k := .i64) (c := c9) rfl (by kernel_rfl) (by kernel_rfl) (by kernel_rfl) (fun _ => by kernel_rfl) (ixg_in hx100).1 (ixg_in hx100).2.1 hA104) ?_
        refine gv1 4 40 (.pointer (some ⟨g101, o102, none⟩)) rfl hS98 ?_
        refine gu1 5 41 (.int .i32 x99.1) rfl hS98 (fun w hSw => run_loadN1 0 rfl (by kernel_rfl) (fun _ => by kernel_rfl) (ha107 _ (rowG_lies (e := (pairE (intE .i32) (intE .i32))) rfl (hSw.get 1 rfl))) rfl) ?_
        refine gv1 6 42 (.bool (decide (p0 = x99.1))) rfl hS98 ?_
        refine gv1 7 2 (.int .i32 12297) rfl hS98 ?_
        refine gv1 8 3 (.bool (decide (p0 = x99.1))) rfl hS98 ?_
        refine gv1 9 4 (.bool true) rfl hS98 ?_
        refine gd_done (by kernel_rfl) ?_
        refine gx_thenN ?_
        refine hK96 _ _ ?_
        refine gx_ret ?_
        refine gx_thenR ?_
        refine gx_blkR ?_
        refine gx_thenR ?_
        refine gx_thenR ?_
        refine gx_blkR ?_
        refine gx_thenR ?_
        obtain rfl := Option.some.inj hL37
        try dsimp only at hO29
        obtain rfl := Option.some.inj hO29
        exact gx_fin (.tuple #[.int .i32 12297, .bool (decide (p0 = x99.1)), .bool true]) (by kernel_rfl) (by kernel_rfl) ⟨_, rfl, rfl, (hS98.pick [] rfl rfl)⟩
       ·refine gx_v (.bool false) w32 (run_boolE (decide_eq_false h94) (by kernel_rfl)) ?_
        refine gx_nil ?_
        refine gx_thenN ?_
        refine hK80 _ _ ?_
        refine gx_no (by kernel_rfl) ?_
        refine gx_pass ?_
        refine gx_thenN ?_
        refine hK78 _ _ ?_
        refine gx_seq (fun K112 hK113 => ?_)
        refine gd_start (fun w => St [] w0 w [poolE ft16 W17, rowG 73 2 (.slice A8 l7.length c9) l7.length vs10]) 15 #[false, false, false, false, false, false, false, false, false, false, false, false, false, false, false] (by kernel_rfl) (by kernel_rfl) ?_
        have hS115 := hS33.drew
        generalize w32.drew = w114 at hS115 ⊢
        refine gv1 0 43 (.slice A8 l7.length c9) rfl hS115 ?_
        refine gv1 1 44 (.int .i64 x35) rfl hS115 ?_
        obtain ⟨x116, hx117, hL37⟩ := bind_in hL37
        obtain ⟨g118, o119, e120, hA121, he122, h123, ha124⟩ := elem_at (e := (pairE (intE .i32) (intE .i32))) (rowG_lies (e := (pairE (intE .i32) (intE .i32))) rfl (hS115.get 1 rfl)) hf23 hx117 (by decide)
        obtain ⟨e125, e126, rfl, h127, h128⟩ := h123
        obtain rfl := h127
        obtain rfl := h128
        have ha124 : ∀ w', Lies w' A8 vs10 → w'.rangeAt g118 o119 [.int .i32 x116.1, .int .i32 x116.2] := ha124
        refine gu1 2 45 (.pointer (some ⟨g118, o119, none⟩)) rfl hS115 (fun w hSw => run_ixaddrN (E := 73) (s := 2) (k := .i64) (c := c9) rfl (by kernel_rfl) (by kernel_rfl) (by kernel_rfl) (fun _ => by kernel_rfl) (ixg_in hx117).1 (ixg_in hx117).2.1 hA121) ?_
        refine gv1 3 46 (.pointer (some ⟨g118, o119 + 1, none⟩)) rfl hS115 ?_
        refine gu1 4 47 (.int .i32 x116.2) rfl hS115 (fun w hSw => run_loadN1 1 rfl (by kernel_rfl) (fun _ => by kernel_rfl) (ha124 _ (rowG_lies (e := (pairE (intE .i32) (intE .i32))) rfl (hSw.get 1 rfl))) rfl) ?_
        refine gv1 5 48 (.int .i32 p0) rfl hS115 ?_
        refine gv1 6 49 (.slice A8 l7.length c9) rfl hS115 ?_
        refine gv1 7 50 (.int .i64 x35) rfl hS115 ?_
        obtain ⟨x129, hx130, hL37⟩ := bind_in hL37
        obtain ⟨g131, o132, e133, hA134, he135, h136, ha137⟩ := elem_at (e := (pairE (intE .i32) (intE .i32))) (rowG_lies (e := (pairE (intE .i32) (intE .i32))) rfl (hS115.get 1 rfl)) hf23 hx130 (by decide)
        obtain ⟨e138, e139, rfl, h140, h141⟩ := h136
        obtain rfl := h140
        obtain rfl := h141
        have ha137 : ∀ w', Lies w' A8 vs10 → w'.rangeAt g131 o132 [.int .i32 x129.1, .int .i32 x129.2] := ha137
        refine gu1 8 51 (.pointer (some ⟨g131, o132, none⟩)) rfl hS115 (fun w hSw => run_ixaddrN (E := 73) (s := 2) (k := .i64) (c := c9) rfl (by kernel_rfl) (by kernel_rfl) (by kernel_rfl) (fun _ => by kernel_rfl) (ixg_in hx130).1 (ixg_in hx130).2.1 hA134) ?_
        refine gv1 9 52 (.pointer (some ⟨g131, o132, none⟩)) rfl hS115 ?_
        refine gu1 10 53 (.int .i32 x129.1) rfl hS115 (fun w hSw => run_loadN1 0 rfl (by kernel_rfl) (fun _ => by kernel_rfl) (ha137 _ (rowG_lies (e := (pairE (intE .i32) (intE .i32))) rfl (hSw.get 1 rfl))) rfl) ?_
        refine gv1 11 54 (.bool (decide (p0 = x129.1))) rfl hS115 ?_
        refine gv1 12 2 (.int .i32 x116.2) rfl hS115 ?_
        refine gv1 13 3 (.bool (decide (p0 = x129.1))) rfl hS115 ?_
        refine gv1 14 4 (.bool true) rfl hS115 ?_
        refine gd_done (by kernel_rfl) ?_
        refine gx_thenN ?_
        refine hK113 _ _ ?_
        refine gx_ret ?_
        refine gx_blkR ?_
        refine gx_thenR ?_
        refine gx_thenR ?_
        refine gx_blkR ?_
        refine gx_thenR ?_
        obtain rfl := Option.some.inj hL37
        try dsimp only at hO29
        obtain rfl := Option.some.inj hO29
        exact gx_fin (.tuple #[.int .i32 x116.2, .bool (decide (p0 = x129.1)), .bool true]) (by kernel_rfl) (by kernel_rfl) ⟨_, rfl, rfl, (hS115.pick [] rfl rfl)⟩
     ·refine gx_v (.bool false) w32 (run_boolE (ne_no h62) (by kernel_rfl)) ?_
      refine gx_k (.bool false) w32 (gx_o (gx_o (gx_o (gx_o (gx_o (gx_o (gx_o ?_)))))))
      refine gx_k (.bool false) w32 ?_
      refine gx_nil ?_
      refine gx_thenN ?_
      refine hK48 _ _ ?_
      refine gx_no (by kernel_rfl) ?_
      refine gx_pass ?_
      refine gx_thenN ?_
      refine hK46 _ _ ?_
      refine gx_seq (fun K142 hK143 => ?_)
      refine gx_seq (fun K144 hK145 => ?_)
      refine gx_region ?_
      refine gx_k (.slice A8 l7.length c9) w32 (gx_k (.int .i64 x35) w32 ?_)
      obtain ⟨x146, hx147, hL37⟩ := bind_in hL37
      obtain ⟨g148, o149, e150, hA151, he152, h153, ha154⟩ := elem_at (e := (pairE (intE .i32) (intE .i32))) (rowG_lies (e := (pairE (intE .i32) (intE .i32))) rfl (hS33.get 1 rfl)) hf23 hx147 (by decide)
      obtain ⟨e155, e156, rfl, h157, h158⟩ := h153
      obtain rfl := h157
      obtain rfl := h158
      have ha154 : ∀ w', Lies w' A8 vs10 → w'.rangeAt g148 o149 [.int .i32 x146.1, .int .i32 x146.2] := ha154
      refine gx_v (.pointer (some ⟨g148, o149, none⟩)) w32 (run_ixaddrN (E := 73) (s := 2) (k := .i64) (c := c9) rfl (by kernel_rfl) (by kernel_rfl) (by kernel_rfl) (fun _ => by kernel_rfl) (ixg_in hx147).1 (ixg_in hx147).2.1 hA151) ?_
      refine gx_k (.pointer (some ⟨g148, o149 + 1, none⟩)) w32 ?_
      refine gx_v (.int .i32 x146.2) w32 (run_loadN1 1 rfl (by kernel_rfl) (fun _ => by kernel_rfl) (ha154 _ (rowG_lies (e := (pairE (intE .i32) (intE .i32))) rfl (hS33.get 1 rfl))) rfl) ?_
      rcases if_in hL37 with ⟨h159, hL37⟩ | ⟨h159, hL37⟩
      ·refine gx_v (.bool true) w32 (run_boolE (decide_eq_true h159) (by kernel_rfl)) ?_
       refine gx_nil ?_
       refine gx_thenN ?_
       refine hK145 _ _ ?_
       refine gx_yes (by kernel_rfl) ?_
       refine gx_seq (fun K160 hK161 => ?_)
       refine gd_start (fun w => St [] w0 w [poolE ft16 W17, rowG 73 2 (.slice A8 l7.length c9) l7.length vs10]) 10 #[false, false, false, false, false, false, false, false, false, false] (by kernel_rfl) (by kernel_rfl) ?_
       have hS163 := hS33.drew
       generalize w32.drew = w162 at hS163 ⊢
       refine gv1 0 36 (.int .i32 p0) rfl hS163 ?_
       refine gv1 1 37 (.slice A8 l7.length c9) rfl hS163 ?_
       refine gv1 2 38 (.int .i64 x35) rfl hS163 ?_
       obtain ⟨x164, hx165, hL37⟩ := bind_in hL37
       obtain ⟨g166, o167, e168, hA169, he170, h171, ha172⟩ := elem_at (e := (pairE (intE .i32) (intE .i32))) (rowG_lies (e := (pairE (intE .i32) (intE .i32))) rfl (hS163.get 1 rfl)) hf23 hx165 (by decide)
       obtain ⟨e173, e174, rfl, h175, h176⟩ := h171
       obtain rfl := h175
       obtain rfl := h176
       have ha172 : ∀ w', Lies w' A8 vs10 → w'.rangeAt g166 o167 [.int .i32 x164.1, .int .i32 x164.2] := ha172
       refine gu1 3 39 (.pointer (some ⟨g166, o167, none⟩)) rfl hS163 (fun w hSw => run_ixaddrN (E := 73) (s := 2) (k := .i64) (c := c9) rfl (by kernel_rfl) (by kernel_rfl) (by kernel_rfl) (fun _ => by kernel_rfl) (ixg_in hx165).1 (ixg_in hx165).2.1 hA169) ?_
       refine gv1 4 40 (.pointer (some ⟨g166, o167, none⟩)) rfl hS163 ?_
       refine gu1 5 41 (.int .i32 x164.1) rfl hS163 (fun w hSw => run_loadN1 0 rfl (by kernel_rfl) (fun _ => by kernel_rfl) (ha172 _ (rowG_lies (e := (pairE (intE .i32) (intE .i32))) rfl (hSw.get 1 rfl))) rfl) ?_
       refine gv1 6 42 (.bool (decide (p0 = x164.1))) rfl hS163 ?_
       refine gv1 7 2 (.int .i32 12297) rfl hS163 ?_
       refine gv1 8 3 (.bool (decide (p0 = x164.1))) rfl hS163 ?_
       refine gv1 9 4 (.bool true) rfl hS163 ?_
       refine gd_done (by kernel_rfl) ?_
       refine gx_thenN ?_
       refine hK161 _ _ ?_
       refine gx_ret ?_
       refine gx_thenR ?_
       refine gx_blkR ?_
       refine gx_thenR ?_
       refine gx_thenR ?_
       refine gx_blkR ?_
       refine gx_thenR ?_
       obtain rfl := Option.some.inj hL37
       try dsimp only at hO29
       obtain rfl := Option.some.inj hO29
       exact gx_fin (.tuple #[.int .i32 12297, .bool (decide (p0 = x164.1)), .bool true]) (by kernel_rfl) (by kernel_rfl) ⟨_, rfl, rfl, (hS163.pick [] rfl rfl)⟩
      ·refine gx_v (.bool false) w32 (run_boolE (decide_eq_false h159) (by kernel_rfl)) ?_
       refine gx_nil ?_
       refine gx_thenN ?_
       refine hK145 _ _ ?_
       refine gx_no (by kernel_rfl) ?_
       refine gx_pass ?_
       refine gx_thenN ?_
       refine hK143 _ _ ?_
       refine gx_seq (fun K177 hK178 => ?_)
       refine gd_start (fun w => St [] w0 w [poolE ft16 W17, rowG 73 2 (.slice A8 l7.length c9) l7.length vs10]) 15 #[false, false, false, false, false, false, false, false, false, false, false, false, false, false, false] (by kernel_rfl) (by kernel_rfl) ?_
       have hS180 := hS33.drew
       generalize w32.drew = w179 at hS180 ⊢
       refine gv1 0 43 (.slice A8 l7.length c9) rfl hS180 ?_
       refine gv1 1 44 (.int .i64 x35) rfl hS180 ?_
       obtain ⟨x181, hx182, hL37⟩ := bind_in hL37
       obtain ⟨g183, o184, e185, hA186, he187, h188, ha189⟩ := elem_at (e := (pairE (intE .i32) (intE .i32))) (rowG_lies (e := (pairE (intE .i32) (intE .i32))) rfl (hS180.get 1 rfl)) hf23 hx182 (by decide)
       obtain ⟨e190, e191, rfl, h192, h193⟩ := h188
       obtain rfl := h192
       obtain rfl := h193
       have ha189 : ∀ w', Lies w' A8 vs10 → w'.rangeAt g183 o184 [.int .i32 x181.1, .int .i32 x181.2] := ha189
       refine gu1 2 45 (.pointer (some ⟨g183, o184, none⟩)) rfl hS180 (fun w hSw => run_ixaddrN (E := 73) (s := 2) (k := .i64) (c := c9) rfl (by kernel_rfl) (by kernel_rfl) (by kernel_rfl) (fun _ => by kernel_rfl) (ixg_in hx182).1 (ixg_in hx182).2.1 hA186) ?_
       refine gv1 3 46 (.pointer (some ⟨g183, o184 + 1, none⟩)) rfl hS180 ?_
       refine gu1 4 47 (.int .i32 x181.2) rfl hS180 (fun w hSw => run_loadN1 1 rfl (by kernel_rfl) (fun _ => by kernel_rfl) (ha189 _ (rowG_lies (e := (pairE (intE .i32) (intE .i32))) rfl (hSw.get 1 rfl))) rfl) ?_
       refine gv1 5 48 (.int .i32 p0) rfl hS180 ?_
       refine gv1 6 49 (.slice A8 l7.length c9) rfl hS180 ?_
       refine gv1 7 50 (.int .i64 x35) rfl hS180 ?_
       obtain ⟨x194, hx195, hL37⟩ := bind_in hL37
       obtain ⟨g196, o197, e198, hA199, he200, h201, ha202⟩ := elem_at (e := (pairE (intE .i32) (intE .i32))) (rowG_lies (e := (pairE (intE .i32) (intE .i32))) rfl (hS180.get 1 rfl)) hf23 hx195 (by decide)
       obtain ⟨e203, e204, rfl, h205, h206⟩ := h201
       obtain rfl := h205
       obtain rfl := h206
       have ha202 : ∀ w', Lies w' A8 vs10 → w'.rangeAt g196 o197 [.int .i32 x194.1, .int .i32 x194.2] := ha202
       refine gu1 8 51 (.pointer (some ⟨g196, o197, none⟩)) rfl hS180 (fun w hSw => run_ixaddrN (E := 73) (s := 2) (k := .i64) (c := c9) rfl (by kernel_rfl) (by kernel_rfl) (by kernel_rfl) (fun _ => by kernel_rfl) (ixg_in hx195).1 (ixg_in hx195).2.1 hA199) ?_
       refine gv1 9 52 (.pointer (some ⟨g196, o197, none⟩)) rfl hS180 ?_
       refine gu1 10 53 (.int .i32 x194.1) rfl hS180 (fun w hSw => run_loadN1 0 rfl (by kernel_rfl) (fun _ => by kernel_rfl) (ha202 _ (rowG_lies (e := (pairE (intE .i32) (intE .i32))) rfl (hSw.get 1 rfl))) rfl) ?_
       refine gv1 11 54 (.bool (decide (p0 = x194.1))) rfl hS180 ?_
       refine gv1 12 2 (.int .i32 x181.2) rfl hS180 ?_
       refine gv1 13 3 (.bool (decide (p0 = x194.1))) rfl hS180 ?_
       refine gv1 14 4 (.bool true) rfl hS180 ?_
       refine gd_done (by kernel_rfl) ?_
       refine gx_thenN ?_
       refine hK178 _ _ ?_
       refine gx_ret ?_
       refine gx_blkR ?_
       refine gx_thenR ?_
       refine gx_thenR ?_
       refine gx_blkR ?_
       refine gx_thenR ?_
       obtain rfl := Option.some.inj hL37
       try dsimp only at hO29
       obtain rfl := Option.some.inj hO29
       exact gx_fin (.tuple #[.int .i32 x181.2, .bool (decide (p0 = x194.1)), .bool true]) (by kernel_rfl) (by kernel_rfl) ⟨_, rfl, rfl, (hS180.pick [] rfl rfl)⟩
    ·refine gx_v (.bool false) w32 (run_boolE (decide_eq_false h42) (by kernel_rfl)) ?_
     refine gx_nil ?_
     refine gx_thenN ?_
     refine hK41 _ _ ?_
     refine gx_no (by kernel_rfl) ?_
     refine gx_exit ?_
     refine gx_thenE ?_
     refine gx_thenE ?_
     refine gx_blkE ?_
     refine gx_thenN ?_
     exact ⟨selfA_i (by kernel_rfl), (Option.some.inj hL37), (hS33.pick [0] rfl rfl)⟩
 ·rintro _ w24 ⟨hq210, rfl, hS25⟩
  obtain ⟨u26, rfl⟩ := selfA_u hq210
  try dsimp only at hO29
  refine gx_seq (fun K208 hK209 => ?_)
  refine gx_region ?_
  refine gx_k (.int .i32 0) w24 (gx_k (.bool false) w24 (gx_k (.bool false) w24 ?_))
  refine gx_nil ?_
  refine gx_thenN ?_
  refine hK209 _ _ ?_
  refine gx_ret ?_
  obtain rfl := Option.some.inj hO29
  exact gx_fin (.tuple #[.int .i32 0, .bool false, .bool false]) (by kernel_rfl) (by kernel_rfl) ⟨_, rfl, rfl, (hS25.pick [] rfl rfl)⟩

def rLetter (_N : Nat) (p0 : Int) : Option (Bool) :=
 (((if p0 ≥ 65 then (if p0 ≤ 90 then some (true) else some (false)) else some (false)) : Option (Bool)).bind fun b8 => (match b8 with | true => some true | false => (if p0 ≥ 97 then some (decide (p0 ≤ 122)) else some false)))

set_option linter.unusedVariables false in
def rLetter_R (r : Bool) (w0 : World) (v : Value) (w : World) : Prop := v = .bool r ∧ St [] w0 w []

set_option maxRecDepth 100000 in
set_option maxHeartbeats 4000000 in
theorem rLetter_ok (N : Nat) (p0 : Int)  (r : Bool) (hF : rLetter N p0 = some r) (w0 : World)  :
  Calls Tryd.prog 32 #[.int .i32 p0] w0 fun e w => ∃ v, e = .returned v ∧ rLetter_R r w0 v w := by
 have hS0 := St.start w0
 unfold rLetter at hF
 refine calls_of Tryd.func32 rfl ⟨((.int .i32 p0) :: un 16 ([])).toArray, []⟩ (by kernel_rfl) ?_
 refine gx_seq (fun K1 hK2 => ?_)
 refine gx_region ?_
 refine gx_k (.bool false) w0 ?_
 refine gx_nil ?_
 refine gx_thenN ?_
 refine hK2 _ _ ?_
 refine gx_seq (fun K3 hK4 => ?_)
 refine gx_region ?_
 refine gx_k (.int .i32 p0) w0 ?_
 obtain ⟨c9, hE10, hO11⟩ := bind_in hF
 refine gx_part (l1 := [_, _, _, _, _]) (fun a w => ∃ (b8 : Bool), selfA (fun u7 => ⟨((.int .i32 p0) :: undef :: (.bool false) :: (.int .i32 p0) :: dd u7 4 4 ((.bool b8) :: un 8 ([]))).toArray, []⟩) a ∧ b8 = c9 ∧ St [] w0 w []) rfl ?_ ?_
 ·rcases if_in hE10 with ⟨h13, hE10⟩ | ⟨h13, hE10⟩
  ·refine gx_v (.bool true) w0 (run_boolE (decide_eq_true h13) (by kernel_rfl)) ?_
   refine gx_k (.bool true) w0 (gx_k (.int .i32 p0) w0 ?_)
   rcases if_in hE10 with ⟨h14, hE10⟩ | ⟨h14, hE10⟩
   ·refine gx_v (.bool true) w0 (run_boolE (decide_eq_true h14) (by kernel_rfl)) ?_
    refine gx_k (.bool true) w0 ?_
    refine gx_nil ?_
    refine gx_thenN ?_
    exact ⟨true, selfA_i (by kernel_rfl), (Option.some.inj hE10), hS0⟩
   ·refine gx_v (.bool false) w0 (run_boolE (decide_eq_false h14) (by kernel_rfl)) ?_
    refine gx_k (.bool false) w0 ?_
    refine gx_nil ?_
    refine gx_thenN ?_
    exact ⟨false, selfA_i (by kernel_rfl), (Option.some.inj hE10), hS0⟩
  ·refine gx_v (.bool false) w0 (run_boolE (decide_eq_false h13) (by kernel_rfl)) ?_
   refine gx_k (.bool false) w0 (gx_o (gx_o (gx_k (.bool false) w0 ?_)))
   refine gx_nil ?_
   refine gx_thenN ?_
   exact ⟨false, selfA_i (by kernel_rfl), (Option.some.inj hE10), hS0⟩
 ·rintro _ w5 ⟨b8, hq12, rfl, hS6⟩
  obtain ⟨u7, rfl⟩ := selfA_u hq12
  try dsimp only at hO11
  refine gx_k (.bool b8) w5 ?_
  cases b8 with
  | true =>
   try dsimp only at hO11
   refine gx_o (gx_o (gx_o (gx_o (gx_o (gx_o (gx_k (.bool true) w5 (gx_k (.bool true) w5 ?_)))))))
   refine gx_nil ?_
   refine gx_thenN ?_
   refine hK4 _ _ ?_
   refine gx_ret ?_
   obtain rfl := Option.some.inj hO11
   exact gx_fin (.bool true) (by kernel_rfl) (by kernel_rfl) ⟨_, rfl, rfl, hS6⟩
  | false =>
   try dsimp only at hO11
   refine gx_k (.int .i32 p0) w5 ?_
   rcases if_in hO11 with ⟨h15, hO11⟩ | ⟨h15, hO11⟩
   ·refine gx_v (.bool true) w5 (run_boolE (decide_eq_true h15) (by kernel_rfl)) ?_
    refine gx_k (.bool true) w5 (gx_k (.int .i32 p0) w5 (gx_k (.bool (decide (p0 ≤ 122))) w5 (gx_k (.bool (decide (p0 ≤ 122))) w5 (gx_k (.bool (decide (p0 ≤ 122))) w5 (gx_k (.bool (decide (p0 ≤ 122))) w5 ?_)))))
    refine gx_nil ?_
    refine gx_thenN ?_
    refine hK4 _ _ ?_
    refine gx_ret ?_
    obtain rfl := Option.some.inj hO11
    exact gx_fin (.bool (decide (p0 ≤ 122))) (by kernel_rfl) (by kernel_rfl) ⟨_, rfl, rfl, hS6⟩
   ·refine gx_v (.bool false) w5 (run_boolE (decide_eq_false h15) (by kernel_rfl)) ?_
    refine gx_k (.bool false) w5 (gx_o (gx_o (gx_k (.bool false) w5 (gx_k (.bool false) w5 (gx_k (.bool false) w5 ?_)))))
    refine gx_nil ?_
    refine gx_thenN ?_
    refine hK4 _ _ ?_
    refine gx_ret ?_
    obtain rfl := Option.some.inj hO11
    exact gx_fin (.bool false) (by kernel_rfl) (by kernel_rfl) ⟨_, rfl, rfl, hS6⟩

def rCls (_N : Nat) : Option (List (Int × Int × Int)) :=
 some ([(0, 8, 10), (9, 9, 12), (10, 10, 11), (11, 11, 12), (12, 12, 13), (13, 13, 11), (14, 27, 10), (28, 30, 11), (31, 31, 12), (32, 32, 13), (33, 34, 14), (35, 37, 6), (38, 42, 14), (43, 43, 5), (44, 44, 8), (45, 45, 5), (46, 47, 8), (48, 57, 4), (58, 58, 8), (59, 64, 14), (91, 96, 14), (123, 126, 14), (127, 132, 10), (133, 133, 11), (134, 159, 10), (160, 160, 8), (161, 161, 14), (162, 165, 6), (166, 169, 14), (171, 172, 14), (173, 173, 10), (174, 175, 14), (176, 177, 6), (178, 179, 4), (180, 180, 14), (182, 184, 14), (185, 185, 4), (187, 191, 14), (215, 215, 14), (247, 247, 14), (768, 879, 9), (1155, 1161, 9), (1424, 1424, 2), (1425, 1469, 9), (1470, 1470, 2), (1471, 1471, 9), (1472, 1472, 2), (1473, 1474, 9), (1475, 1475, 2), (1476, 1477, 9), (1478, 1478, 2), (1479, 1479, 9), (1480, 1535, 2), (1536, 1541, 7), (1542, 1543, 14), (1544, 1544, 3), (1545, 1546, 6), (1547, 1547, 3), (1548, 1548, 8), (1549, 1549, 3), (1550, 1551, 14), (1552, 1562, 9), (1563, 1610, 3), (1611, 1631, 9), (1632, 1641, 7), (1642, 1642, 6), (1643, 1644, 7), (1645, 1647, 3), (1648, 1648, 9), (1649, 1749, 3), (1750, 1756, 9), (1757, 1757, 7), (1758, 1758, 14), (1759, 1764, 9), (1765, 1766, 3), (1767, 1768, 9), (1769, 1769, 14), (1770, 1773, 9), (1774, 1775, 3), (1776, 1785, 4), (1786, 1808, 3), (1809, 1809, 9), (1810, 1839, 3), (1840, 1866, 9), (1867, 1957, 3), (1958, 1968, 9), (1969, 1983, 3), (8192, 8202, 13), (8203, 8205, 10), (8207, 8207, 2), (8208, 8231, 14), (8232, 8232, 13), (8233, 8233, 11), (8234, 8234, 15), (8235, 8235, 16), (8236, 8236, 19), (8237, 8237, 17), (8238, 8238, 18), (8239, 8239, 8), (8240, 8244, 6), (8245, 8259, 14), (8260, 8260, 8), (8261, 8286, 14), (8287, 8287, 13), (8288, 8293, 10), (8294, 8294, 20), (8295, 8295, 21), (8296, 8296, 22), (8297, 8297, 23), (8298, 8303, 10), (8304, 8304, 4), (8308, 8313, 4), (8314, 8315, 5), (8316, 8318, 14), (8320, 8329, 4), (8330, 8331, 5), (8332, 8334, 14), (8352, 8399, 6), (8400, 8432, 9), (8592, 8721, 14), (8722, 8722, 5), (8723, 8723, 6), (8724, 9013, 14), (9472, 9783, 14), (10214, 10223, 14), (12288, 12288, 13), (12289, 12292, 14), (12296, 12320, 14), (64285, 64285, 2), (64286, 64286, 9), (64287, 64296, 2), (64297, 64297, 5), (64298, 64335, 2), (64336, 64829, 3), (64830, 64831, 14), (65024, 65039, 9), (65056, 65071, 9), (65136, 65276, 3), (65279, 65279, 10), (65533, 65533, 14), (125184, 125251, 2), (125252, 125258, 9), (125259, 125279, 2), (126464, 126703, 3), (127744, 128591, 14), (917760, 917999, 9)] : List (Int × Int × Int))

set_option linter.unusedVariables false in
def rCls_R (r : List (Int × Int × Int)) (w0 : World) (v : Value) (w : World) : Prop := ∃ (A0' : Option Addr) (c0' : Nat) (vs0' : List Value) (ft' : List Nat), v = .slice A0' r.length c0' ∧ St [] w0 w [rowG 101 3 (.slice A0' r.length c0') r.length vs0', poolE ft' w] ∧ (fEach enccalamusref02Range vs0' r).rd w ft'

set_option maxRecDepth 100000 in
set_option maxHeartbeats 4000000 in
theorem rCls_ok (N : Nat)  (r : List (Int × Int × Int)) (hF : rCls N = some r) (w0 : World)  :
  Calls Tryd.prog 34 #[] w0 fun e w => ∃ v, e = .returned v ∧ rCls_R r w0 v w := by
 have hS0 := (St.start w0).pool0
 unfold rCls at hF
 refine calls_of Tryd.func34 rfl ⟨(un 148 ([])).toArray, []⟩ (by kernel_rfl) ?_
 refine gx_seq (fun K1 hK2 => ?_)
 refine gx_region ?_
 refine gx_k (.slice none 0 0) w0 ?_
 refine gx_nil ?_
 refine gx_thenN ?_
 refine hK2 _ _ ?_
 refine gx_seq (fun K3 hK4 => ?_)
 refine gx_region ?_
 refine gx_k (.agg #[.int .i32 0, .int .i32 8, .int .u8 10]) w0 (gx_k (.agg #[.int .i32 9, .int .i32 9, .int .u8 12]) w0 (gx_k (.agg #[.int .i32 10, .int .i32 10, .int .u8 11]) w0 (gx_k (.agg #[.int .i32 11, .int .i32 11, .int .u8 12]) w0 (gx_k (.agg #[.int .i32 12, .int .i32 12, .int .u8 13]) w0 (gx_k (.agg #[.int .i32 13, .int .i32 13, .int .u8 11]) w0 (gx_k (.agg #[.int .i32 14, .int .i32 27, .int .u8 10]) w0 (gx_k (.agg #[.int .i32 28, .int .i32 30, .int .u8 11]) w0 ?_)))))))
 refine gx_k (.agg #[.int .i32 31, .int .i32 31, .int .u8 12]) w0 (gx_k (.agg #[.int .i32 32, .int .i32 32, .int .u8 13]) w0 (gx_k (.agg #[.int .i32 33, .int .i32 34, .int .u8 14]) w0 (gx_k (.agg #[.int .i32 35, .int .i32 37, .int .u8 6]) w0 (gx_k (.agg #[.int .i32 38, .int .i32 42, .int .u8 14]) w0 (gx_k (.agg #[.int .i32 43, .int .i32 43, .int .u8 5]) w0 (gx_k (.agg #[.int .i32 44, .int .i32 44, .int .u8 8]) w0 (gx_k (.agg #[.int .i32 45, .int .i32 45, .int .u8 5]) w0 ?_)))))))
 refine gx_k (.agg #[.int .i32 46, .int .i32 47, .int .u8 8]) w0 (gx_k (.agg #[.int .i32 48, .int .i32 57, .int .u8 4]) w0 (gx_k (.agg #[.int .i32 58, .int .i32 58, .int .u8 8]) w0 (gx_k (.agg #[.int .i32 59, .int .i32 64, .int .u8 14]) w0 (gx_k (.agg #[.int .i32 91, .int .i32 96, .int .u8 14]) w0 (gx_k (.agg #[.int .i32 123, .int .i32 126, .int .u8 14]) w0 (gx_k (.agg #[.int .i32 127, .int .i32 132, .int .u8 10]) w0 (gx_k (.agg #[.int .i32 133, .int .i32 133, .int .u8 11]) w0 ?_)))))))
 refine gx_k (.agg #[.int .i32 134, .int .i32 159, .int .u8 10]) w0 (gx_k (.agg #[.int .i32 160, .int .i32 160, .int .u8 8]) w0 (gx_k (.agg #[.int .i32 161, .int .i32 161, .int .u8 14]) w0 (gx_k (.agg #[.int .i32 162, .int .i32 165, .int .u8 6]) w0 (gx_k (.agg #[.int .i32 166, .int .i32 169, .int .u8 14]) w0 (gx_k (.agg #[.int .i32 171, .int .i32 172, .int .u8 14]) w0 (gx_k (.agg #[.int .i32 173, .int .i32 173, .int .u8 10]) w0 (gx_k (.agg #[.int .i32 174, .int .i32 175, .int .u8 14]) w0 ?_)))))))
 refine gx_k (.agg #[.int .i32 176, .int .i32 177, .int .u8 6]) w0 (gx_k (.agg #[.int .i32 178, .int .i32 179, .int .u8 4]) w0 (gx_k (.agg #[.int .i32 180, .int .i32 180, .int .u8 14]) w0 (gx_k (.agg #[.int .i32 182, .int .i32 184, .int .u8 14]) w0 (gx_k (.agg #[.int .i32 185, .int .i32 185, .int .u8 4]) w0 (gx_k (.agg #[.int .i32 187, .int .i32 191, .int .u8 14]) w0 (gx_k (.agg #[.int .i32 215, .int .i32 215, .int .u8 14]) w0 (gx_k (.agg #[.int .i32 247, .int .i32 247, .int .u8 14]) w0 ?_)))))))
 refine gx_k (.agg #[.int .i32 768, .int .i32 879, .int .u8 9]) w0 (gx_k (.agg #[.int .i32 1155, .int .i32 1161, .int .u8 9]) w0 (gx_k (.agg #[.int .i32 1424, .int .i32 1424, .int .u8 2]) w0 (gx_k (.agg #[.int .i32 1425, .int .i32 1469, .int .u8 9]) w0 (gx_k (.agg #[.int .i32 1470, .int .i32 1470, .int .u8 2]) w0 (gx_k (.agg #[.int .i32 1471, .int .i32 1471, .int .u8 9]) w0 (gx_k (.agg #[.int .i32 1472, .int .i32 1472, .int .u8 2]) w0 (gx_k (.agg #[.int .i32 1473, .int .i32 1474, .int .u8 9]) w0 ?_)))))))
 refine gx_k (.agg #[.int .i32 1475, .int .i32 1475, .int .u8 2]) w0 (gx_k (.agg #[.int .i32 1476, .int .i32 1477, .int .u8 9]) w0 (gx_k (.agg #[.int .i32 1478, .int .i32 1478, .int .u8 2]) w0 (gx_k (.agg #[.int .i32 1479, .int .i32 1479, .int .u8 9]) w0 (gx_k (.agg #[.int .i32 1480, .int .i32 1535, .int .u8 2]) w0 (gx_k (.agg #[.int .i32 1536, .int .i32 1541, .int .u8 7]) w0 (gx_k (.agg #[.int .i32 1542, .int .i32 1543, .int .u8 14]) w0 (gx_k (.agg #[.int .i32 1544, .int .i32 1544, .int .u8 3]) w0 ?_)))))))
 refine gx_k (.agg #[.int .i32 1545, .int .i32 1546, .int .u8 6]) w0 (gx_k (.agg #[.int .i32 1547, .int .i32 1547, .int .u8 3]) w0 (gx_k (.agg #[.int .i32 1548, .int .i32 1548, .int .u8 8]) w0 (gx_k (.agg #[.int .i32 1549, .int .i32 1549, .int .u8 3]) w0 (gx_k (.agg #[.int .i32 1550, .int .i32 1551, .int .u8 14]) w0 (gx_k (.agg #[.int .i32 1552, .int .i32 1562, .int .u8 9]) w0 (gx_k (.agg #[.int .i32 1563, .int .i32 1610, .int .u8 3]) w0 (gx_k (.agg #[.int .i32 1611, .int .i32 1631, .int .u8 9]) w0 ?_)))))))
 refine gx_k (.agg #[.int .i32 1632, .int .i32 1641, .int .u8 7]) w0 (gx_k (.agg #[.int .i32 1642, .int .i32 1642, .int .u8 6]) w0 (gx_k (.agg #[.int .i32 1643, .int .i32 1644, .int .u8 7]) w0 (gx_k (.agg #[.int .i32 1645, .int .i32 1647, .int .u8 3]) w0 (gx_k (.agg #[.int .i32 1648, .int .i32 1648, .int .u8 9]) w0 (gx_k (.agg #[.int .i32 1649, .int .i32 1749, .int .u8 3]) w0 (gx_k (.agg #[.int .i32 1750, .int .i32 1756, .int .u8 9]) w0 (gx_k (.agg #[.int .i32 1757, .int .i32 1757, .int .u8 7]) w0 ?_)))))))
 refine gx_k (.agg #[.int .i32 1758, .int .i32 1758, .int .u8 14]) w0 (gx_k (.agg #[.int .i32 1759, .int .i32 1764, .int .u8 9]) w0 (gx_k (.agg #[.int .i32 1765, .int .i32 1766, .int .u8 3]) w0 (gx_k (.agg #[.int .i32 1767, .int .i32 1768, .int .u8 9]) w0 (gx_k (.agg #[.int .i32 1769, .int .i32 1769, .int .u8 14]) w0 (gx_k (.agg #[.int .i32 1770, .int .i32 1773, .int .u8 9]) w0 (gx_k (.agg #[.int .i32 1774, .int .i32 1775, .int .u8 3]) w0 (gx_k (.agg #[.int .i32 1776, .int .i32 1785, .int .u8 4]) w0 ?_)))))))
 refine gx_k (.agg #[.int .i32 1786, .int .i32 1808, .int .u8 3]) w0 (gx_k (.agg #[.int .i32 1809, .int .i32 1809, .int .u8 9]) w0 (gx_k (.agg #[.int .i32 1810, .int .i32 1839, .int .u8 3]) w0 (gx_k (.agg #[.int .i32 1840, .int .i32 1866, .int .u8 9]) w0 (gx_k (.agg #[.int .i32 1867, .int .i32 1957, .int .u8 3]) w0 (gx_k (.agg #[.int .i32 1958, .int .i32 1968, .int .u8 9]) w0 (gx_k (.agg #[.int .i32 1969, .int .i32 1983, .int .u8 3]) w0 (gx_k (.agg #[.int .i32 8192, .int .i32 8202, .int .u8 13]) w0 ?_)))))))
 refine gx_k (.agg #[.int .i32 8203, .int .i32 8205, .int .u8 10]) w0 (gx_k (.agg #[.int .i32 8207, .int .i32 8207, .int .u8 2]) w0 (gx_k (.agg #[.int .i32 8208, .int .i32 8231, .int .u8 14]) w0 (gx_k (.agg #[.int .i32 8232, .int .i32 8232, .int .u8 13]) w0 (gx_k (.agg #[.int .i32 8233, .int .i32 8233, .int .u8 11]) w0 (gx_k (.agg #[.int .i32 8234, .int .i32 8234, .int .u8 15]) w0 (gx_k (.agg #[.int .i32 8235, .int .i32 8235, .int .u8 16]) w0 (gx_k (.agg #[.int .i32 8236, .int .i32 8236, .int .u8 19]) w0 ?_)))))))
 refine gx_k (.agg #[.int .i32 8237, .int .i32 8237, .int .u8 17]) w0 (gx_k (.agg #[.int .i32 8238, .int .i32 8238, .int .u8 18]) w0 (gx_k (.agg #[.int .i32 8239, .int .i32 8239, .int .u8 8]) w0 (gx_k (.agg #[.int .i32 8240, .int .i32 8244, .int .u8 6]) w0 (gx_k (.agg #[.int .i32 8245, .int .i32 8259, .int .u8 14]) w0 (gx_k (.agg #[.int .i32 8260, .int .i32 8260, .int .u8 8]) w0 (gx_k (.agg #[.int .i32 8261, .int .i32 8286, .int .u8 14]) w0 (gx_k (.agg #[.int .i32 8287, .int .i32 8287, .int .u8 13]) w0 ?_)))))))
 refine gx_k (.agg #[.int .i32 8288, .int .i32 8293, .int .u8 10]) w0 (gx_k (.agg #[.int .i32 8294, .int .i32 8294, .int .u8 20]) w0 (gx_k (.agg #[.int .i32 8295, .int .i32 8295, .int .u8 21]) w0 (gx_k (.agg #[.int .i32 8296, .int .i32 8296, .int .u8 22]) w0 (gx_k (.agg #[.int .i32 8297, .int .i32 8297, .int .u8 23]) w0 (gx_k (.agg #[.int .i32 8298, .int .i32 8303, .int .u8 10]) w0 (gx_k (.agg #[.int .i32 8304, .int .i32 8304, .int .u8 4]) w0 (gx_k (.agg #[.int .i32 8308, .int .i32 8313, .int .u8 4]) w0 ?_)))))))
 refine gx_k (.agg #[.int .i32 8314, .int .i32 8315, .int .u8 5]) w0 (gx_k (.agg #[.int .i32 8316, .int .i32 8318, .int .u8 14]) w0 (gx_k (.agg #[.int .i32 8320, .int .i32 8329, .int .u8 4]) w0 (gx_k (.agg #[.int .i32 8330, .int .i32 8331, .int .u8 5]) w0 (gx_k (.agg #[.int .i32 8332, .int .i32 8334, .int .u8 14]) w0 (gx_k (.agg #[.int .i32 8352, .int .i32 8399, .int .u8 6]) w0 (gx_k (.agg #[.int .i32 8400, .int .i32 8432, .int .u8 9]) w0 (gx_k (.agg #[.int .i32 8592, .int .i32 8721, .int .u8 14]) w0 ?_)))))))
 refine gx_k (.agg #[.int .i32 8722, .int .i32 8722, .int .u8 5]) w0 (gx_k (.agg #[.int .i32 8723, .int .i32 8723, .int .u8 6]) w0 (gx_k (.agg #[.int .i32 8724, .int .i32 9013, .int .u8 14]) w0 (gx_k (.agg #[.int .i32 9472, .int .i32 9783, .int .u8 14]) w0 (gx_k (.agg #[.int .i32 10214, .int .i32 10223, .int .u8 14]) w0 (gx_k (.agg #[.int .i32 12288, .int .i32 12288, .int .u8 13]) w0 (gx_k (.agg #[.int .i32 12289, .int .i32 12292, .int .u8 14]) w0 (gx_k (.agg #[.int .i32 12296, .int .i32 12320, .int .u8 14]) w0 ?_)))))))
 refine gx_k (.agg #[.int .i32 64285, .int .i32 64285, .int .u8 2]) w0 (gx_k (.agg #[.int .i32 64286, .int .i32 64286, .int .u8 9]) w0 (gx_k (.agg #[.int .i32 64287, .int .i32 64296, .int .u8 2]) w0 (gx_k (.agg #[.int .i32 64297, .int .i32 64297, .int .u8 5]) w0 (gx_k (.agg #[.int .i32 64298, .int .i32 64335, .int .u8 2]) w0 (gx_k (.agg #[.int .i32 64336, .int .i32 64829, .int .u8 3]) w0 (gx_k (.agg #[.int .i32 64830, .int .i32 64831, .int .u8 14]) w0 (gx_k (.agg #[.int .i32 65024, .int .i32 65039, .int .u8 9]) w0 ?_)))))))
 refine gx_k (.agg #[.int .i32 65056, .int .i32 65071, .int .u8 9]) w0 (gx_k (.agg #[.int .i32 65136, .int .i32 65276, .int .u8 3]) w0 (gx_k (.agg #[.int .i32 65279, .int .i32 65279, .int .u8 10]) w0 (gx_k (.agg #[.int .i32 65533, .int .i32 65533, .int .u8 14]) w0 (gx_k (.agg #[.int .i32 125184, .int .i32 125251, .int .u8 2]) w0 (gx_k (.agg #[.int .i32 125252, .int .i32 125258, .int .u8 9]) w0 (gx_k (.agg #[.int .i32 125259, .int .i32 125279, .int .u8 2]) w0 (gx_k (.agg #[.int .i32 126464, .int .i32 126703, .int .u8 3]) w0 ?_)))))))
 refine gx_k (.agg #[.int .i32 127744, .int .i32 128591, .int .u8 14]) w0 (gx_k (.agg #[.int .i32 917760, .int .i32 917999, .int .u8 9]) w0 ?_)
 have hf5 : (fEach enccalamusref02Range [.int .i32 0, .int .i32 8, .int .u8 10, .int .i32 9, .int .i32 9, .int .u8 12, .int .i32 10, .int .i32 10, .int .u8 11, .int .i32 11, .int .i32 11, .int .u8 12, .int .i32 12, .int .i32 12, .int .u8 13, .int .i32 13, .int .i32 13, .int .u8 11, .int .i32 14, .int .i32 27, .int .u8 10, .int .i32 28, .int .i32 30, .int .u8 11, .int .i32 31, .int .i32 31, .int .u8 12, .int .i32 32, .int .i32 32, .int .u8 13, .int .i32 33, .int .i32 34, .int .u8 14, .int .i32 35, .int .i32 37, .int .u8 6, .int .i32 38, .int .i32 42, .int .u8 14, .int .i32 43, .int .i32 43, .int .u8 5, .int .i32 44, .int .i32 44, .int .u8 8, .int .i32 45, .int .i32 45, .int .u8 5, .int .i32 46, .int .i32 47, .int .u8 8, .int .i32 48, .int .i32 57, .int .u8 4, .int .i32 58, .int .i32 58, .int .u8 8, .int .i32 59, .int .i32 64, .int .u8 14, .int .i32 91, .int .i32 96, .int .u8 14, .int .i32 123, .int .i32 126, .int .u8 14, .int .i32 127, .int .i32 132, .int .u8 10, .int .i32 133, .int .i32 133, .int .u8 11, .int .i32 134, .int .i32 159, .int .u8 10, .int .i32 160, .int .i32 160, .int .u8 8, .int .i32 161, .int .i32 161, .int .u8 14, .int .i32 162, .int .i32 165, .int .u8 6, .int .i32 166, .int .i32 169, .int .u8 14, .int .i32 171, .int .i32 172, .int .u8 14, .int .i32 173, .int .i32 173, .int .u8 10, .int .i32 174, .int .i32 175, .int .u8 14, .int .i32 176, .int .i32 177, .int .u8 6, .int .i32 178, .int .i32 179, .int .u8 4, .int .i32 180, .int .i32 180, .int .u8 14, .int .i32 182, .int .i32 184, .int .u8 14, .int .i32 185, .int .i32 185, .int .u8 4, .int .i32 187, .int .i32 191, .int .u8 14, .int .i32 215, .int .i32 215, .int .u8 14, .int .i32 247, .int .i32 247, .int .u8 14, .int .i32 768, .int .i32 879, .int .u8 9, .int .i32 1155, .int .i32 1161, .int .u8 9, .int .i32 1424, .int .i32 1424, .int .u8 2, .int .i32 1425, .int .i32 1469, .int .u8 9, .int .i32 1470, .int .i32 1470, .int .u8 2, .int .i32 1471, .int .i32 1471, .int .u8 9, .int .i32 1472, .int .i32 1472, .int .u8 2, .int .i32 1473, .int .i32 1474, .int .u8 9, .int .i32 1475, .int .i32 1475, .int .u8 2, .int .i32 1476, .int .i32 1477, .int .u8 9, .int .i32 1478, .int .i32 1478, .int .u8 2, .int .i32 1479, .int .i32 1479, .int .u8 9, .int .i32 1480, .int .i32 1535, .int .u8 2, .int .i32 1536, .int .i32 1541, .int .u8 7, .int .i32 1542, .int .i32 1543, .int .u8 14, .int .i32 1544, .int .i32 1544, .int .u8 3, .int .i32 1545, .int .i32 1546, .int .u8 6, .int .i32 1547, .int .i32 1547, .int .u8 3, .int .i32 1548, .int .i32 1548, .int .u8 8, .int .i32 1549, .int .i32 1549, .int .u8 3, .int .i32 1550, .int .i32 1551, .int .u8 14, .int .i32 1552, .int .i32 1562, .int .u8 9, .int .i32 1563, .int .i32 1610, .int .u8 3, .int .i32 1611, .int .i32 1631, .int .u8 9, .int .i32 1632, .int .i32 1641, .int .u8 7, .int .i32 1642, .int .i32 1642, .int .u8 6, .int .i32 1643, .int .i32 1644, .int .u8 7, .int .i32 1645, .int .i32 1647, .int .u8 3, .int .i32 1648, .int .i32 1648, .int .u8 9, .int .i32 1649, .int .i32 1749, .int .u8 3, .int .i32 1750, .int .i32 1756, .int .u8 9, .int .i32 1757, .int .i32 1757, .int .u8 7, .int .i32 1758, .int .i32 1758, .int .u8 14, .int .i32 1759, .int .i32 1764, .int .u8 9, .int .i32 1765, .int .i32 1766, .int .u8 3, .int .i32 1767, .int .i32 1768, .int .u8 9, .int .i32 1769, .int .i32 1769, .int .u8 14, .int .i32 1770, .int .i32 1773, .int .u8 9, .int .i32 1774, .int .i32 1775, .int .u8 3, .int .i32 1776, .int .i32 1785, .int .u8 4, .int .i32 1786, .int .i32 1808, .int .u8 3, .int .i32 1809, .int .i32 1809, .int .u8 9, .int .i32 1810, .int .i32 1839, .int .u8 3, .int .i32 1840, .int .i32 1866, .int .u8 9, .int .i32 1867, .int .i32 1957, .int .u8 3, .int .i32 1958, .int .i32 1968, .int .u8 9, .int .i32 1969, .int .i32 1983, .int .u8 3, .int .i32 8192, .int .i32 8202, .int .u8 13, .int .i32 8203, .int .i32 8205, .int .u8 10, .int .i32 8207, .int .i32 8207, .int .u8 2, .int .i32 8208, .int .i32 8231, .int .u8 14, .int .i32 8232, .int .i32 8232, .int .u8 13, .int .i32 8233, .int .i32 8233, .int .u8 11, .int .i32 8234, .int .i32 8234, .int .u8 15, .int .i32 8235, .int .i32 8235, .int .u8 16, .int .i32 8236, .int .i32 8236, .int .u8 19, .int .i32 8237, .int .i32 8237, .int .u8 17, .int .i32 8238, .int .i32 8238, .int .u8 18, .int .i32 8239, .int .i32 8239, .int .u8 8, .int .i32 8240, .int .i32 8244, .int .u8 6, .int .i32 8245, .int .i32 8259, .int .u8 14, .int .i32 8260, .int .i32 8260, .int .u8 8, .int .i32 8261, .int .i32 8286, .int .u8 14, .int .i32 8287, .int .i32 8287, .int .u8 13, .int .i32 8288, .int .i32 8293, .int .u8 10, .int .i32 8294, .int .i32 8294, .int .u8 20, .int .i32 8295, .int .i32 8295, .int .u8 21, .int .i32 8296, .int .i32 8296, .int .u8 22, .int .i32 8297, .int .i32 8297, .int .u8 23, .int .i32 8298, .int .i32 8303, .int .u8 10, .int .i32 8304, .int .i32 8304, .int .u8 4, .int .i32 8308, .int .i32 8313, .int .u8 4, .int .i32 8314, .int .i32 8315, .int .u8 5, .int .i32 8316, .int .i32 8318, .int .u8 14, .int .i32 8320, .int .i32 8329, .int .u8 4, .int .i32 8330, .int .i32 8331, .int .u8 5, .int .i32 8332, .int .i32 8334, .int .u8 14, .int .i32 8352, .int .i32 8399, .int .u8 6, .int .i32 8400, .int .i32 8432, .int .u8 9, .int .i32 8592, .int .i32 8721, .int .u8 14, .int .i32 8722, .int .i32 8722, .int .u8 5, .int .i32 8723, .int .i32 8723, .int .u8 6, .int .i32 8724, .int .i32 9013, .int .u8 14, .int .i32 9472, .int .i32 9783, .int .u8 14, .int .i32 10214, .int .i32 10223, .int .u8 14, .int .i32 12288, .int .i32 12288, .int .u8 13, .int .i32 12289, .int .i32 12292, .int .u8 14, .int .i32 12296, .int .i32 12320, .int .u8 14, .int .i32 64285, .int .i32 64285, .int .u8 2, .int .i32 64286, .int .i32 64286, .int .u8 9, .int .i32 64287, .int .i32 64296, .int .u8 2, .int .i32 64297, .int .i32 64297, .int .u8 5, .int .i32 64298, .int .i32 64335, .int .u8 2, .int .i32 64336, .int .i32 64829, .int .u8 3, .int .i32 64830, .int .i32 64831, .int .u8 14, .int .i32 65024, .int .i32 65039, .int .u8 9, .int .i32 65056, .int .i32 65071, .int .u8 9, .int .i32 65136, .int .i32 65276, .int .u8 3, .int .i32 65279, .int .i32 65279, .int .u8 10, .int .i32 65533, .int .i32 65533, .int .u8 14, .int .i32 125184, .int .i32 125251, .int .u8 2, .int .i32 125252, .int .i32 125258, .int .u8 9, .int .i32 125259, .int .i32 125279, .int .u8 2, .int .i32 126464, .int .i32 126703, .int .u8 3, .int .i32 127744, .int .i32 128591, .int .u8 14, .int .i32 917760, .int .i32 917999, .int .u8 9] [(0, 8, 10), (9, 9, 12), (10, 10, 11), (11, 11, 12), (12, 12, 13), (13, 13, 11), (14, 27, 10), (28, 30, 11), (31, 31, 12), (32, 32, 13), (33, 34, 14), (35, 37, 6), (38, 42, 14), (43, 43, 5), (44, 44, 8), (45, 45, 5), (46, 47, 8), (48, 57, 4), (58, 58, 8), (59, 64, 14), (91, 96, 14), (123, 126, 14), (127, 132, 10), (133, 133, 11), (134, 159, 10), (160, 160, 8), (161, 161, 14), (162, 165, 6), (166, 169, 14), (171, 172, 14), (173, 173, 10), (174, 175, 14), (176, 177, 6), (178, 179, 4), (180, 180, 14), (182, 184, 14), (185, 185, 4), (187, 191, 14), (215, 215, 14), (247, 247, 14), (768, 879, 9), (1155, 1161, 9), (1424, 1424, 2), (1425, 1469, 9), (1470, 1470, 2), (1471, 1471, 9), (1472, 1472, 2), (1473, 1474, 9), (1475, 1475, 2), (1476, 1477, 9), (1478, 1478, 2), (1479, 1479, 9), (1480, 1535, 2), (1536, 1541, 7), (1542, 1543, 14), (1544, 1544, 3), (1545, 1546, 6), (1547, 1547, 3), (1548, 1548, 8), (1549, 1549, 3), (1550, 1551, 14), (1552, 1562, 9), (1563, 1610, 3), (1611, 1631, 9), (1632, 1641, 7), (1642, 1642, 6), (1643, 1644, 7), (1645, 1647, 3), (1648, 1648, 9), (1649, 1749, 3), (1750, 1756, 9), (1757, 1757, 7), (1758, 1758, 14), (1759, 1764, 9), (1765, 1766, 3), (1767, 1768, 9), (1769, 1769, 14), (1770, 1773, 9), (1774, 1775, 3), (1776, 1785, 4), (1786, 1808, 3), (1809, 1809, 9), (1810, 1839, 3), (1840, 1866, 9), (1867, 1957, 3), (1958, 1968, 9), (1969, 1983, 3), (8192, 8202, 13), (8203, 8205, 10), (8207, 8207, 2), (8208, 8231, 14), (8232, 8232, 13), (8233, 8233, 11), (8234, 8234, 15), (8235, 8235, 16), (8236, 8236, 19), (8237, 8237, 17), (8238, 8238, 18), (8239, 8239, 8), (8240, 8244, 6), (8245, 8259, 14), (8260, 8260, 8), (8261, 8286, 14), (8287, 8287, 13), (8288, 8293, 10), (8294, 8294, 20), (8295, 8295, 21), (8296, 8296, 22), (8297, 8297, 23), (8298, 8303, 10), (8304, 8304, 4), (8308, 8313, 4), (8314, 8315, 5), (8316, 8318, 14), (8320, 8329, 4), (8330, 8331, 5), (8332, 8334, 14), (8352, 8399, 6), (8400, 8432, 9), (8592, 8721, 14), (8722, 8722, 5), (8723, 8723, 6), (8724, 9013, 14), (9472, 9783, 14), (10214, 10223, 14), (12288, 12288, 13), (12289, 12292, 14), (12296, 12320, 14), (64285, 64285, 2), (64286, 64286, 9), (64287, 64296, 2), (64297, 64297, 5), (64298, 64335, 2), (64336, 64829, 3), (64830, 64831, 14), (65024, 65039, 9), (65056, 65071, 9), (65136, 65276, 3), (65279, 65279, 10), (65533, 65533, 14), (125184, 125251, 2), (125252, 125258, 9), (125259, 125279, 2), (126464, 126703, 3), (127744, 128591, 14), (917760, 917999, 9)]).rd w0 ([]) := (each_cons (rd_pair (rd_intg .i32 (0 : Int)) (rd_pair (rd_intg .i32 (8 : Int)) (rd_intg .u8 (10 : Int)))) (each_cons (rd_pair (rd_intg .i32 (9 : Int)) (rd_pair (rd_intg .i32 (9 : Int)) (rd_intg .u8 (12 : Int)))) (each_cons (rd_pair (rd_intg .i32 (10 : Int)) (rd_pair (rd_intg .i32 (10 : Int)) (rd_intg .u8 (11 : Int)))) (each_cons (rd_pair (rd_intg .i32 (11 : Int)) (rd_pair (rd_intg .i32 (11 : Int)) (rd_intg .u8 (12 : Int)))) (each_cons (rd_pair (rd_intg .i32 (12 : Int)) (rd_pair (rd_intg .i32 (12 : Int)) (rd_intg .u8 (13 : Int)))) (each_cons (rd_pair (rd_intg .i32 (13 : Int)) (rd_pair (rd_intg .i32 (13 : Int)) (rd_intg .u8 (11 : Int)))) (each_cons (rd_pair (rd_intg .i32 (14 : Int)) (rd_pair (rd_intg .i32 (27 : Int)) (rd_intg .u8 (10 : Int)))) (each_cons (rd_pair (rd_intg .i32 (28 : Int)) (rd_pair (rd_intg .i32 (30 : Int)) (rd_intg .u8 (11 : Int)))) (each_cons (rd_pair (rd_intg .i32 (31 : Int)) (rd_pair (rd_intg .i32 (31 : Int)) (rd_intg .u8 (12 : Int)))) (each_cons (rd_pair (rd_intg .i32 (32 : Int)) (rd_pair (rd_intg .i32 (32 : Int)) (rd_intg .u8 (13 : Int)))) (each_cons (rd_pair (rd_intg .i32 (33 : Int)) (rd_pair (rd_intg .i32 (34 : Int)) (rd_intg .u8 (14 : Int)))) (each_cons (rd_pair (rd_intg .i32 (35 : Int)) (rd_pair (rd_intg .i32 (37 : Int)) (rd_intg .u8 (6 : Int)))) (each_cons (rd_pair (rd_intg .i32 (38 : Int)) (rd_pair (rd_intg .i32 (42 : Int)) (rd_intg .u8 (14 : Int)))) (each_cons (rd_pair (rd_intg .i32 (43 : Int)) (rd_pair (rd_intg .i32 (43 : Int)) (rd_intg .u8 (5 : Int)))) (each_cons (rd_pair (rd_intg .i32 (44 : Int)) (rd_pair (rd_intg .i32 (44 : Int)) (rd_intg .u8 (8 : Int)))) (each_cons (rd_pair (rd_intg .i32 (45 : Int)) (rd_pair (rd_intg .i32 (45 : Int)) (rd_intg .u8 (5 : Int)))) (each_cons (rd_pair (rd_intg .i32 (46 : Int)) (rd_pair (rd_intg .i32 (47 : Int)) (rd_intg .u8 (8 : Int)))) (each_cons (rd_pair (rd_intg .i32 (48 : Int)) (rd_pair (rd_intg .i32 (57 : Int)) (rd_intg .u8 (4 : Int)))) (each_cons (rd_pair (rd_intg .i32 (58 : Int)) (rd_pair (rd_intg .i32 (58 : Int)) (rd_intg .u8 (8 : Int)))) (each_cons (rd_pair (rd_intg .i32 (59 : Int)) (rd_pair (rd_intg .i32 (64 : Int)) (rd_intg .u8 (14 : Int)))) (each_cons (rd_pair (rd_intg .i32 (91 : Int)) (rd_pair (rd_intg .i32 (96 : Int)) (rd_intg .u8 (14 : Int)))) (each_cons (rd_pair (rd_intg .i32 (123 : Int)) (rd_pair (rd_intg .i32 (126 : Int)) (rd_intg .u8 (14 : Int)))) (each_cons (rd_pair (rd_intg .i32 (127 : Int)) (rd_pair (rd_intg .i32 (132 : Int)) (rd_intg .u8 (10 : Int)))) (each_cons (rd_pair (rd_intg .i32 (133 : Int)) (rd_pair (rd_intg .i32 (133 : Int)) (rd_intg .u8 (11 : Int)))) (each_cons (rd_pair (rd_intg .i32 (134 : Int)) (rd_pair (rd_intg .i32 (159 : Int)) (rd_intg .u8 (10 : Int)))) (each_cons (rd_pair (rd_intg .i32 (160 : Int)) (rd_pair (rd_intg .i32 (160 : Int)) (rd_intg .u8 (8 : Int)))) (each_cons (rd_pair (rd_intg .i32 (161 : Int)) (rd_pair (rd_intg .i32 (161 : Int)) (rd_intg .u8 (14 : Int)))) (each_cons (rd_pair (rd_intg .i32 (162 : Int)) (rd_pair (rd_intg .i32 (165 : Int)) (rd_intg .u8 (6 : Int)))) (each_cons (rd_pair (rd_intg .i32 (166 : Int)) (rd_pair (rd_intg .i32 (169 : Int)) (rd_intg .u8 (14 : Int)))) (each_cons (rd_pair (rd_intg .i32 (171 : Int)) (rd_pair (rd_intg .i32 (172 : Int)) (rd_intg .u8 (14 : Int)))) (each_cons (rd_pair (rd_intg .i32 (173 : Int)) (rd_pair (rd_intg .i32 (173 : Int)) (rd_intg .u8 (10 : Int)))) (each_cons (rd_pair (rd_intg .i32 (174 : Int)) (rd_pair (rd_intg .i32 (175 : Int)) (rd_intg .u8 (14 : Int)))) (each_cons (rd_pair (rd_intg .i32 (176 : Int)) (rd_pair (rd_intg .i32 (177 : Int)) (rd_intg .u8 (6 : Int)))) (each_cons (rd_pair (rd_intg .i32 (178 : Int)) (rd_pair (rd_intg .i32 (179 : Int)) (rd_intg .u8 (4 : Int)))) (each_cons (rd_pair (rd_intg .i32 (180 : Int)) (rd_pair (rd_intg .i32 (180 : Int)) (rd_intg .u8 (14 : Int)))) (each_cons (rd_pair (rd_intg .i32 (182 : Int)) (rd_pair (rd_intg .i32 (184 : Int)) (rd_intg .u8 (14 : Int)))) (each_cons (rd_pair (rd_intg .i32 (185 : Int)) (rd_pair (rd_intg .i32 (185 : Int)) (rd_intg .u8 (4 : Int)))) (each_cons (rd_pair (rd_intg .i32 (187 : Int)) (rd_pair (rd_intg .i32 (191 : Int)) (rd_intg .u8 (14 : Int)))) (each_cons (rd_pair (rd_intg .i32 (215 : Int)) (rd_pair (rd_intg .i32 (215 : Int)) (rd_intg .u8 (14 : Int)))) (each_cons (rd_pair (rd_intg .i32 (247 : Int)) (rd_pair (rd_intg .i32 (247 : Int)) (rd_intg .u8 (14 : Int)))) (each_cons (rd_pair (rd_intg .i32 (768 : Int)) (rd_pair (rd_intg .i32 (879 : Int)) (rd_intg .u8 (9 : Int)))) (each_cons (rd_pair (rd_intg .i32 (1155 : Int)) (rd_pair (rd_intg .i32 (1161 : Int)) (rd_intg .u8 (9 : Int)))) (each_cons (rd_pair (rd_intg .i32 (1424 : Int)) (rd_pair (rd_intg .i32 (1424 : Int)) (rd_intg .u8 (2 : Int)))) (each_cons (rd_pair (rd_intg .i32 (1425 : Int)) (rd_pair (rd_intg .i32 (1469 : Int)) (rd_intg .u8 (9 : Int)))) (each_cons (rd_pair (rd_intg .i32 (1470 : Int)) (rd_pair (rd_intg .i32 (1470 : Int)) (rd_intg .u8 (2 : Int)))) (each_cons (rd_pair (rd_intg .i32 (1471 : Int)) (rd_pair (rd_intg .i32 (1471 : Int)) (rd_intg .u8 (9 : Int)))) (each_cons (rd_pair (rd_intg .i32 (1472 : Int)) (rd_pair (rd_intg .i32 (1472 : Int)) (rd_intg .u8 (2 : Int)))) (each_cons (rd_pair (rd_intg .i32 (1473 : Int)) (rd_pair (rd_intg .i32 (1474 : Int)) (rd_intg .u8 (9 : Int)))) (each_cons (rd_pair (rd_intg .i32 (1475 : Int)) (rd_pair (rd_intg .i32 (1475 : Int)) (rd_intg .u8 (2 : Int)))) (each_cons (rd_pair (rd_intg .i32 (1476 : Int)) (rd_pair (rd_intg .i32 (1477 : Int)) (rd_intg .u8 (9 : Int)))) (each_cons (rd_pair (rd_intg .i32 (1478 : Int)) (rd_pair (rd_intg .i32 (1478 : Int)) (rd_intg .u8 (2 : Int)))) (each_cons (rd_pair (rd_intg .i32 (1479 : Int)) (rd_pair (rd_intg .i32 (1479 : Int)) (rd_intg .u8 (9 : Int)))) (each_cons (rd_pair (rd_intg .i32 (1480 : Int)) (rd_pair (rd_intg .i32 (1535 : Int)) (rd_intg .u8 (2 : Int)))) (each_cons (rd_pair (rd_intg .i32 (1536 : Int)) (rd_pair (rd_intg .i32 (1541 : Int)) (rd_intg .u8 (7 : Int)))) (each_cons (rd_pair (rd_intg .i32 (1542 : Int)) (rd_pair (rd_intg .i32 (1543 : Int)) (rd_intg .u8 (14 : Int)))) (each_cons (rd_pair (rd_intg .i32 (1544 : Int)) (rd_pair (rd_intg .i32 (1544 : Int)) (rd_intg .u8 (3 : Int)))) (each_cons (rd_pair (rd_intg .i32 (1545 : Int)) (rd_pair (rd_intg .i32 (1546 : Int)) (rd_intg .u8 (6 : Int)))) (each_cons (rd_pair (rd_intg .i32 (1547 : Int)) (rd_pair (rd_intg .i32 (1547 : Int)) (rd_intg .u8 (3 : Int)))) (each_cons (rd_pair (rd_intg .i32 (1548 : Int)) (rd_pair (rd_intg .i32 (1548 : Int)) (rd_intg .u8 (8 : Int)))) (each_cons (rd_pair (rd_intg .i32 (1549 : Int)) (rd_pair (rd_intg .i32 (1549 : Int)) (rd_intg .u8 (3 : Int)))) (each_cons (rd_pair (rd_intg .i32 (1550 : Int)) (rd_pair (rd_intg .i32 (1551 : Int)) (rd_intg .u8 (14 : Int)))) (each_cons (rd_pair (rd_intg .i32 (1552 : Int)) (rd_pair (rd_intg .i32 (1562 : Int)) (rd_intg .u8 (9 : Int)))) (each_cons (rd_pair (rd_intg .i32 (1563 : Int)) (rd_pair (rd_intg .i32 (1610 : Int)) (rd_intg .u8 (3 : Int)))) (each_cons (rd_pair (rd_intg .i32 (1611 : Int)) (rd_pair (rd_intg .i32 (1631 : Int)) (rd_intg .u8 (9 : Int)))) (each_cons (rd_pair (rd_intg .i32 (1632 : Int)) (rd_pair (rd_intg .i32 (1641 : Int)) (rd_intg .u8 (7 : Int)))) (each_cons (rd_pair (rd_intg .i32 (1642 : Int)) (rd_pair (rd_intg .i32 (1642 : Int)) (rd_intg .u8 (6 : Int)))) (each_cons (rd_pair (rd_intg .i32 (1643 : Int)) (rd_pair (rd_intg .i32 (1644 : Int)) (rd_intg .u8 (7 : Int)))) (each_cons (rd_pair (rd_intg .i32 (1645 : Int)) (rd_pair (rd_intg .i32 (1647 : Int)) (rd_intg .u8 (3 : Int)))) (each_cons (rd_pair (rd_intg .i32 (1648 : Int)) (rd_pair (rd_intg .i32 (1648 : Int)) (rd_intg .u8 (9 : Int)))) (each_cons (rd_pair (rd_intg .i32 (1649 : Int)) (rd_pair (rd_intg .i32 (1749 : Int)) (rd_intg .u8 (3 : Int)))) (each_cons (rd_pair (rd_intg .i32 (1750 : Int)) (rd_pair (rd_intg .i32 (1756 : Int)) (rd_intg .u8 (9 : Int)))) (each_cons (rd_pair (rd_intg .i32 (1757 : Int)) (rd_pair (rd_intg .i32 (1757 : Int)) (rd_intg .u8 (7 : Int)))) (each_cons (rd_pair (rd_intg .i32 (1758 : Int)) (rd_pair (rd_intg .i32 (1758 : Int)) (rd_intg .u8 (14 : Int)))) (each_cons (rd_pair (rd_intg .i32 (1759 : Int)) (rd_pair (rd_intg .i32 (1764 : Int)) (rd_intg .u8 (9 : Int)))) (each_cons (rd_pair (rd_intg .i32 (1765 : Int)) (rd_pair (rd_intg .i32 (1766 : Int)) (rd_intg .u8 (3 : Int)))) (each_cons (rd_pair (rd_intg .i32 (1767 : Int)) (rd_pair (rd_intg .i32 (1768 : Int)) (rd_intg .u8 (9 : Int)))) (each_cons (rd_pair (rd_intg .i32 (1769 : Int)) (rd_pair (rd_intg .i32 (1769 : Int)) (rd_intg .u8 (14 : Int)))) (each_cons (rd_pair (rd_intg .i32 (1770 : Int)) (rd_pair (rd_intg .i32 (1773 : Int)) (rd_intg .u8 (9 : Int)))) (each_cons (rd_pair (rd_intg .i32 (1774 : Int)) (rd_pair (rd_intg .i32 (1775 : Int)) (rd_intg .u8 (3 : Int)))) (each_cons (rd_pair (rd_intg .i32 (1776 : Int)) (rd_pair (rd_intg .i32 (1785 : Int)) (rd_intg .u8 (4 : Int)))) (each_cons (rd_pair (rd_intg .i32 (1786 : Int)) (rd_pair (rd_intg .i32 (1808 : Int)) (rd_intg .u8 (3 : Int)))) (each_cons (rd_pair (rd_intg .i32 (1809 : Int)) (rd_pair (rd_intg .i32 (1809 : Int)) (rd_intg .u8 (9 : Int)))) (each_cons (rd_pair (rd_intg .i32 (1810 : Int)) (rd_pair (rd_intg .i32 (1839 : Int)) (rd_intg .u8 (3 : Int)))) (each_cons (rd_pair (rd_intg .i32 (1840 : Int)) (rd_pair (rd_intg .i32 (1866 : Int)) (rd_intg .u8 (9 : Int)))) (each_cons (rd_pair (rd_intg .i32 (1867 : Int)) (rd_pair (rd_intg .i32 (1957 : Int)) (rd_intg .u8 (3 : Int)))) (each_cons (rd_pair (rd_intg .i32 (1958 : Int)) (rd_pair (rd_intg .i32 (1968 : Int)) (rd_intg .u8 (9 : Int)))) (each_cons (rd_pair (rd_intg .i32 (1969 : Int)) (rd_pair (rd_intg .i32 (1983 : Int)) (rd_intg .u8 (3 : Int)))) (each_cons (rd_pair (rd_intg .i32 (8192 : Int)) (rd_pair (rd_intg .i32 (8202 : Int)) (rd_intg .u8 (13 : Int)))) (each_cons (rd_pair (rd_intg .i32 (8203 : Int)) (rd_pair (rd_intg .i32 (8205 : Int)) (rd_intg .u8 (10 : Int)))) (each_cons (rd_pair (rd_intg .i32 (8207 : Int)) (rd_pair (rd_intg .i32 (8207 : Int)) (rd_intg .u8 (2 : Int)))) (each_cons (rd_pair (rd_intg .i32 (8208 : Int)) (rd_pair (rd_intg .i32 (8231 : Int)) (rd_intg .u8 (14 : Int)))) (each_cons (rd_pair (rd_intg .i32 (8232 : Int)) (rd_pair (rd_intg .i32 (8232 : Int)) (rd_intg .u8 (13 : Int)))) (each_cons (rd_pair (rd_intg .i32 (8233 : Int)) (rd_pair (rd_intg .i32 (8233 : Int)) (rd_intg .u8 (11 : Int)))) (each_cons (rd_pair (rd_intg .i32 (8234 : Int)) (rd_pair (rd_intg .i32 (8234 : Int)) (rd_intg .u8 (15 : Int)))) (each_cons (rd_pair (rd_intg .i32 (8235 : Int)) (rd_pair (rd_intg .i32 (8235 : Int)) (rd_intg .u8 (16 : Int)))) (each_cons (rd_pair (rd_intg .i32 (8236 : Int)) (rd_pair (rd_intg .i32 (8236 : Int)) (rd_intg .u8 (19 : Int)))) (each_cons (rd_pair (rd_intg .i32 (8237 : Int)) (rd_pair (rd_intg .i32 (8237 : Int)) (rd_intg .u8 (17 : Int)))) (each_cons (rd_pair (rd_intg .i32 (8238 : Int)) (rd_pair (rd_intg .i32 (8238 : Int)) (rd_intg .u8 (18 : Int)))) (each_cons (rd_pair (rd_intg .i32 (8239 : Int)) (rd_pair (rd_intg .i32 (8239 : Int)) (rd_intg .u8 (8 : Int)))) (each_cons (rd_pair (rd_intg .i32 (8240 : Int)) (rd_pair (rd_intg .i32 (8244 : Int)) (rd_intg .u8 (6 : Int)))) (each_cons (rd_pair (rd_intg .i32 (8245 : Int)) (rd_pair (rd_intg .i32 (8259 : Int)) (rd_intg .u8 (14 : Int)))) (each_cons (rd_pair (rd_intg .i32 (8260 : Int)) (rd_pair (rd_intg .i32 (8260 : Int)) (rd_intg .u8 (8 : Int)))) (each_cons (rd_pair (rd_intg .i32 (8261 : Int)) (rd_pair (rd_intg .i32 (8286 : Int)) (rd_intg .u8 (14 : Int)))) (each_cons (rd_pair (rd_intg .i32 (8287 : Int)) (rd_pair (rd_intg .i32 (8287 : Int)) (rd_intg .u8 (13 : Int)))) (each_cons (rd_pair (rd_intg .i32 (8288 : Int)) (rd_pair (rd_intg .i32 (8293 : Int)) (rd_intg .u8 (10 : Int)))) (each_cons (rd_pair (rd_intg .i32 (8294 : Int)) (rd_pair (rd_intg .i32 (8294 : Int)) (rd_intg .u8 (20 : Int)))) (each_cons (rd_pair (rd_intg .i32 (8295 : Int)) (rd_pair (rd_intg .i32 (8295 : Int)) (rd_intg .u8 (21 : Int)))) (each_cons (rd_pair (rd_intg .i32 (8296 : Int)) (rd_pair (rd_intg .i32 (8296 : Int)) (rd_intg .u8 (22 : Int)))) (each_cons (rd_pair (rd_intg .i32 (8297 : Int)) (rd_pair (rd_intg .i32 (8297 : Int)) (rd_intg .u8 (23 : Int)))) (each_cons (rd_pair (rd_intg .i32 (8298 : Int)) (rd_pair (rd_intg .i32 (8303 : Int)) (rd_intg .u8 (10 : Int)))) (each_cons (rd_pair (rd_intg .i32 (8304 : Int)) (rd_pair (rd_intg .i32 (8304 : Int)) (rd_intg .u8 (4 : Int)))) (each_cons (rd_pair (rd_intg .i32 (8308 : Int)) (rd_pair (rd_intg .i32 (8313 : Int)) (rd_intg .u8 (4 : Int)))) (each_cons (rd_pair (rd_intg .i32 (8314 : Int)) (rd_pair (rd_intg .i32 (8315 : Int)) (rd_intg .u8 (5 : Int)))) (each_cons (rd_pair (rd_intg .i32 (8316 : Int)) (rd_pair (rd_intg .i32 (8318 : Int)) (rd_intg .u8 (14 : Int)))) (each_cons (rd_pair (rd_intg .i32 (8320 : Int)) (rd_pair (rd_intg .i32 (8329 : Int)) (rd_intg .u8 (4 : Int)))) (each_cons (rd_pair (rd_intg .i32 (8330 : Int)) (rd_pair (rd_intg .i32 (8331 : Int)) (rd_intg .u8 (5 : Int)))) (each_cons (rd_pair (rd_intg .i32 (8332 : Int)) (rd_pair (rd_intg .i32 (8334 : Int)) (rd_intg .u8 (14 : Int)))) (each_cons (rd_pair (rd_intg .i32 (8352 : Int)) (rd_pair (rd_intg .i32 (8399 : Int)) (rd_intg .u8 (6 : Int)))) (each_cons (rd_pair (rd_intg .i32 (8400 : Int)) (rd_pair (rd_intg .i32 (8432 : Int)) (rd_intg .u8 (9 : Int)))) (each_cons (rd_pair (rd_intg .i32 (8592 : Int)) (rd_pair (rd_intg .i32 (8721 : Int)) (rd_intg .u8 (14 : Int)))) (each_cons (rd_pair (rd_intg .i32 (8722 : Int)) (rd_pair (rd_intg .i32 (8722 : Int)) (rd_intg .u8 (5 : Int)))) (each_cons (rd_pair (rd_intg .i32 (8723 : Int)) (rd_pair (rd_intg .i32 (8723 : Int)) (rd_intg .u8 (6 : Int)))) (each_cons (rd_pair (rd_intg .i32 (8724 : Int)) (rd_pair (rd_intg .i32 (9013 : Int)) (rd_intg .u8 (14 : Int)))) (each_cons (rd_pair (rd_intg .i32 (9472 : Int)) (rd_pair (rd_intg .i32 (9783 : Int)) (rd_intg .u8 (14 : Int)))) (each_cons (rd_pair (rd_intg .i32 (10214 : Int)) (rd_pair (rd_intg .i32 (10223 : Int)) (rd_intg .u8 (14 : Int)))) (each_cons (rd_pair (rd_intg .i32 (12288 : Int)) (rd_pair (rd_intg .i32 (12288 : Int)) (rd_intg .u8 (13 : Int)))) (each_cons (rd_pair (rd_intg .i32 (12289 : Int)) (rd_pair (rd_intg .i32 (12292 : Int)) (rd_intg .u8 (14 : Int)))) (each_cons (rd_pair (rd_intg .i32 (12296 : Int)) (rd_pair (rd_intg .i32 (12320 : Int)) (rd_intg .u8 (14 : Int)))) (each_cons (rd_pair (rd_intg .i32 (64285 : Int)) (rd_pair (rd_intg .i32 (64285 : Int)) (rd_intg .u8 (2 : Int)))) (each_cons (rd_pair (rd_intg .i32 (64286 : Int)) (rd_pair (rd_intg .i32 (64286 : Int)) (rd_intg .u8 (9 : Int)))) (each_cons (rd_pair (rd_intg .i32 (64287 : Int)) (rd_pair (rd_intg .i32 (64296 : Int)) (rd_intg .u8 (2 : Int)))) (each_cons (rd_pair (rd_intg .i32 (64297 : Int)) (rd_pair (rd_intg .i32 (64297 : Int)) (rd_intg .u8 (5 : Int)))) (each_cons (rd_pair (rd_intg .i32 (64298 : Int)) (rd_pair (rd_intg .i32 (64335 : Int)) (rd_intg .u8 (2 : Int)))) (each_cons (rd_pair (rd_intg .i32 (64336 : Int)) (rd_pair (rd_intg .i32 (64829 : Int)) (rd_intg .u8 (3 : Int)))) (each_cons (rd_pair (rd_intg .i32 (64830 : Int)) (rd_pair (rd_intg .i32 (64831 : Int)) (rd_intg .u8 (14 : Int)))) (each_cons (rd_pair (rd_intg .i32 (65024 : Int)) (rd_pair (rd_intg .i32 (65039 : Int)) (rd_intg .u8 (9 : Int)))) (each_cons (rd_pair (rd_intg .i32 (65056 : Int)) (rd_pair (rd_intg .i32 (65071 : Int)) (rd_intg .u8 (9 : Int)))) (each_cons (rd_pair (rd_intg .i32 (65136 : Int)) (rd_pair (rd_intg .i32 (65276 : Int)) (rd_intg .u8 (3 : Int)))) (each_cons (rd_pair (rd_intg .i32 (65279 : Int)) (rd_pair (rd_intg .i32 (65279 : Int)) (rd_intg .u8 (10 : Int)))) (each_cons (rd_pair (rd_intg .i32 (65533 : Int)) (rd_pair (rd_intg .i32 (65533 : Int)) (rd_intg .u8 (14 : Int)))) (each_cons (rd_pair (rd_intg .i32 (125184 : Int)) (rd_pair (rd_intg .i32 (125251 : Int)) (rd_intg .u8 (2 : Int)))) (each_cons (rd_pair (rd_intg .i32 (125252 : Int)) (rd_pair (rd_intg .i32 (125258 : Int)) (rd_intg .u8 (9 : Int)))) (each_cons (rd_pair (rd_intg .i32 (125259 : Int)) (rd_pair (rd_intg .i32 (125279 : Int)) (rd_intg .u8 (2 : Int)))) (each_cons (rd_pair (rd_intg .i32 (126464 : Int)) (rd_pair (rd_intg .i32 (126703 : Int)) (rd_intg .u8 (3 : Int)))) (each_cons (rd_pair (rd_intg .i32 (127744 : Int)) (rd_pair (rd_intg .i32 (128591 : Int)) (rd_intg .u8 (14 : Int)))) (each_cons (rd_pair (rd_intg .i32 (917760 : Int)) (rd_pair (rd_intg .i32 (917999 : Int)) (rd_intg .u8 (9 : Int)))) each_nil))))))))))))))))))))))))))))))))))))))))))))))))))))))))))))))))))))))))))))))))))))))))))))))))))))))))))))))))))))))))))))))))))))))))))))))))))
 refine gx_r (st_madeP (e := enccalamusref02Range) 101 146 [.int .i32 0, .int .i32 8, .int .u8 10, .int .i32 9, .int .i32 9, .int .u8 12, .int .i32 10, .int .i32 10, .int .u8 11, .int .i32 11, .int .i32 11, .int .u8 12, .int .i32 12, .int .i32 12, .int .u8 13, .int .i32 13, .int .i32 13, .int .u8 11, .int .i32 14, .int .i32 27, .int .u8 10, .int .i32 28, .int .i32 30, .int .u8 11, .int .i32 31, .int .i32 31, .int .u8 12, .int .i32 32, .int .i32 32, .int .u8 13, .int .i32 33, .int .i32 34, .int .u8 14, .int .i32 35, .int .i32 37, .int .u8 6, .int .i32 38, .int .i32 42, .int .u8 14, .int .i32 43, .int .i32 43, .int .u8 5, .int .i32 44, .int .i32 44, .int .u8 8, .int .i32 45, .int .i32 45, .int .u8 5, .int .i32 46, .int .i32 47, .int .u8 8, .int .i32 48, .int .i32 57, .int .u8 4, .int .i32 58, .int .i32 58, .int .u8 8, .int .i32 59, .int .i32 64, .int .u8 14, .int .i32 91, .int .i32 96, .int .u8 14, .int .i32 123, .int .i32 126, .int .u8 14, .int .i32 127, .int .i32 132, .int .u8 10, .int .i32 133, .int .i32 133, .int .u8 11, .int .i32 134, .int .i32 159, .int .u8 10, .int .i32 160, .int .i32 160, .int .u8 8, .int .i32 161, .int .i32 161, .int .u8 14, .int .i32 162, .int .i32 165, .int .u8 6, .int .i32 166, .int .i32 169, .int .u8 14, .int .i32 171, .int .i32 172, .int .u8 14, .int .i32 173, .int .i32 173, .int .u8 10, .int .i32 174, .int .i32 175, .int .u8 14, .int .i32 176, .int .i32 177, .int .u8 6, .int .i32 178, .int .i32 179, .int .u8 4, .int .i32 180, .int .i32 180, .int .u8 14, .int .i32 182, .int .i32 184, .int .u8 14, .int .i32 185, .int .i32 185, .int .u8 4, .int .i32 187, .int .i32 191, .int .u8 14, .int .i32 215, .int .i32 215, .int .u8 14, .int .i32 247, .int .i32 247, .int .u8 14, .int .i32 768, .int .i32 879, .int .u8 9, .int .i32 1155, .int .i32 1161, .int .u8 9, .int .i32 1424, .int .i32 1424, .int .u8 2, .int .i32 1425, .int .i32 1469, .int .u8 9, .int .i32 1470, .int .i32 1470, .int .u8 2, .int .i32 1471, .int .i32 1471, .int .u8 9, .int .i32 1472, .int .i32 1472, .int .u8 2, .int .i32 1473, .int .i32 1474, .int .u8 9, .int .i32 1475, .int .i32 1475, .int .u8 2, .int .i32 1476, .int .i32 1477, .int .u8 9, .int .i32 1478, .int .i32 1478, .int .u8 2, .int .i32 1479, .int .i32 1479, .int .u8 9, .int .i32 1480, .int .i32 1535, .int .u8 2, .int .i32 1536, .int .i32 1541, .int .u8 7, .int .i32 1542, .int .i32 1543, .int .u8 14, .int .i32 1544, .int .i32 1544, .int .u8 3, .int .i32 1545, .int .i32 1546, .int .u8 6, .int .i32 1547, .int .i32 1547, .int .u8 3, .int .i32 1548, .int .i32 1548, .int .u8 8, .int .i32 1549, .int .i32 1549, .int .u8 3, .int .i32 1550, .int .i32 1551, .int .u8 14, .int .i32 1552, .int .i32 1562, .int .u8 9, .int .i32 1563, .int .i32 1610, .int .u8 3, .int .i32 1611, .int .i32 1631, .int .u8 9, .int .i32 1632, .int .i32 1641, .int .u8 7, .int .i32 1642, .int .i32 1642, .int .u8 6, .int .i32 1643, .int .i32 1644, .int .u8 7, .int .i32 1645, .int .i32 1647, .int .u8 3, .int .i32 1648, .int .i32 1648, .int .u8 9, .int .i32 1649, .int .i32 1749, .int .u8 3, .int .i32 1750, .int .i32 1756, .int .u8 9, .int .i32 1757, .int .i32 1757, .int .u8 7, .int .i32 1758, .int .i32 1758, .int .u8 14, .int .i32 1759, .int .i32 1764, .int .u8 9, .int .i32 1765, .int .i32 1766, .int .u8 3, .int .i32 1767, .int .i32 1768, .int .u8 9, .int .i32 1769, .int .i32 1769, .int .u8 14, .int .i32 1770, .int .i32 1773, .int .u8 9, .int .i32 1774, .int .i32 1775, .int .u8 3, .int .i32 1776, .int .i32 1785, .int .u8 4, .int .i32 1786, .int .i32 1808, .int .u8 3, .int .i32 1809, .int .i32 1809, .int .u8 9, .int .i32 1810, .int .i32 1839, .int .u8 3, .int .i32 1840, .int .i32 1866, .int .u8 9, .int .i32 1867, .int .i32 1957, .int .u8 3, .int .i32 1958, .int .i32 1968, .int .u8 9, .int .i32 1969, .int .i32 1983, .int .u8 3, .int .i32 8192, .int .i32 8202, .int .u8 13, .int .i32 8203, .int .i32 8205, .int .u8 10, .int .i32 8207, .int .i32 8207, .int .u8 2, .int .i32 8208, .int .i32 8231, .int .u8 14, .int .i32 8232, .int .i32 8232, .int .u8 13, .int .i32 8233, .int .i32 8233, .int .u8 11, .int .i32 8234, .int .i32 8234, .int .u8 15, .int .i32 8235, .int .i32 8235, .int .u8 16, .int .i32 8236, .int .i32 8236, .int .u8 19, .int .i32 8237, .int .i32 8237, .int .u8 17, .int .i32 8238, .int .i32 8238, .int .u8 18, .int .i32 8239, .int .i32 8239, .int .u8 8, .int .i32 8240, .int .i32 8244, .int .u8 6, .int .i32 8245, .int .i32 8259, .int .u8 14, .int .i32 8260, .int .i32 8260, .int .u8 8, .int .i32 8261, .int .i32 8286, .int .u8 14, .int .i32 8287, .int .i32 8287, .int .u8 13, .int .i32 8288, .int .i32 8293, .int .u8 10, .int .i32 8294, .int .i32 8294, .int .u8 20, .int .i32 8295, .int .i32 8295, .int .u8 21, .int .i32 8296, .int .i32 8296, .int .u8 22, .int .i32 8297, .int .i32 8297, .int .u8 23, .int .i32 8298, .int .i32 8303, .int .u8 10, .int .i32 8304, .int .i32 8304, .int .u8 4, .int .i32 8308, .int .i32 8313, .int .u8 4, .int .i32 8314, .int .i32 8315, .int .u8 5, .int .i32 8316, .int .i32 8318, .int .u8 14, .int .i32 8320, .int .i32 8329, .int .u8 4, .int .i32 8330, .int .i32 8331, .int .u8 5, .int .i32 8332, .int .i32 8334, .int .u8 14, .int .i32 8352, .int .i32 8399, .int .u8 6, .int .i32 8400, .int .i32 8432, .int .u8 9, .int .i32 8592, .int .i32 8721, .int .u8 14, .int .i32 8722, .int .i32 8722, .int .u8 5, .int .i32 8723, .int .i32 8723, .int .u8 6, .int .i32 8724, .int .i32 9013, .int .u8 14, .int .i32 9472, .int .i32 9783, .int .u8 14, .int .i32 10214, .int .i32 10223, .int .u8 14, .int .i32 12288, .int .i32 12288, .int .u8 13, .int .i32 12289, .int .i32 12292, .int .u8 14, .int .i32 12296, .int .i32 12320, .int .u8 14, .int .i32 64285, .int .i32 64285, .int .u8 2, .int .i32 64286, .int .i32 64286, .int .u8 9, .int .i32 64287, .int .i32 64296, .int .u8 2, .int .i32 64297, .int .i32 64297, .int .u8 5, .int .i32 64298, .int .i32 64335, .int .u8 2, .int .i32 64336, .int .i32 64829, .int .u8 3, .int .i32 64830, .int .i32 64831, .int .u8 14, .int .i32 65024, .int .i32 65039, .int .u8 9, .int .i32 65056, .int .i32 65071, .int .u8 9, .int .i32 65136, .int .i32 65276, .int .u8 3, .int .i32 65279, .int .i32 65279, .int .u8 10, .int .i32 65533, .int .i32 65533, .int .u8 14, .int .i32 125184, .int .i32 125251, .int .u8 2, .int .i32 125252, .int .i32 125258, .int .u8 9, .int .i32 125259, .int .i32 125279, .int .u8 2, .int .i32 126464, .int .i32 126703, .int .u8 3, .int .i32 127744, .int .i32 128591, .int .u8 14, .int .i32 917760, .int .i32 917999, .int .u8 9] [(0, 8, 10), (9, 9, 12), (10, 10, 11), (11, 11, 12), (12, 12, 13), (13, 13, 11), (14, 27, 10), (28, 30, 11), (31, 31, 12), (32, 32, 13), (33, 34, 14), (35, 37, 6), (38, 42, 14), (43, 43, 5), (44, 44, 8), (45, 45, 5), (46, 47, 8), (48, 57, 4), (58, 58, 8), (59, 64, 14), (91, 96, 14), (123, 126, 14), (127, 132, 10), (133, 133, 11), (134, 159, 10), (160, 160, 8), (161, 161, 14), (162, 165, 6), (166, 169, 14), (171, 172, 14), (173, 173, 10), (174, 175, 14), (176, 177, 6), (178, 179, 4), (180, 180, 14), (182, 184, 14), (185, 185, 4), (187, 191, 14), (215, 215, 14), (247, 247, 14), (768, 879, 9), (1155, 1161, 9), (1424, 1424, 2), (1425, 1469, 9), (1470, 1470, 2), (1471, 1471, 9), (1472, 1472, 2), (1473, 1474, 9), (1475, 1475, 2), (1476, 1477, 9), (1478, 1478, 2), (1479, 1479, 9), (1480, 1535, 2), (1536, 1541, 7), (1542, 1543, 14), (1544, 1544, 3), (1545, 1546, 6), (1547, 1547, 3), (1548, 1548, 8), (1549, 1549, 3), (1550, 1551, 14), (1552, 1562, 9), (1563, 1610, 3), (1611, 1631, 9), (1632, 1641, 7), (1642, 1642, 6), (1643, 1644, 7), (1645, 1647, 3), (1648, 1648, 9), (1649, 1749, 3), (1750, 1756, 9), (1757, 1757, 7), (1758, 1758, 14), (1759, 1764, 9), (1765, 1766, 3), (1767, 1768, 9), (1769, 1769, 14), (1770, 1773, 9), (1774, 1775, 3), (1776, 1785, 4), (1786, 1808, 3), (1809, 1809, 9), (1810, 1839, 3), (1840, 1866, 9), (1867, 1957, 3), (1958, 1968, 9), (1969, 1983, 3), (8192, 8202, 13), (8203, 8205, 10), (8207, 8207, 2), (8208, 8231, 14), (8232, 8232, 13), (8233, 8233, 11), (8234, 8234, 15), (8235, 8235, 16), (8236, 8236, 19), (8237, 8237, 17), (8238, 8238, 18), (8239, 8239, 8), (8240, 8244, 6), (8245, 8259, 14), (8260, 8260, 8), (8261, 8286, 14), (8287, 8287, 13), (8288, 8293, 10), (8294, 8294, 20), (8295, 8295, 21), (8296, 8296, 22), (8297, 8297, 23), (8298, 8303, 10), (8304, 8304, 4), (8308, 8313, 4), (8314, 8315, 5), (8316, 8318, 14), (8320, 8329, 4), (8330, 8331, 5), (8332, 8334, 14), (8352, 8399, 6), (8400, 8432, 9), (8592, 8721, 14), (8722, 8722, 5), (8723, 8723, 6), (8724, 9013, 14), (9472, 9783, 14), (10214, 10223, 14), (12288, 12288, 13), (12289, 12292, 14), (12296, 12320, 14), (64285, 64285, 2), (64286, 64286, 9), (64287, 64296, 2), (64297, 64297, 5), (64298, 64335, 2), (64336, 64829, 3), (64830, 64831, 14), (65024, 65039, 9), (65056, 65071, 9), (65136, 65276, 3), (65279, 65279, 10), (65533, 65533, 14), (125184, 125251, 2), (125252, 125258, 9), (125259, 125279, 2), (126464, 126703, 3), (127744, 128591, 14), (917760, 917999, 9)] hS0 rfl hf5 (by decide) (by kernel_rfl)) ?_
 rintro _ w6 ⟨rfl, hS7⟩
 have hS7 : St _ _ w6 [poolE ([]) w0, rowG 101 3 (.slice (some ⟨w0.heap.size, 0, none⟩) 146 146) 146 ([.int .i32 0, .int .i32 8, .int .u8 10, .int .i32 9, .int .i32 9, .int .u8 12, .int .i32 10, .int .i32 10, .int .u8 11, .int .i32 11, .int .i32 11, .int .u8 12, .int .i32 12, .int .i32 12, .int .u8 13, .int .i32 13, .int .i32 13, .int .u8 11, .int .i32 14, .int .i32 27, .int .u8 10, .int .i32 28, .int .i32 30, .int .u8 11, .int .i32 31, .int .i32 31, .int .u8 12, .int .i32 32, .int .i32 32, .int .u8 13, .int .i32 33, .int .i32 34, .int .u8 14, .int .i32 35, .int .i32 37, .int .u8 6, .int .i32 38, .int .i32 42, .int .u8 14, .int .i32 43, .int .i32 43, .int .u8 5, .int .i32 44, .int .i32 44, .int .u8 8, .int .i32 45, .int .i32 45, .int .u8 5, .int .i32 46, .int .i32 47, .int .u8 8, .int .i32 48, .int .i32 57, .int .u8 4, .int .i32 58, .int .i32 58, .int .u8 8, .int .i32 59, .int .i32 64, .int .u8 14, .int .i32 91, .int .i32 96, .int .u8 14, .int .i32 123, .int .i32 126, .int .u8 14, .int .i32 127, .int .i32 132, .int .u8 10, .int .i32 133, .int .i32 133, .int .u8 11, .int .i32 134, .int .i32 159, .int .u8 10, .int .i32 160, .int .i32 160, .int .u8 8, .int .i32 161, .int .i32 161, .int .u8 14, .int .i32 162, .int .i32 165, .int .u8 6, .int .i32 166, .int .i32 169, .int .u8 14, .int .i32 171, .int .i32 172, .int .u8 14, .int .i32 173, .int .i32 173, .int .u8 10, .int .i32 174, .int .i32 175, .int .u8 14, .int .i32 176, .int .i32 177, .int .u8 6, .int .i32 178, .int .i32 179, .int .u8 4, .int .i32 180, .int .i32 180, .int .u8 14, .int .i32 182, .int .i32 184, .int .u8 14, .int .i32 185, .int .i32 185, .int .u8 4, .int .i32 187, .int .i32 191, .int .u8 14, .int .i32 215, .int .i32 215, .int .u8 14, .int .i32 247, .int .i32 247, .int .u8 14, .int .i32 768, .int .i32 879, .int .u8 9, .int .i32 1155, .int .i32 1161, .int .u8 9, .int .i32 1424, .int .i32 1424, .int .u8 2, .int .i32 1425, .int .i32 1469, .int .u8 9, .int .i32 1470, .int .i32 1470, .int .u8 2, .int .i32 1471, .int .i32 1471, .int .u8 9, .int .i32 1472, .int .i32 1472, .int .u8 2, .int .i32 1473, .int .i32 1474, .int .u8 9, .int .i32 1475, .int .i32 1475, .int .u8 2, .int .i32 1476, .int .i32 1477, .int .u8 9, .int .i32 1478, .int .i32 1478, .int .u8 2, .int .i32 1479, .int .i32 1479, .int .u8 9, .int .i32 1480, .int .i32 1535, .int .u8 2, .int .i32 1536, .int .i32 1541, .int .u8 7, .int .i32 1542, .int .i32 1543, .int .u8 14, .int .i32 1544, .int .i32 1544, .int .u8 3, .int .i32 1545, .int .i32 1546, .int .u8 6, .int .i32 1547, .int .i32 1547, .int .u8 3, .int .i32 1548, .int .i32 1548, .int .u8 8, .int .i32 1549, .int .i32 1549, .int .u8 3, .int .i32 1550, .int .i32 1551, .int .u8 14, .int .i32 1552, .int .i32 1562, .int .u8 9, .int .i32 1563, .int .i32 1610, .int .u8 3, .int .i32 1611, .int .i32 1631, .int .u8 9, .int .i32 1632, .int .i32 1641, .int .u8 7, .int .i32 1642, .int .i32 1642, .int .u8 6, .int .i32 1643, .int .i32 1644, .int .u8 7, .int .i32 1645, .int .i32 1647, .int .u8 3, .int .i32 1648, .int .i32 1648, .int .u8 9, .int .i32 1649, .int .i32 1749, .int .u8 3, .int .i32 1750, .int .i32 1756, .int .u8 9, .int .i32 1757, .int .i32 1757, .int .u8 7, .int .i32 1758, .int .i32 1758, .int .u8 14, .int .i32 1759, .int .i32 1764, .int .u8 9, .int .i32 1765, .int .i32 1766, .int .u8 3, .int .i32 1767, .int .i32 1768, .int .u8 9, .int .i32 1769, .int .i32 1769, .int .u8 14, .int .i32 1770, .int .i32 1773, .int .u8 9, .int .i32 1774, .int .i32 1775, .int .u8 3, .int .i32 1776, .int .i32 1785, .int .u8 4, .int .i32 1786, .int .i32 1808, .int .u8 3, .int .i32 1809, .int .i32 1809, .int .u8 9, .int .i32 1810, .int .i32 1839, .int .u8 3, .int .i32 1840, .int .i32 1866, .int .u8 9, .int .i32 1867, .int .i32 1957, .int .u8 3, .int .i32 1958, .int .i32 1968, .int .u8 9, .int .i32 1969, .int .i32 1983, .int .u8 3, .int .i32 8192, .int .i32 8202, .int .u8 13, .int .i32 8203, .int .i32 8205, .int .u8 10, .int .i32 8207, .int .i32 8207, .int .u8 2, .int .i32 8208, .int .i32 8231, .int .u8 14, .int .i32 8232, .int .i32 8232, .int .u8 13, .int .i32 8233, .int .i32 8233, .int .u8 11, .int .i32 8234, .int .i32 8234, .int .u8 15, .int .i32 8235, .int .i32 8235, .int .u8 16, .int .i32 8236, .int .i32 8236, .int .u8 19, .int .i32 8237, .int .i32 8237, .int .u8 17, .int .i32 8238, .int .i32 8238, .int .u8 18, .int .i32 8239, .int .i32 8239, .int .u8 8, .int .i32 8240, .int .i32 8244, .int .u8 6, .int .i32 8245, .int .i32 8259, .int .u8 14, .int .i32 8260, .int .i32 8260, .int .u8 8, .int .i32 8261, .int .i32 8286, .int .u8 14, .int .i32 8287, .int .i32 8287, .int .u8 13, .int .i32 8288, .int .i32 8293, .int .u8 10, .int .i32 8294, .int .i32 8294, .int .u8 20, .int .i32 8295, .int .i32 8295, .int .u8 21, .int .i32 8296, .int .i32 8296, .int .u8 22, .int .i32 8297, .int .i32 8297, .int .u8 23, .int .i32 8298, .int .i32 8303, .int .u8 10, .int .i32 8304, .int .i32 8304, .int .u8 4, .int .i32 8308, .int .i32 8313, .int .u8 4, .int .i32 8314, .int .i32 8315, .int .u8 5, .int .i32 8316, .int .i32 8318, .int .u8 14, .int .i32 8320, .int .i32 8329, .int .u8 4, .int .i32 8330, .int .i32 8331, .int .u8 5, .int .i32 8332, .int .i32 8334, .int .u8 14, .int .i32 8352, .int .i32 8399, .int .u8 6, .int .i32 8400, .int .i32 8432, .int .u8 9, .int .i32 8592, .int .i32 8721, .int .u8 14, .int .i32 8722, .int .i32 8722, .int .u8 5, .int .i32 8723, .int .i32 8723, .int .u8 6, .int .i32 8724, .int .i32 9013, .int .u8 14, .int .i32 9472, .int .i32 9783, .int .u8 14, .int .i32 10214, .int .i32 10223, .int .u8 14, .int .i32 12288, .int .i32 12288, .int .u8 13, .int .i32 12289, .int .i32 12292, .int .u8 14, .int .i32 12296, .int .i32 12320, .int .u8 14, .int .i32 64285, .int .i32 64285, .int .u8 2, .int .i32 64286, .int .i32 64286, .int .u8 9, .int .i32 64287, .int .i32 64296, .int .u8 2, .int .i32 64297, .int .i32 64297, .int .u8 5, .int .i32 64298, .int .i32 64335, .int .u8 2, .int .i32 64336, .int .i32 64829, .int .u8 3, .int .i32 64830, .int .i32 64831, .int .u8 14, .int .i32 65024, .int .i32 65039, .int .u8 9, .int .i32 65056, .int .i32 65071, .int .u8 9, .int .i32 65136, .int .i32 65276, .int .u8 3, .int .i32 65279, .int .i32 65279, .int .u8 10, .int .i32 65533, .int .i32 65533, .int .u8 14, .int .i32 125184, .int .i32 125251, .int .u8 2, .int .i32 125252, .int .i32 125258, .int .u8 9, .int .i32 125259, .int .i32 125279, .int .u8 2, .int .i32 126464, .int .i32 126703, .int .u8 3, .int .i32 127744, .int .i32 128591, .int .u8 14, .int .i32 917760, .int .i32 917999, .int .u8 9])] := hS7
 refine gx_k (.slice (some ⟨w0.heap.size, 0, none⟩) 146 146) w6 ?_
 refine gx_nil ?_
 refine gx_thenN ?_
 refine hK4 _ _ ?_
 refine gx_ret ?_
 have hS8 : St _ _ w6 [poolE ([]) w0, rowG 101 3 (.slice (some ⟨w0.heap.size, 0, none⟩) ((([(0, 8, 10), (9, 9, 12), (10, 10, 11), (11, 11, 12), (12, 12, 13), (13, 13, 11), (14, 27, 10), (28, 30, 11), (31, 31, 12), (32, 32, 13), (33, 34, 14), (35, 37, 6), (38, 42, 14), (43, 43, 5), (44, 44, 8), (45, 45, 5), (46, 47, 8), (48, 57, 4), (58, 58, 8), (59, 64, 14), (91, 96, 14), (123, 126, 14), (127, 132, 10), (133, 133, 11), (134, 159, 10), (160, 160, 8), (161, 161, 14), (162, 165, 6), (166, 169, 14), (171, 172, 14), (173, 173, 10), (174, 175, 14), (176, 177, 6), (178, 179, 4), (180, 180, 14), (182, 184, 14), (185, 185, 4), (187, 191, 14), (215, 215, 14), (247, 247, 14), (768, 879, 9), (1155, 1161, 9), (1424, 1424, 2), (1425, 1469, 9), (1470, 1470, 2), (1471, 1471, 9), (1472, 1472, 2), (1473, 1474, 9), (1475, 1475, 2), (1476, 1477, 9), (1478, 1478, 2), (1479, 1479, 9), (1480, 1535, 2), (1536, 1541, 7), (1542, 1543, 14), (1544, 1544, 3), (1545, 1546, 6), (1547, 1547, 3), (1548, 1548, 8), (1549, 1549, 3), (1550, 1551, 14), (1552, 1562, 9), (1563, 1610, 3), (1611, 1631, 9), (1632, 1641, 7), (1642, 1642, 6), (1643, 1644, 7), (1645, 1647, 3), (1648, 1648, 9), (1649, 1749, 3), (1750, 1756, 9), (1757, 1757, 7), (1758, 1758, 14), (1759, 1764, 9), (1765, 1766, 3), (1767, 1768, 9), (1769, 1769, 14), (1770, 1773, 9), (1774, 1775, 3), (1776, 1785, 4), (1786, 1808, 3), (1809, 1809, 9), (1810, 1839, 3), (1840, 1866, 9), (1867, 1957, 3), (1958, 1968, 9), (1969, 1983, 3), (8192, 8202, 13), (8203, 8205, 10), (8207, 8207, 2), (8208, 8231, 14), (8232, 8232, 13), (8233, 8233, 11), (8234, 8234, 15), (8235, 8235, 16), (8236, 8236, 19), (8237, 8237, 17), (8238, 8238, 18), (8239, 8239, 8), (8240, 8244, 6), (8245, 8259, 14), (8260, 8260, 8), (8261, 8286, 14), (8287, 8287, 13), (8288, 8293, 10), (8294, 8294, 20), (8295, 8295, 21), (8296, 8296, 22), (8297, 8297, 23), (8298, 8303, 10), (8304, 8304, 4), (8308, 8313, 4), (8314, 8315, 5), (8316, 8318, 14), (8320, 8329, 4), (8330, 8331, 5), (8332, 8334, 14), (8352, 8399, 6), (8400, 8432, 9), (8592, 8721, 14), (8722, 8722, 5), (8723, 8723, 6), (8724, 9013, 14), (9472, 9783, 14), (10214, 10223, 14), (12288, 12288, 13), (12289, 12292, 14), (12296, 12320, 14), (64285, 64285, 2), (64286, 64286, 9), (64287, 64296, 2), (64297, 64297, 5), (64298, 64335, 2), (64336, 64829, 3), (64830, 64831, 14), (65024, 65039, 9), (65056, 65071, 9), (65136, 65276, 3), (65279, 65279, 10), (65533, 65533, 14), (125184, 125251, 2), (125252, 125258, 9), (125259, 125279, 2), (126464, 126703, 3), (127744, 128591, 14), (917760, 917999, 9)] : List (Int × Int × Int))).length) 146) ((([(0, 8, 10), (9, 9, 12), (10, 10, 11), (11, 11, 12), (12, 12, 13), (13, 13, 11), (14, 27, 10), (28, 30, 11), (31, 31, 12), (32, 32, 13), (33, 34, 14), (35, 37, 6), (38, 42, 14), (43, 43, 5), (44, 44, 8), (45, 45, 5), (46, 47, 8), (48, 57, 4), (58, 58, 8), (59, 64, 14), (91, 96, 14), (123, 126, 14), (127, 132, 10), (133, 133, 11), (134, 159, 10), (160, 160, 8), (161, 161, 14), (162, 165, 6), (166, 169, 14), (171, 172, 14), (173, 173, 10), (174, 175, 14), (176, 177, 6), (178, 179, 4), (180, 180, 14), (182, 184, 14), (185, 185, 4), (187, 191, 14), (215, 215, 14), (247, 247, 14), (768, 879, 9), (1155, 1161, 9), (1424, 1424, 2), (1425, 1469, 9), (1470, 1470, 2), (1471, 1471, 9), (1472, 1472, 2), (1473, 1474, 9), (1475, 1475, 2), (1476, 1477, 9), (1478, 1478, 2), (1479, 1479, 9), (1480, 1535, 2), (1536, 1541, 7), (1542, 1543, 14), (1544, 1544, 3), (1545, 1546, 6), (1547, 1547, 3), (1548, 1548, 8), (1549, 1549, 3), (1550, 1551, 14), (1552, 1562, 9), (1563, 1610, 3), (1611, 1631, 9), (1632, 1641, 7), (1642, 1642, 6), (1643, 1644, 7), (1645, 1647, 3), (1648, 1648, 9), (1649, 1749, 3), (1750, 1756, 9), (1757, 1757, 7), (1758, 1758, 14), (1759, 1764, 9), (1765, 1766, 3), (1767, 1768, 9), (1769, 1769, 14), (1770, 1773, 9), (1774, 1775, 3), (1776, 1785, 4), (1786, 1808, 3), (1809, 1809, 9), (1810, 1839, 3), (1840, 1866, 9), (1867, 1957, 3), (1958, 1968, 9), (1969, 1983, 3), (8192, 8202, 13), (8203, 8205, 10), (8207, 8207, 2), (8208, 8231, 14), (8232, 8232, 13), (8233, 8233, 11), (8234, 8234, 15), (8235, 8235, 16), (8236, 8236, 19), (8237, 8237, 17), (8238, 8238, 18), (8239, 8239, 8), (8240, 8244, 6), (8245, 8259, 14), (8260, 8260, 8), (8261, 8286, 14), (8287, 8287, 13), (8288, 8293, 10), (8294, 8294, 20), (8295, 8295, 21), (8296, 8296, 22), (8297, 8297, 23), (8298, 8303, 10), (8304, 8304, 4), (8308, 8313, 4), (8314, 8315, 5), (8316, 8318, 14), (8320, 8329, 4), (8330, 8331, 5), (8332, 8334, 14), (8352, 8399, 6), (8400, 8432, 9), (8592, 8721, 14), (8722, 8722, 5), (8723, 8723, 6), (8724, 9013, 14), (9472, 9783, 14), (10214, 10223, 14), (12288, 12288, 13), (12289, 12292, 14), (12296, 12320, 14), (64285, 64285, 2), (64286, 64286, 9), (64287, 64296, 2), (64297, 64297, 5), (64298, 64335, 2), (64336, 64829, 3), (64830, 64831, 14), (65024, 65039, 9), (65056, 65071, 9), (65136, 65276, 3), (65279, 65279, 10), (65533, 65533, 14), (125184, 125251, 2), (125252, 125258, 9), (125259, 125279, 2), (126464, 126703, 3), (127744, 128591, 14), (917760, 917999, 9)] : List (Int × Int × Int))).length) ([.int .i32 0, .int .i32 8, .int .u8 10, .int .i32 9, .int .i32 9, .int .u8 12, .int .i32 10, .int .i32 10, .int .u8 11, .int .i32 11, .int .i32 11, .int .u8 12, .int .i32 12, .int .i32 12, .int .u8 13, .int .i32 13, .int .i32 13, .int .u8 11, .int .i32 14, .int .i32 27, .int .u8 10, .int .i32 28, .int .i32 30, .int .u8 11, .int .i32 31, .int .i32 31, .int .u8 12, .int .i32 32, .int .i32 32, .int .u8 13, .int .i32 33, .int .i32 34, .int .u8 14, .int .i32 35, .int .i32 37, .int .u8 6, .int .i32 38, .int .i32 42, .int .u8 14, .int .i32 43, .int .i32 43, .int .u8 5, .int .i32 44, .int .i32 44, .int .u8 8, .int .i32 45, .int .i32 45, .int .u8 5, .int .i32 46, .int .i32 47, .int .u8 8, .int .i32 48, .int .i32 57, .int .u8 4, .int .i32 58, .int .i32 58, .int .u8 8, .int .i32 59, .int .i32 64, .int .u8 14, .int .i32 91, .int .i32 96, .int .u8 14, .int .i32 123, .int .i32 126, .int .u8 14, .int .i32 127, .int .i32 132, .int .u8 10, .int .i32 133, .int .i32 133, .int .u8 11, .int .i32 134, .int .i32 159, .int .u8 10, .int .i32 160, .int .i32 160, .int .u8 8, .int .i32 161, .int .i32 161, .int .u8 14, .int .i32 162, .int .i32 165, .int .u8 6, .int .i32 166, .int .i32 169, .int .u8 14, .int .i32 171, .int .i32 172, .int .u8 14, .int .i32 173, .int .i32 173, .int .u8 10, .int .i32 174, .int .i32 175, .int .u8 14, .int .i32 176, .int .i32 177, .int .u8 6, .int .i32 178, .int .i32 179, .int .u8 4, .int .i32 180, .int .i32 180, .int .u8 14, .int .i32 182, .int .i32 184, .int .u8 14, .int .i32 185, .int .i32 185, .int .u8 4, .int .i32 187, .int .i32 191, .int .u8 14, .int .i32 215, .int .i32 215, .int .u8 14, .int .i32 247, .int .i32 247, .int .u8 14, .int .i32 768, .int .i32 879, .int .u8 9, .int .i32 1155, .int .i32 1161, .int .u8 9, .int .i32 1424, .int .i32 1424, .int .u8 2, .int .i32 1425, .int .i32 1469, .int .u8 9, .int .i32 1470, .int .i32 1470, .int .u8 2, .int .i32 1471, .int .i32 1471, .int .u8 9, .int .i32 1472, .int .i32 1472, .int .u8 2, .int .i32 1473, .int .i32 1474, .int .u8 9, .int .i32 1475, .int .i32 1475, .int .u8 2, .int .i32 1476, .int .i32 1477, .int .u8 9, .int .i32 1478, .int .i32 1478, .int .u8 2, .int .i32 1479, .int .i32 1479, .int .u8 9, .int .i32 1480, .int .i32 1535, .int .u8 2, .int .i32 1536, .int .i32 1541, .int .u8 7, .int .i32 1542, .int .i32 1543, .int .u8 14, .int .i32 1544, .int .i32 1544, .int .u8 3, .int .i32 1545, .int .i32 1546, .int .u8 6, .int .i32 1547, .int .i32 1547, .int .u8 3, .int .i32 1548, .int .i32 1548, .int .u8 8, .int .i32 1549, .int .i32 1549, .int .u8 3, .int .i32 1550, .int .i32 1551, .int .u8 14, .int .i32 1552, .int .i32 1562, .int .u8 9, .int .i32 1563, .int .i32 1610, .int .u8 3, .int .i32 1611, .int .i32 1631, .int .u8 9, .int .i32 1632, .int .i32 1641, .int .u8 7, .int .i32 1642, .int .i32 1642, .int .u8 6, .int .i32 1643, .int .i32 1644, .int .u8 7, .int .i32 1645, .int .i32 1647, .int .u8 3, .int .i32 1648, .int .i32 1648, .int .u8 9, .int .i32 1649, .int .i32 1749, .int .u8 3, .int .i32 1750, .int .i32 1756, .int .u8 9, .int .i32 1757, .int .i32 1757, .int .u8 7, .int .i32 1758, .int .i32 1758, .int .u8 14, .int .i32 1759, .int .i32 1764, .int .u8 9, .int .i32 1765, .int .i32 1766, .int .u8 3, .int .i32 1767, .int .i32 1768, .int .u8 9, .int .i32 1769, .int .i32 1769, .int .u8 14, .int .i32 1770, .int .i32 1773, .int .u8 9, .int .i32 1774, .int .i32 1775, .int .u8 3, .int .i32 1776, .int .i32 1785, .int .u8 4, .int .i32 1786, .int .i32 1808, .int .u8 3, .int .i32 1809, .int .i32 1809, .int .u8 9, .int .i32 1810, .int .i32 1839, .int .u8 3, .int .i32 1840, .int .i32 1866, .int .u8 9, .int .i32 1867, .int .i32 1957, .int .u8 3, .int .i32 1958, .int .i32 1968, .int .u8 9, .int .i32 1969, .int .i32 1983, .int .u8 3, .int .i32 8192, .int .i32 8202, .int .u8 13, .int .i32 8203, .int .i32 8205, .int .u8 10, .int .i32 8207, .int .i32 8207, .int .u8 2, .int .i32 8208, .int .i32 8231, .int .u8 14, .int .i32 8232, .int .i32 8232, .int .u8 13, .int .i32 8233, .int .i32 8233, .int .u8 11, .int .i32 8234, .int .i32 8234, .int .u8 15, .int .i32 8235, .int .i32 8235, .int .u8 16, .int .i32 8236, .int .i32 8236, .int .u8 19, .int .i32 8237, .int .i32 8237, .int .u8 17, .int .i32 8238, .int .i32 8238, .int .u8 18, .int .i32 8239, .int .i32 8239, .int .u8 8, .int .i32 8240, .int .i32 8244, .int .u8 6, .int .i32 8245, .int .i32 8259, .int .u8 14, .int .i32 8260, .int .i32 8260, .int .u8 8, .int .i32 8261, .int .i32 8286, .int .u8 14, .int .i32 8287, .int .i32 8287, .int .u8 13, .int .i32 8288, .int .i32 8293, .int .u8 10, .int .i32 8294, .int .i32 8294, .int .u8 20, .int .i32 8295, .int .i32 8295, .int .u8 21, .int .i32 8296, .int .i32 8296, .int .u8 22, .int .i32 8297, .int .i32 8297, .int .u8 23, .int .i32 8298, .int .i32 8303, .int .u8 10, .int .i32 8304, .int .i32 8304, .int .u8 4, .int .i32 8308, .int .i32 8313, .int .u8 4, .int .i32 8314, .int .i32 8315, .int .u8 5, .int .i32 8316, .int .i32 8318, .int .u8 14, .int .i32 8320, .int .i32 8329, .int .u8 4, .int .i32 8330, .int .i32 8331, .int .u8 5, .int .i32 8332, .int .i32 8334, .int .u8 14, .int .i32 8352, .int .i32 8399, .int .u8 6, .int .i32 8400, .int .i32 8432, .int .u8 9, .int .i32 8592, .int .i32 8721, .int .u8 14, .int .i32 8722, .int .i32 8722, .int .u8 5, .int .i32 8723, .int .i32 8723, .int .u8 6, .int .i32 8724, .int .i32 9013, .int .u8 14, .int .i32 9472, .int .i32 9783, .int .u8 14, .int .i32 10214, .int .i32 10223, .int .u8 14, .int .i32 12288, .int .i32 12288, .int .u8 13, .int .i32 12289, .int .i32 12292, .int .u8 14, .int .i32 12296, .int .i32 12320, .int .u8 14, .int .i32 64285, .int .i32 64285, .int .u8 2, .int .i32 64286, .int .i32 64286, .int .u8 9, .int .i32 64287, .int .i32 64296, .int .u8 2, .int .i32 64297, .int .i32 64297, .int .u8 5, .int .i32 64298, .int .i32 64335, .int .u8 2, .int .i32 64336, .int .i32 64829, .int .u8 3, .int .i32 64830, .int .i32 64831, .int .u8 14, .int .i32 65024, .int .i32 65039, .int .u8 9, .int .i32 65056, .int .i32 65071, .int .u8 9, .int .i32 65136, .int .i32 65276, .int .u8 3, .int .i32 65279, .int .i32 65279, .int .u8 10, .int .i32 65533, .int .i32 65533, .int .u8 14, .int .i32 125184, .int .i32 125251, .int .u8 2, .int .i32 125252, .int .i32 125258, .int .u8 9, .int .i32 125259, .int .i32 125279, .int .u8 2, .int .i32 126464, .int .i32 126703, .int .u8 3, .int .i32 127744, .int .i32 128591, .int .u8 14, .int .i32 917760, .int .i32 917999, .int .u8 9])] := hS7.len (e := enccalamusref02Range) 1 rfl (show 146 = ([(0, 8, 10), (9, 9, 12), (10, 10, 11), (11, 11, 12), (12, 12, 13), (13, 13, 11), (14, 27, 10), (28, 30, 11), (31, 31, 12), (32, 32, 13), (33, 34, 14), (35, 37, 6), (38, 42, 14), (43, 43, 5), (44, 44, 8), (45, 45, 5), (46, 47, 8), (48, 57, 4), (58, 58, 8), (59, 64, 14), (91, 96, 14), (123, 126, 14), (127, 132, 10), (133, 133, 11), (134, 159, 10), (160, 160, 8), (161, 161, 14), (162, 165, 6), (166, 169, 14), (171, 172, 14), (173, 173, 10), (174, 175, 14), (176, 177, 6), (178, 179, 4), (180, 180, 14), (182, 184, 14), (185, 185, 4), (187, 191, 14), (215, 215, 14), (247, 247, 14), (768, 879, 9), (1155, 1161, 9), (1424, 1424, 2), (1425, 1469, 9), (1470, 1470, 2), (1471, 1471, 9), (1472, 1472, 2), (1473, 1474, 9), (1475, 1475, 2), (1476, 1477, 9), (1478, 1478, 2), (1479, 1479, 9), (1480, 1535, 2), (1536, 1541, 7), (1542, 1543, 14), (1544, 1544, 3), (1545, 1546, 6), (1547, 1547, 3), (1548, 1548, 8), (1549, 1549, 3), (1550, 1551, 14), (1552, 1562, 9), (1563, 1610, 3), (1611, 1631, 9), (1632, 1641, 7), (1642, 1642, 6), (1643, 1644, 7), (1645, 1647, 3), (1648, 1648, 9), (1649, 1749, 3), (1750, 1756, 9), (1757, 1757, 7), (1758, 1758, 14), (1759, 1764, 9), (1765, 1766, 3), (1767, 1768, 9), (1769, 1769, 14), (1770, 1773, 9), (1774, 1775, 3), (1776, 1785, 4), (1786, 1808, 3), (1809, 1809, 9), (1810, 1839, 3), (1840, 1866, 9), (1867, 1957, 3), (1958, 1968, 9), (1969, 1983, 3), (8192, 8202, 13), (8203, 8205, 10), (8207, 8207, 2), (8208, 8231, 14), (8232, 8232, 13), (8233, 8233, 11), (8234, 8234, 15), (8235, 8235, 16), (8236, 8236, 19), (8237, 8237, 17), (8238, 8238, 18), (8239, 8239, 8), (8240, 8244, 6), (8245, 8259, 14), (8260, 8260, 8), (8261, 8286, 14), (8287, 8287, 13), (8288, 8293, 10), (8294, 8294, 20), (8295, 8295, 21), (8296, 8296, 22), (8297, 8297, 23), (8298, 8303, 10), (8304, 8304, 4), (8308, 8313, 4), (8314, 8315, 5), (8316, 8318, 14), (8320, 8329, 4), (8330, 8331, 5), (8332, 8334, 14), (8352, 8399, 6), (8400, 8432, 9), (8592, 8721, 14), (8722, 8722, 5), (8723, 8723, 6), (8724, 9013, 14), (9472, 9783, 14), (10214, 10223, 14), (12288, 12288, 13), (12289, 12292, 14), (12296, 12320, 14), (64285, 64285, 2), (64286, 64286, 9), (64287, 64296, 2), (64297, 64297, 5), (64298, 64335, 2), (64336, 64829, 3), (64830, 64831, 14), (65024, 65039, 9), (65056, 65071, 9), (65136, 65276, 3), (65279, 65279, 10), (65533, 65533, 14), (125184, 125251, 2), (125252, 125258, 9), (125259, 125279, 2), (126464, 126703, 3), (127744, 128591, 14), (917760, 917999, 9)] : List (Int × Int × Int)).length from rfl)
 have hS9 : St _ _ w6 [poolE ([]) w6, rowG 101 3 (.slice (some ⟨w0.heap.size, 0, none⟩) ((([(0, 8, 10), (9, 9, 12), (10, 10, 11), (11, 11, 12), (12, 12, 13), (13, 13, 11), (14, 27, 10), (28, 30, 11), (31, 31, 12), (32, 32, 13), (33, 34, 14), (35, 37, 6), (38, 42, 14), (43, 43, 5), (44, 44, 8), (45, 45, 5), (46, 47, 8), (48, 57, 4), (58, 58, 8), (59, 64, 14), (91, 96, 14), (123, 126, 14), (127, 132, 10), (133, 133, 11), (134, 159, 10), (160, 160, 8), (161, 161, 14), (162, 165, 6), (166, 169, 14), (171, 172, 14), (173, 173, 10), (174, 175, 14), (176, 177, 6), (178, 179, 4), (180, 180, 14), (182, 184, 14), (185, 185, 4), (187, 191, 14), (215, 215, 14), (247, 247, 14), (768, 879, 9), (1155, 1161, 9), (1424, 1424, 2), (1425, 1469, 9), (1470, 1470, 2), (1471, 1471, 9), (1472, 1472, 2), (1473, 1474, 9), (1475, 1475, 2), (1476, 1477, 9), (1478, 1478, 2), (1479, 1479, 9), (1480, 1535, 2), (1536, 1541, 7), (1542, 1543, 14), (1544, 1544, 3), (1545, 1546, 6), (1547, 1547, 3), (1548, 1548, 8), (1549, 1549, 3), (1550, 1551, 14), (1552, 1562, 9), (1563, 1610, 3), (1611, 1631, 9), (1632, 1641, 7), (1642, 1642, 6), (1643, 1644, 7), (1645, 1647, 3), (1648, 1648, 9), (1649, 1749, 3), (1750, 1756, 9), (1757, 1757, 7), (1758, 1758, 14), (1759, 1764, 9), (1765, 1766, 3), (1767, 1768, 9), (1769, 1769, 14), (1770, 1773, 9), (1774, 1775, 3), (1776, 1785, 4), (1786, 1808, 3), (1809, 1809, 9), (1810, 1839, 3), (1840, 1866, 9), (1867, 1957, 3), (1958, 1968, 9), (1969, 1983, 3), (8192, 8202, 13), (8203, 8205, 10), (8207, 8207, 2), (8208, 8231, 14), (8232, 8232, 13), (8233, 8233, 11), (8234, 8234, 15), (8235, 8235, 16), (8236, 8236, 19), (8237, 8237, 17), (8238, 8238, 18), (8239, 8239, 8), (8240, 8244, 6), (8245, 8259, 14), (8260, 8260, 8), (8261, 8286, 14), (8287, 8287, 13), (8288, 8293, 10), (8294, 8294, 20), (8295, 8295, 21), (8296, 8296, 22), (8297, 8297, 23), (8298, 8303, 10), (8304, 8304, 4), (8308, 8313, 4), (8314, 8315, 5), (8316, 8318, 14), (8320, 8329, 4), (8330, 8331, 5), (8332, 8334, 14), (8352, 8399, 6), (8400, 8432, 9), (8592, 8721, 14), (8722, 8722, 5), (8723, 8723, 6), (8724, 9013, 14), (9472, 9783, 14), (10214, 10223, 14), (12288, 12288, 13), (12289, 12292, 14), (12296, 12320, 14), (64285, 64285, 2), (64286, 64286, 9), (64287, 64296, 2), (64297, 64297, 5), (64298, 64335, 2), (64336, 64829, 3), (64830, 64831, 14), (65024, 65039, 9), (65056, 65071, 9), (65136, 65276, 3), (65279, 65279, 10), (65533, 65533, 14), (125184, 125251, 2), (125252, 125258, 9), (125259, 125279, 2), (126464, 126703, 3), (127744, 128591, 14), (917760, 917999, 9)] : List (Int × Int × Int))).length) 146) ((([(0, 8, 10), (9, 9, 12), (10, 10, 11), (11, 11, 12), (12, 12, 13), (13, 13, 11), (14, 27, 10), (28, 30, 11), (31, 31, 12), (32, 32, 13), (33, 34, 14), (35, 37, 6), (38, 42, 14), (43, 43, 5), (44, 44, 8), (45, 45, 5), (46, 47, 8), (48, 57, 4), (58, 58, 8), (59, 64, 14), (91, 96, 14), (123, 126, 14), (127, 132, 10), (133, 133, 11), (134, 159, 10), (160, 160, 8), (161, 161, 14), (162, 165, 6), (166, 169, 14), (171, 172, 14), (173, 173, 10), (174, 175, 14), (176, 177, 6), (178, 179, 4), (180, 180, 14), (182, 184, 14), (185, 185, 4), (187, 191, 14), (215, 215, 14), (247, 247, 14), (768, 879, 9), (1155, 1161, 9), (1424, 1424, 2), (1425, 1469, 9), (1470, 1470, 2), (1471, 1471, 9), (1472, 1472, 2), (1473, 1474, 9), (1475, 1475, 2), (1476, 1477, 9), (1478, 1478, 2), (1479, 1479, 9), (1480, 1535, 2), (1536, 1541, 7), (1542, 1543, 14), (1544, 1544, 3), (1545, 1546, 6), (1547, 1547, 3), (1548, 1548, 8), (1549, 1549, 3), (1550, 1551, 14), (1552, 1562, 9), (1563, 1610, 3), (1611, 1631, 9), (1632, 1641, 7), (1642, 1642, 6), (1643, 1644, 7), (1645, 1647, 3), (1648, 1648, 9), (1649, 1749, 3), (1750, 1756, 9), (1757, 1757, 7), (1758, 1758, 14), (1759, 1764, 9), (1765, 1766, 3), (1767, 1768, 9), (1769, 1769, 14), (1770, 1773, 9), (1774, 1775, 3), (1776, 1785, 4), (1786, 1808, 3), (1809, 1809, 9), (1810, 1839, 3), (1840, 1866, 9), (1867, 1957, 3), (1958, 1968, 9), (1969, 1983, 3), (8192, 8202, 13), (8203, 8205, 10), (8207, 8207, 2), (8208, 8231, 14), (8232, 8232, 13), (8233, 8233, 11), (8234, 8234, 15), (8235, 8235, 16), (8236, 8236, 19), (8237, 8237, 17), (8238, 8238, 18), (8239, 8239, 8), (8240, 8244, 6), (8245, 8259, 14), (8260, 8260, 8), (8261, 8286, 14), (8287, 8287, 13), (8288, 8293, 10), (8294, 8294, 20), (8295, 8295, 21), (8296, 8296, 22), (8297, 8297, 23), (8298, 8303, 10), (8304, 8304, 4), (8308, 8313, 4), (8314, 8315, 5), (8316, 8318, 14), (8320, 8329, 4), (8330, 8331, 5), (8332, 8334, 14), (8352, 8399, 6), (8400, 8432, 9), (8592, 8721, 14), (8722, 8722, 5), (8723, 8723, 6), (8724, 9013, 14), (9472, 9783, 14), (10214, 10223, 14), (12288, 12288, 13), (12289, 12292, 14), (12296, 12320, 14), (64285, 64285, 2), (64286, 64286, 9), (64287, 64296, 2), (64297, 64297, 5), (64298, 64335, 2), (64336, 64829, 3), (64830, 64831, 14), (65024, 65039, 9), (65056, 65071, 9), (65136, 65276, 3), (65279, 65279, 10), (65533, 65533, 14), (125184, 125251, 2), (125252, 125258, 9), (125259, 125279, 2), (126464, 126703, 3), (127744, 128591, 14), (917760, 917999, 9)] : List (Int × Int × Int))).length) ([.int .i32 0, .int .i32 8, .int .u8 10, .int .i32 9, .int .i32 9, .int .u8 12, .int .i32 10, .int .i32 10, .int .u8 11, .int .i32 11, .int .i32 11, .int .u8 12, .int .i32 12, .int .i32 12, .int .u8 13, .int .i32 13, .int .i32 13, .int .u8 11, .int .i32 14, .int .i32 27, .int .u8 10, .int .i32 28, .int .i32 30, .int .u8 11, .int .i32 31, .int .i32 31, .int .u8 12, .int .i32 32, .int .i32 32, .int .u8 13, .int .i32 33, .int .i32 34, .int .u8 14, .int .i32 35, .int .i32 37, .int .u8 6, .int .i32 38, .int .i32 42, .int .u8 14, .int .i32 43, .int .i32 43, .int .u8 5, .int .i32 44, .int .i32 44, .int .u8 8, .int .i32 45, .int .i32 45, .int .u8 5, .int .i32 46, .int .i32 47, .int .u8 8, .int .i32 48, .int .i32 57, .int .u8 4, .int .i32 58, .int .i32 58, .int .u8 8, .int .i32 59, .int .i32 64, .int .u8 14, .int .i32 91, .int .i32 96, .int .u8 14, .int .i32 123, .int .i32 126, .int .u8 14, .int .i32 127, .int .i32 132, .int .u8 10, .int .i32 133, .int .i32 133, .int .u8 11, .int .i32 134, .int .i32 159, .int .u8 10, .int .i32 160, .int .i32 160, .int .u8 8, .int .i32 161, .int .i32 161, .int .u8 14, .int .i32 162, .int .i32 165, .int .u8 6, .int .i32 166, .int .i32 169, .int .u8 14, .int .i32 171, .int .i32 172, .int .u8 14, .int .i32 173, .int .i32 173, .int .u8 10, .int .i32 174, .int .i32 175, .int .u8 14, .int .i32 176, .int .i32 177, .int .u8 6, .int .i32 178, .int .i32 179, .int .u8 4, .int .i32 180, .int .i32 180, .int .u8 14, .int .i32 182, .int .i32 184, .int .u8 14, .int .i32 185, .int .i32 185, .int .u8 4, .int .i32 187, .int .i32 191, .int .u8 14, .int .i32 215, .int .i32 215, .int .u8 14, .int .i32 247, .int .i32 247, .int .u8 14, .int .i32 768, .int .i32 879, .int .u8 9, .int .i32 1155, .int .i32 1161, .int .u8 9, .int .i32 1424, .int .i32 1424, .int .u8 2, .int .i32 1425, .int .i32 1469, .int .u8 9, .int .i32 1470, .int .i32 1470, .int .u8 2, .int .i32 1471, .int .i32 1471, .int .u8 9, .int .i32 1472, .int .i32 1472, .int .u8 2, .int .i32 1473, .int .i32 1474, .int .u8 9, .int .i32 1475, .int .i32 1475, .int .u8 2, .int .i32 1476, .int .i32 1477, .int .u8 9, .int .i32 1478, .int .i32 1478, .int .u8 2, .int .i32 1479, .int .i32 1479, .int .u8 9, .int .i32 1480, .int .i32 1535, .int .u8 2, .int .i32 1536, .int .i32 1541, .int .u8 7, .int .i32 1542, .int .i32 1543, .int .u8 14, .int .i32 1544, .int .i32 1544, .int .u8 3, .int .i32 1545, .int .i32 1546, .int .u8 6, .int .i32 1547, .int .i32 1547, .int .u8 3, .int .i32 1548, .int .i32 1548, .int .u8 8, .int .i32 1549, .int .i32 1549, .int .u8 3, .int .i32 1550, .int .i32 1551, .int .u8 14, .int .i32 1552, .int .i32 1562, .int .u8 9, .int .i32 1563, .int .i32 1610, .int .u8 3, .int .i32 1611, .int .i32 1631, .int .u8 9, .int .i32 1632, .int .i32 1641, .int .u8 7, .int .i32 1642, .int .i32 1642, .int .u8 6, .int .i32 1643, .int .i32 1644, .int .u8 7, .int .i32 1645, .int .i32 1647, .int .u8 3, .int .i32 1648, .int .i32 1648, .int .u8 9, .int .i32 1649, .int .i32 1749, .int .u8 3, .int .i32 1750, .int .i32 1756, .int .u8 9, .int .i32 1757, .int .i32 1757, .int .u8 7, .int .i32 1758, .int .i32 1758, .int .u8 14, .int .i32 1759, .int .i32 1764, .int .u8 9, .int .i32 1765, .int .i32 1766, .int .u8 3, .int .i32 1767, .int .i32 1768, .int .u8 9, .int .i32 1769, .int .i32 1769, .int .u8 14, .int .i32 1770, .int .i32 1773, .int .u8 9, .int .i32 1774, .int .i32 1775, .int .u8 3, .int .i32 1776, .int .i32 1785, .int .u8 4, .int .i32 1786, .int .i32 1808, .int .u8 3, .int .i32 1809, .int .i32 1809, .int .u8 9, .int .i32 1810, .int .i32 1839, .int .u8 3, .int .i32 1840, .int .i32 1866, .int .u8 9, .int .i32 1867, .int .i32 1957, .int .u8 3, .int .i32 1958, .int .i32 1968, .int .u8 9, .int .i32 1969, .int .i32 1983, .int .u8 3, .int .i32 8192, .int .i32 8202, .int .u8 13, .int .i32 8203, .int .i32 8205, .int .u8 10, .int .i32 8207, .int .i32 8207, .int .u8 2, .int .i32 8208, .int .i32 8231, .int .u8 14, .int .i32 8232, .int .i32 8232, .int .u8 13, .int .i32 8233, .int .i32 8233, .int .u8 11, .int .i32 8234, .int .i32 8234, .int .u8 15, .int .i32 8235, .int .i32 8235, .int .u8 16, .int .i32 8236, .int .i32 8236, .int .u8 19, .int .i32 8237, .int .i32 8237, .int .u8 17, .int .i32 8238, .int .i32 8238, .int .u8 18, .int .i32 8239, .int .i32 8239, .int .u8 8, .int .i32 8240, .int .i32 8244, .int .u8 6, .int .i32 8245, .int .i32 8259, .int .u8 14, .int .i32 8260, .int .i32 8260, .int .u8 8, .int .i32 8261, .int .i32 8286, .int .u8 14, .int .i32 8287, .int .i32 8287, .int .u8 13, .int .i32 8288, .int .i32 8293, .int .u8 10, .int .i32 8294, .int .i32 8294, .int .u8 20, .int .i32 8295, .int .i32 8295, .int .u8 21, .int .i32 8296, .int .i32 8296, .int .u8 22, .int .i32 8297, .int .i32 8297, .int .u8 23, .int .i32 8298, .int .i32 8303, .int .u8 10, .int .i32 8304, .int .i32 8304, .int .u8 4, .int .i32 8308, .int .i32 8313, .int .u8 4, .int .i32 8314, .int .i32 8315, .int .u8 5, .int .i32 8316, .int .i32 8318, .int .u8 14, .int .i32 8320, .int .i32 8329, .int .u8 4, .int .i32 8330, .int .i32 8331, .int .u8 5, .int .i32 8332, .int .i32 8334, .int .u8 14, .int .i32 8352, .int .i32 8399, .int .u8 6, .int .i32 8400, .int .i32 8432, .int .u8 9, .int .i32 8592, .int .i32 8721, .int .u8 14, .int .i32 8722, .int .i32 8722, .int .u8 5, .int .i32 8723, .int .i32 8723, .int .u8 6, .int .i32 8724, .int .i32 9013, .int .u8 14, .int .i32 9472, .int .i32 9783, .int .u8 14, .int .i32 10214, .int .i32 10223, .int .u8 14, .int .i32 12288, .int .i32 12288, .int .u8 13, .int .i32 12289, .int .i32 12292, .int .u8 14, .int .i32 12296, .int .i32 12320, .int .u8 14, .int .i32 64285, .int .i32 64285, .int .u8 2, .int .i32 64286, .int .i32 64286, .int .u8 9, .int .i32 64287, .int .i32 64296, .int .u8 2, .int .i32 64297, .int .i32 64297, .int .u8 5, .int .i32 64298, .int .i32 64335, .int .u8 2, .int .i32 64336, .int .i32 64829, .int .u8 3, .int .i32 64830, .int .i32 64831, .int .u8 14, .int .i32 65024, .int .i32 65039, .int .u8 9, .int .i32 65056, .int .i32 65071, .int .u8 9, .int .i32 65136, .int .i32 65276, .int .u8 3, .int .i32 65279, .int .i32 65279, .int .u8 10, .int .i32 65533, .int .i32 65533, .int .u8 14, .int .i32 125184, .int .i32 125251, .int .u8 2, .int .i32 125252, .int .i32 125258, .int .u8 9, .int .i32 125259, .int .i32 125279, .int .u8 2, .int .i32 126464, .int .i32 126703, .int .u8 3, .int .i32 127744, .int .i32 128591, .int .u8 14, .int .i32 917760, .int .i32 917999, .int .u8 9])] := hS8.renew 0 rfl
 obtain rfl := Option.some.inj hF
 exact gx_fin (.slice (some ⟨w0.heap.size, 0, none⟩) 146 146) (by kernel_rfl) (by kernel_rfl) ⟨_, rfl, (some ⟨w0.heap.size, 0, none⟩), 146, ([.int .i32 0, .int .i32 8, .int .u8 10, .int .i32 9, .int .i32 9, .int .u8 12, .int .i32 10, .int .i32 10, .int .u8 11, .int .i32 11, .int .i32 11, .int .u8 12, .int .i32 12, .int .i32 12, .int .u8 13, .int .i32 13, .int .i32 13, .int .u8 11, .int .i32 14, .int .i32 27, .int .u8 10, .int .i32 28, .int .i32 30, .int .u8 11, .int .i32 31, .int .i32 31, .int .u8 12, .int .i32 32, .int .i32 32, .int .u8 13, .int .i32 33, .int .i32 34, .int .u8 14, .int .i32 35, .int .i32 37, .int .u8 6, .int .i32 38, .int .i32 42, .int .u8 14, .int .i32 43, .int .i32 43, .int .u8 5, .int .i32 44, .int .i32 44, .int .u8 8, .int .i32 45, .int .i32 45, .int .u8 5, .int .i32 46, .int .i32 47, .int .u8 8, .int .i32 48, .int .i32 57, .int .u8 4, .int .i32 58, .int .i32 58, .int .u8 8, .int .i32 59, .int .i32 64, .int .u8 14, .int .i32 91, .int .i32 96, .int .u8 14, .int .i32 123, .int .i32 126, .int .u8 14, .int .i32 127, .int .i32 132, .int .u8 10, .int .i32 133, .int .i32 133, .int .u8 11, .int .i32 134, .int .i32 159, .int .u8 10, .int .i32 160, .int .i32 160, .int .u8 8, .int .i32 161, .int .i32 161, .int .u8 14, .int .i32 162, .int .i32 165, .int .u8 6, .int .i32 166, .int .i32 169, .int .u8 14, .int .i32 171, .int .i32 172, .int .u8 14, .int .i32 173, .int .i32 173, .int .u8 10, .int .i32 174, .int .i32 175, .int .u8 14, .int .i32 176, .int .i32 177, .int .u8 6, .int .i32 178, .int .i32 179, .int .u8 4, .int .i32 180, .int .i32 180, .int .u8 14, .int .i32 182, .int .i32 184, .int .u8 14, .int .i32 185, .int .i32 185, .int .u8 4, .int .i32 187, .int .i32 191, .int .u8 14, .int .i32 215, .int .i32 215, .int .u8 14, .int .i32 247, .int .i32 247, .int .u8 14, .int .i32 768, .int .i32 879, .int .u8 9, .int .i32 1155, .int .i32 1161, .int .u8 9, .int .i32 1424, .int .i32 1424, .int .u8 2, .int .i32 1425, .int .i32 1469, .int .u8 9, .int .i32 1470, .int .i32 1470, .int .u8 2, .int .i32 1471, .int .i32 1471, .int .u8 9, .int .i32 1472, .int .i32 1472, .int .u8 2, .int .i32 1473, .int .i32 1474, .int .u8 9, .int .i32 1475, .int .i32 1475, .int .u8 2, .int .i32 1476, .int .i32 1477, .int .u8 9, .int .i32 1478, .int .i32 1478, .int .u8 2, .int .i32 1479, .int .i32 1479, .int .u8 9, .int .i32 1480, .int .i32 1535, .int .u8 2, .int .i32 1536, .int .i32 1541, .int .u8 7, .int .i32 1542, .int .i32 1543, .int .u8 14, .int .i32 1544, .int .i32 1544, .int .u8 3, .int .i32 1545, .int .i32 1546, .int .u8 6, .int .i32 1547, .int .i32 1547, .int .u8 3, .int .i32 1548, .int .i32 1548, .int .u8 8, .int .i32 1549, .int .i32 1549, .int .u8 3, .int .i32 1550, .int .i32 1551, .int .u8 14, .int .i32 1552, .int .i32 1562, .int .u8 9, .int .i32 1563, .int .i32 1610, .int .u8 3, .int .i32 1611, .int .i32 1631, .int .u8 9, .int .i32 1632, .int .i32 1641, .int .u8 7, .int .i32 1642, .int .i32 1642, .int .u8 6, .int .i32 1643, .int .i32 1644, .int .u8 7, .int .i32 1645, .int .i32 1647, .int .u8 3, .int .i32 1648, .int .i32 1648, .int .u8 9, .int .i32 1649, .int .i32 1749, .int .u8 3, .int .i32 1750, .int .i32 1756, .int .u8 9, .int .i32 1757, .int .i32 1757, .int .u8 7, .int .i32 1758, .int .i32 1758, .int .u8 14, .int .i32 1759, .int .i32 1764, .int .u8 9, .int .i32 1765, .int .i32 1766, .int .u8 3, .int .i32 1767, .int .i32 1768, .int .u8 9, .int .i32 1769, .int .i32 1769, .int .u8 14, .int .i32 1770, .int .i32 1773, .int .u8 9, .int .i32 1774, .int .i32 1775, .int .u8 3, .int .i32 1776, .int .i32 1785, .int .u8 4, .int .i32 1786, .int .i32 1808, .int .u8 3, .int .i32 1809, .int .i32 1809, .int .u8 9, .int .i32 1810, .int .i32 1839, .int .u8 3, .int .i32 1840, .int .i32 1866, .int .u8 9, .int .i32 1867, .int .i32 1957, .int .u8 3, .int .i32 1958, .int .i32 1968, .int .u8 9, .int .i32 1969, .int .i32 1983, .int .u8 3, .int .i32 8192, .int .i32 8202, .int .u8 13, .int .i32 8203, .int .i32 8205, .int .u8 10, .int .i32 8207, .int .i32 8207, .int .u8 2, .int .i32 8208, .int .i32 8231, .int .u8 14, .int .i32 8232, .int .i32 8232, .int .u8 13, .int .i32 8233, .int .i32 8233, .int .u8 11, .int .i32 8234, .int .i32 8234, .int .u8 15, .int .i32 8235, .int .i32 8235, .int .u8 16, .int .i32 8236, .int .i32 8236, .int .u8 19, .int .i32 8237, .int .i32 8237, .int .u8 17, .int .i32 8238, .int .i32 8238, .int .u8 18, .int .i32 8239, .int .i32 8239, .int .u8 8, .int .i32 8240, .int .i32 8244, .int .u8 6, .int .i32 8245, .int .i32 8259, .int .u8 14, .int .i32 8260, .int .i32 8260, .int .u8 8, .int .i32 8261, .int .i32 8286, .int .u8 14, .int .i32 8287, .int .i32 8287, .int .u8 13, .int .i32 8288, .int .i32 8293, .int .u8 10, .int .i32 8294, .int .i32 8294, .int .u8 20, .int .i32 8295, .int .i32 8295, .int .u8 21, .int .i32 8296, .int .i32 8296, .int .u8 22, .int .i32 8297, .int .i32 8297, .int .u8 23, .int .i32 8298, .int .i32 8303, .int .u8 10, .int .i32 8304, .int .i32 8304, .int .u8 4, .int .i32 8308, .int .i32 8313, .int .u8 4, .int .i32 8314, .int .i32 8315, .int .u8 5, .int .i32 8316, .int .i32 8318, .int .u8 14, .int .i32 8320, .int .i32 8329, .int .u8 4, .int .i32 8330, .int .i32 8331, .int .u8 5, .int .i32 8332, .int .i32 8334, .int .u8 14, .int .i32 8352, .int .i32 8399, .int .u8 6, .int .i32 8400, .int .i32 8432, .int .u8 9, .int .i32 8592, .int .i32 8721, .int .u8 14, .int .i32 8722, .int .i32 8722, .int .u8 5, .int .i32 8723, .int .i32 8723, .int .u8 6, .int .i32 8724, .int .i32 9013, .int .u8 14, .int .i32 9472, .int .i32 9783, .int .u8 14, .int .i32 10214, .int .i32 10223, .int .u8 14, .int .i32 12288, .int .i32 12288, .int .u8 13, .int .i32 12289, .int .i32 12292, .int .u8 14, .int .i32 12296, .int .i32 12320, .int .u8 14, .int .i32 64285, .int .i32 64285, .int .u8 2, .int .i32 64286, .int .i32 64286, .int .u8 9, .int .i32 64287, .int .i32 64296, .int .u8 2, .int .i32 64297, .int .i32 64297, .int .u8 5, .int .i32 64298, .int .i32 64335, .int .u8 2, .int .i32 64336, .int .i32 64829, .int .u8 3, .int .i32 64830, .int .i32 64831, .int .u8 14, .int .i32 65024, .int .i32 65039, .int .u8 9, .int .i32 65056, .int .i32 65071, .int .u8 9, .int .i32 65136, .int .i32 65276, .int .u8 3, .int .i32 65279, .int .i32 65279, .int .u8 10, .int .i32 65533, .int .i32 65533, .int .u8 14, .int .i32 125184, .int .i32 125251, .int .u8 2, .int .i32 125252, .int .i32 125258, .int .u8 9, .int .i32 125259, .int .i32 125279, .int .u8 2, .int .i32 126464, .int .i32 126703, .int .u8 3, .int .i32 127744, .int .i32 128591, .int .u8 14, .int .i32 917760, .int .i32 917999, .int .u8 9]), ([]), by kernel_rfl, (hS9.pick [1, 0] rfl rfl), (hS8.now 0 rfl hf5)⟩

def rFind_L1 (N : Nat) (p0 : List (Int × Int × Int)) (p1 : Int) : Nat → Int → Option (Ctl (Unit) (Int))
 | 0, _ => none
 | k15+1, x14 => (if x14 < ((p0.length : Nat) : Int) then ((ixg p0 x14).bind fun x26 => (if p1 ≥ x26.1 then ((ixg p0 x14).bind fun x44 => (if p1 ≤ x44.2.1 then ((ixg p0 x14).bind fun x64 => some (Ctl.ret x64.2.2)) else rFind_L1 N p0 p1 k15 (IntKind.i64.wrap (x14 + 1)))) else rFind_L1 N p0 p1 k15 (IntKind.i64.wrap (x14 + 1)))) else some (Ctl.go ()))
def rFind (N : Nat) (p0 : List (Int × Int × Int)) (p1 : Int) (p2 : Int) : Option (Int) :=
 ((rFind_L1 N p0 p1 N 0 : Option (Ctl (Unit) (Int))).bind fun | Ctl.go () => some p2 | Ctl.ret r => some r)

set_option linter.unusedVariables false in
def rFind_R (r : Int) (w0 : World) (v : Value) (w : World) : Prop := v = .int .u8 r ∧ St [] w0 w []

set_option maxRecDepth 100000 in
set_option maxHeartbeats 4000000 in
theorem rFind_ok (N : Nat) (p0 : List (Int × Int × Int)) (p1 : Int) (p2 : Int) (A0 : Option Addr) (c0 : Nat) (vs0 : List Value) (ft0 : List Nat) (r : Int) (hF : rFind N p0 p1 p2 = some r) (w0 : World) (hv0 : (fSl enccalamusref02Range A0 c0 vs0 p0).rd w0 ft0) (ho0 : Off [] w0 ft0) :
  Calls Tryd.prog 33 #[.slice A0 p0.length c0, .int .i32 p1, .int .u8 p2] w0 fun e w => ∃ v, e = .returned v ∧ rFind_R r w0 v w := by
 have hS0 := (St.start w0).pool0
 unfold rFind at hF
 refine calls_of Tryd.func33 rfl ⟨((.slice A0 p0.length c0) :: (.int .i32 p1) :: (.int .u8 p2) :: un 33 ([])).toArray, []⟩ (by kernel_rfl) ?_
 refine gx_seq (fun K1 hK2 => ?_)
 refine gx_region ?_
 refine gx_k (.int .u8 0) w0 ?_
 refine gx_nil ?_
 refine gx_thenN ?_
 refine hK2 _ _ ?_
 obtain ⟨c6, hE7, hO8⟩ := bind_in hF
 refine gx_cut (fun a w => selfA (fun u5 => ⟨((u5 0) :: (.int .i32 p1) :: (.int .u8 p2) :: un 3 (dd u5 6 29 (undef :: []))).toArray, []⟩) a ∧ Ctl.go () = c6 ∧ St [] w0 w [poolE ([]) w0]) ?_ ?_
 ·refine gx_seq (fun K9 hK10 => ?_)
  refine gx_region ?_
  refine gx_k (.int .i64 0) w0 ?_
  refine gx_nil ?_
  refine gx_thenN ?_
  refine hK10 _ _ ?_
  refine gx_block ?_
  refine gx_loop (fun k a w => ∃ (x14 : Int), selfA (fun u13 => ⟨((.slice A0 p0.length c0) :: (.int .i32 p1) :: (.int .u8 p2) :: un 3 ((u13 6) :: (.int .i64 x14) :: dd u13 8 27 (undef :: []))).toArray, []⟩) a ∧ rFind_L1 N p0 p1 k x14 = some c6 ∧ St [] w0 w [poolE ([]) w0]) N ?_ ?_
  ·exact ⟨0, selfA_i (by kernel_rfl), hE7, hS0⟩
  ·rintro k15 _ w11 ⟨x14, hq81, hL16, hS12⟩
   obtain ⟨u13, rfl⟩ := selfA_u hq81
   cases k15 with
   | zero => cases hL16
   | succ k15 =>
    first | rw [rFind_L1] at hL16 | unfold rFind_L1 at hL16
    refine gx_seq (fun K17 hK18 => ?_)
    refine gx_seq (fun K19 hK20 => ?_)
    refine gx_region ?_
    refine gx_k (.int .i64 x14) w11 (gx_k (.slice A0 p0.length c0) w11 (gx_k (.int .i64 ((p0.length : Nat) : Int)) w11 ?_))
    rcases if_in hL16 with ⟨h21, hL16⟩ | ⟨h21, hL16⟩
    ·refine gx_v (.bool true) w11 (run_boolE (decide_eq_true h21) (by kernel_rfl)) ?_
     refine gx_nil ?_
     refine gx_thenN ?_
     refine hK20 _ _ ?_
     refine gx_yes (by kernel_rfl) ?_
     refine gx_pass ?_
     refine gx_thenN ?_
     refine hK18 _ _ ?_
     refine gx_seq (fun K22 hK23 => ?_)
     refine gx_block ?_
     refine gx_seq (fun K24 hK25 => ?_)
     refine gx_region ?_
     refine gx_k (.int .i32 p1) w11 (gx_k (.slice A0 p0.length c0) w11 (gx_k (.int .i64 x14) w11 ?_))
     obtain ⟨x26, hx27, hL16⟩ := bind_in hL16
     obtain ⟨g28, o29, e30, hA31, he32, h33, ha34⟩ := elem_at (e := enccalamusref02Range) (sl_lies (hS12.inn ho0 hv0)) (sl_each hv0) hx27 (by decide)
     obtain ⟨e35, e36, rfl, h37, h38⟩ := h33
     obtain rfl := h37
     obtain ⟨e39, e40, rfl, h41, h42⟩ := h38
     obtain rfl := h41
     obtain rfl := h42
     have ha34 : ∀ w', Lies w' A0 vs0 → w'.rangeAt g28 o29 [.int .i32 x26.1, .int .i32 x26.2.1, .int .u8 x26.2.2] := ha34
     refine gx_v (.pointer (some ⟨g28, o29, none⟩)) w11 (run_ixaddrN (E := 101) (s := 3) (k := .i64) (c := c0) rfl (by kernel_rfl) (by kernel_rfl) (by kernel_rfl) (fun _ => by kernel_rfl) (ixg_in hx27).1 (ixg_in hx27).2.1 hA31) ?_
     refine gx_k (.pointer (some ⟨g28, o29, none⟩)) w11 ?_
     refine gx_v (.int .i32 x26.1) w11 (run_loadN1 0 rfl (by kernel_rfl) (fun _ => by kernel_rfl) (ha34 _ (sl_lies (hS12.inn ho0 hv0))) rfl) ?_
     rcases if_in hL16 with ⟨h43, hL16⟩ | ⟨h43, hL16⟩
     ·refine gx_v (.bool true) w11 (run_boolE (decide_eq_true h43) (by kernel_rfl)) ?_
      refine gx_k (.bool true) w11 (gx_k (.int .i32 p1) w11 (gx_k (.slice A0 p0.length c0) w11 (gx_k (.int .i64 x14) w11 ?_)))
      obtain ⟨x44, hx45, hL16⟩ := bind_in hL16
      obtain ⟨g46, o47, e48, hA49, he50, h51, ha52⟩ := elem_at (e := enccalamusref02Range) (sl_lies (hS12.inn ho0 hv0)) (sl_each hv0) hx45 (by decide)
      obtain ⟨e53, e54, rfl, h55, h56⟩ := h51
      obtain rfl := h55
      obtain ⟨e57, e58, rfl, h59, h60⟩ := h56
      obtain rfl := h59
      obtain rfl := h60
      have ha52 : ∀ w', Lies w' A0 vs0 → w'.rangeAt g46 o47 [.int .i32 x44.1, .int .i32 x44.2.1, .int .u8 x44.2.2] := ha52
      refine gx_v (.pointer (some ⟨g46, o47, none⟩)) w11 (run_ixaddrN (E := 101) (s := 3) (k := .i64) (c := c0) rfl (by kernel_rfl) (by kernel_rfl) (by kernel_rfl) (fun _ => by kernel_rfl) (ixg_in hx45).1 (ixg_in hx45).2.1 hA49) ?_
      refine gx_k (.pointer (some ⟨g46, o47 + 1, none⟩)) w11 ?_
      refine gx_v (.int .i32 x44.2.1) w11 (run_loadN1 1 rfl (by kernel_rfl) (fun _ => by kernel_rfl) (ha52 _ (sl_lies (hS12.inn ho0 hv0))) rfl) ?_
      rcases if_in hL16 with ⟨h61, hL16⟩ | ⟨h61, hL16⟩
      ·refine gx_v (.bool true) w11 (run_boolE (decide_eq_true h61) (by kernel_rfl)) ?_
       refine gx_k (.bool true) w11 ?_
       refine gx_nil ?_
       refine gx_thenN ?_
       refine hK25 _ _ ?_
       refine gx_yes (by kernel_rfl) ?_
       refine gx_seq (fun K62 hK63 => ?_)
       refine gx_region ?_
       refine gx_k (.slice A0 p0.length c0) w11 (gx_k (.int .i64 x14) w11 ?_)
       obtain ⟨x64, hx65, hL16⟩ := bind_in hL16
       obtain ⟨g66, o67, e68, hA69, he70, h71, ha72⟩ := elem_at (e := enccalamusref02Range) (sl_lies (hS12.inn ho0 hv0)) (sl_each hv0) hx65 (by decide)
       obtain ⟨e73, e74, rfl, h75, h76⟩ := h71
       obtain rfl := h75
       obtain ⟨e77, e78, rfl, h79, h80⟩ := h76
       obtain rfl := h79
       obtain rfl := h80
       have ha72 : ∀ w', Lies w' A0 vs0 → w'.rangeAt g66 o67 [.int .i32 x64.1, .int .i32 x64.2.1, .int .u8 x64.2.2] := ha72
       refine gx_v (.pointer (some ⟨g66, o67, none⟩)) w11 (run_ixaddrN (E := 101) (s := 3) (k := .i64) (c := c0) rfl (by kernel_rfl) (by kernel_rfl) (by kernel_rfl) (fun _ => by kernel_rfl) (ixg_in hx65).1 (ixg_in hx65).2.1 hA69) ?_
       refine gx_k (.pointer (some ⟨g66, o67 + 2, none⟩)) w11 ?_
       refine gx_v (.int .u8 x64.2.2) w11 (run_loadN1 2 rfl (by kernel_rfl) (fun _ => by kernel_rfl) (ha72 _ (sl_lies (hS12.inn ho0 hv0))) rfl) ?_
       refine gx_k (.int .u8 x64.2.2) w11 ?_
       refine gx_nil ?_
       refine gx_thenN ?_
       refine hK63 _ _ ?_
       refine gx_ret ?_
       refine gx_blkR ?_
       refine gx_thenR ?_
       refine gx_thenR ?_
       refine gx_blkR ?_
       refine gx_thenR ?_
       obtain rfl := Option.some.inj hL16
       try dsimp only at hO8
       obtain rfl := Option.some.inj hO8
       exact gx_fin (.int .u8 x64.2.2) (by kernel_rfl) (by kernel_rfl) ⟨_, rfl, rfl, (hS12.pick [] rfl rfl)⟩
      ·refine gx_v (.bool false) w11 (run_boolE (decide_eq_false h61) (by kernel_rfl)) ?_
       refine gx_k (.bool false) w11 ?_
       refine gx_nil ?_
       refine gx_thenN ?_
       refine hK25 _ _ ?_
       refine gx_no (by kernel_rfl) ?_
       refine gx_pass ?_
       refine gx_blkN ?_
       refine gx_thenN ?_
       refine hK23 _ _ ?_
       refine gx_region ?_
       refine gx_k (.int .i64 x14) w11 (gx_k (.int .i64 (IntKind.i64.wrap (x14 + 1))) w11 (gx_k (.int .i64 (IntKind.i64.wrap (x14 + 1))) w11 ?_))
       refine gx_nil ?_
       refine gx_thenN ?_
       exact ⟨k15, Nat.lt_succ_self k15, (IntKind.i64.wrap (x14 + 1)), selfA_i (by kernel_rfl), hL16, hS12⟩
     ·refine gx_v (.bool false) w11 (run_boolE (decide_eq_false h43) (by kernel_rfl)) ?_
      refine gx_k (.bool false) w11 (gx_o (gx_o (gx_o (gx_o (gx_o (gx_o (gx_o ?_)))))))
      refine gx_k (.bool false) w11 ?_
      refine gx_nil ?_
      refine gx_thenN ?_
      refine hK25 _ _ ?_
      refine gx_no (by kernel_rfl) ?_
      refine gx_pass ?_
      refine gx_blkN ?_
      refine gx_thenN ?_
      refine hK23 _ _ ?_
      refine gx_region ?_
      refine gx_k (.int .i64 x14) w11 (gx_k (.int .i64 (IntKind.i64.wrap (x14 + 1))) w11 (gx_k (.int .i64 (IntKind.i64.wrap (x14 + 1))) w11 ?_))
      refine gx_nil ?_
      refine gx_thenN ?_
      exact ⟨k15, Nat.lt_succ_self k15, (IntKind.i64.wrap (x14 + 1)), selfA_i (by kernel_rfl), hL16, hS12⟩
    ·refine gx_v (.bool false) w11 (run_boolE (decide_eq_false h21) (by kernel_rfl)) ?_
     refine gx_nil ?_
     refine gx_thenN ?_
     refine hK20 _ _ ?_
     refine gx_no (by kernel_rfl) ?_
     refine gx_exit ?_
     refine gx_thenE ?_
     refine gx_thenE ?_
     refine gx_blkE ?_
     refine gx_thenN ?_
     exact ⟨selfA_i (by kernel_rfl), (Option.some.inj hL16), hS12⟩
 ·rintro _ w3 ⟨hq84, rfl, hS4⟩
  obtain ⟨u5, rfl⟩ := selfA_u hq84
  try dsimp only at hO8
  refine gx_seq (fun K82 hK83 => ?_)
  refine gx_region ?_
  refine gx_k (.int .u8 p2) w3 (gx_k (.int .u8 p2) w3 ?_)
  refine gx_nil ?_
  refine gx_thenN ?_
  refine hK83 _ _ ?_
  refine gx_ret ?_
  obtain rfl := Option.some.inj hO8
  exact gx_fin (.int .u8 p2) (by kernel_rfl) (by kernel_rfl) ⟨_, rfl, rfl, (hS4.pick [] rfl rfl)⟩

def rClass (N : Nat) (p0 : Int) : Option (Int) :=
 ((rLetter N p0).bind fun b9 => (match b9 with | true => some 1 | false => ((rCls N ).bind fun l19 => ((rFind N l19 p0 (1 : Int)).bind fun x38 => some x38))))

set_option linter.unusedVariables false in
def rClass_R (r : Int) (w0 : World) (v : Value) (w : World) : Prop := v = .int .u8 r ∧ St [] w0 w []

set_option maxRecDepth 100000 in
set_option maxHeartbeats 4000000 in
theorem rClass_ok (N : Nat) (p0 : Int)  (r : Int) (hF : rClass N p0 = some r) (w0 : World)  :
  Calls Tryd.prog 18 #[.int .i32 p0] w0 fun e w => ∃ v, e = .returned v ∧ rClass_R r w0 v w := by
 have hS0 := (St.start w0).pool0
 unfold rClass at hF
 refine calls_of Tryd.func18 rfl ⟨((.int .i32 p0) :: un 7 ([])).toArray, []⟩ (by kernel_rfl) ?_
 refine gx_seq (fun K1 hK2 => ?_)
 refine gx_region ?_
 refine gx_k (.int .u8 0) w0 ?_
 refine gx_nil ?_
 refine gx_thenN ?_
 refine hK2 _ _ ?_
 refine gx_seq (fun K3 hK4 => ?_)
 refine gx_seq (fun K5 hK6 => ?_)
 refine gx_region ?_
 refine gx_k (.int .i32 p0) w0 ?_
 have hP7 : St _ _ w0 ([] ++ [poolE ([]) w0]) := hS0
 obtain ⟨b9, hc8, hF⟩ := bind_in hF
 try dsimp only at hF
 refine gx_c (rLetter_R b9 w0) (rLetter_ok N p0 _ hc8 w0 ) ?_
 rintro _ w10 ⟨rfl, hT12⟩
 have hS11 : St _ _ w10 [poolE ([]) w0] := hS0.take _ hT12
 refine gx_nil ?_
 refine gx_thenN ?_
 refine hK6 _ _ ?_
 cases b9 with
 | true =>
  try dsimp only at hF
  refine gx_yes (by kernel_rfl) ?_
  refine gx_seq (fun K13 hK14 => ?_)
  refine gx_region ?_
  refine gx_k (.int .u8 1) w10 ?_
  refine gx_nil ?_
  refine gx_thenN ?_
  refine hK14 _ _ ?_
  refine gx_ret ?_
  refine gx_thenR ?_
  obtain rfl := Option.some.inj hF
  exact gx_fin (.int .u8 1) (by kernel_rfl) (by kernel_rfl) ⟨_, rfl, rfl, (hS11.pick [] rfl rfl)⟩
 | false =>
  try dsimp only at hF
  refine gx_no (by kernel_rfl) ?_
  refine gx_pass ?_
  refine gx_thenN ?_
  refine hK4 _ _ ?_
  refine gx_seq (fun K15 hK16 => ?_)
  refine gx_region ?_
  have hP17 : St _ _ w10 ([] ++ [poolE ([]) w0]) := hS11
  obtain ⟨l19, hc18, hF⟩ := bind_in hF
  try dsimp only at hF
  refine gx_c (rCls_R l19 w10) (rCls_ok N  _ hc18 w10 ) ?_
  rintro _ w25 ⟨A20, c21, vs22, ft24, rfl, hT27, hf23⟩
  have hS26 : St _ _ w25 [poolE ([]) w0, rowG 101 3 (.slice A20 l19.length c21) l19.length vs22, poolE ft24 w25] := hS11.take _ hT27
  obtain ⟨ft28, W29, hS30, hT31, hU32⟩ := hS26.merge 2 0 rfl rfl (by decide)
  have hS30 : St _ _ w25 [poolE ft28 W29, rowG 101 3 (.slice A20 l19.length c21) l19.length vs22] := hS30
  have hT31 : Turn [] w0 w0 ([]) W29 ft28 := hT31
  have hf35 : (fEach enccalamusref02Range vs22 l19).rd W29 ft28 := hU32 _ hf23
  refine gx_k (.int .i32 p0) w25 ?_
  have hP36 : St _ _ w25 ([] ++ [poolE ft28 W29, rowG 101 3 (.slice A20 l19.length c21) l19.length vs22]) := hS30
  obtain ⟨x38, hc37, hF⟩ := bind_in hF
  try dsimp only at hF
  refine gx_c (rFind_R x38 w25) (rFind_ok N l19 p0 (1 : Int) A20 c21 vs22 ((rowG 101 3 (.slice A20 l19.length c21) l19.length vs22).foot ++ ft28) _ hc37 w25 (rowG_sl (e := enccalamusref02Range) rfl (hS30.get 1 rfl) (hS30.now 0 rfl hf35)) (hP36.offRA 1 rfl (hP36.offPA 0 rfl))) ?_
  rintro _ w39 ⟨rfl, hT41⟩
  have hS40 : St _ _ w39 [poolE ft28 W29, rowG 101 3 (.slice A20 l19.length c21) l19.length vs22] := hS30.take _ hT41
  refine gx_k (.int .u8 x38) w39 ?_
  refine gx_nil ?_
  refine gx_thenN ?_
  refine hK16 _ _ ?_
  refine gx_ret ?_
  obtain rfl := Option.some.inj hF
  exact gx_fin (.int .u8 x38) (by kernel_rfl) (by kernel_rfl) ⟨_, rfl, rfl, (hS40.pick [] rfl rfl)⟩

end Go.Proofs.YtdfgecndbfmgnaaDoor
