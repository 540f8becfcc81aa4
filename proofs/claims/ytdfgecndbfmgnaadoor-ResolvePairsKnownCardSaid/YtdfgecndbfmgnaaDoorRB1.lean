/-
  The document's pairs of brackets, walked.
-/
import Derived.Test.YtdfgecndbfmgnaaDoorRB0
namespace Go.Proofs.YtdfgecndbfmgnaaDoor
open Go Go.RowKit
set_option linter.unusedVariables false

def rPrs_L2 (N : Nat) (x35 : Int) (x52 : Int) : Nat → (List Int) → (List (Int × Int)) → Int → Option (List Int × List (Int × Int))
 | 0, _, _, _ => none
 | k113+1, l106, l111, x112 => (if x112 ≥ 0 then ((ixg l111 x112).bind fun x124 => (if x124.1 = x52 then ((ixg l111 x112).bind fun x140 => ((ix l106 x140.2).bind fun _x153 => ((setx l106 x140.2 x35).bind fun l157 => ((trug l111 x112).bind fun l161 => some ((l157, l161)))))) else rPrs_L2 N x35 x52 k113 l106 l111 (IntKind.i64.wrap (x112 - 1)))) else some ((l106, l111)))
def rPrs_L1 (N : Nat) (p0 : List Int) (p1 : List Int) : Nat → (List Int) → (List (Int × Int)) → Int → Option (List Int)
 | 0, _, _, _ => none
 | k36+1, l29, l34, x35 => (if x35 < ((p0.length : Nat) : Int) then (if x35 < ((p1.length : Nat) : Int) then ((ix p0 x35).bind fun x48 => ((rBr N x48).bind fun (x52, b53, b54) => (match b54 with | true => ((ix p1 x35).bind fun x62 => (if x62 ≠ 14 then rPrs_L1 N p0 p1 k36 l29 l34 (IntKind.i64.wrap (x35 + 1)) else (match b53 with | true => (if ((l34.length : Nat) : Int) = 63 then some (l29) else ((apg l34 ([(x52, x35)] : List (Int × Int))).bind fun l79 => rPrs_L1 N p0 p1 k36 l29 l79 (IntKind.i64.wrap (x35 + 1)))) | false => ((rPrs_L2 N x35 x52 N l29 l34 (IntKind.i64.wrap (((l34.length : Nat) : Int) - 1)) : Option (List Int × List (Int × Int))).bind fun (l93, l98) => rPrs_L1 N p0 p1 k36 l93 l98 (IntKind.i64.wrap (x35 + 1)))))) | false => rPrs_L1 N p0 p1 k36 l29 l34 (IntKind.i64.wrap (x35 + 1))))) else some (l29)) else some (l29))
def rPrs_L3 (N : Nat) (p0 : List Int) (l17 : List Int) : Nat → (List (Int × Int)) → Int → Option (List (Int × Int))
 | 0, _, _ => none
 | k195+1, l193, x194 => (if x194 < ((p0.length : Nat) : Int) then ((ix l17 x194).bind fun x206 => (if x206 > 0 then ((ix l17 x194).bind fun x209 => ((apg l193 ([(x194, x209)] : List (Int × Int))).bind fun l214 => rPrs_L3 N p0 l17 k195 l214 (IntKind.i64.wrap (x194 + 1)))) else rPrs_L3 N p0 l17 k195 l193 (IntKind.i64.wrap (x194 + 1)))) else some (l193))
def rPrs (N : Nat) (p0 : List Int) (p1 : List Int) : Option (List (Int × Int)) :=
 ((mkx ((p0.length : Nat) : Int)).bind fun l5 => ((rPrs_L1 N p0 p1 N l5 ([] : List (Int × Int)) 0 : Option (List Int)).bind fun l17 => ((rPrs_L3 N p0 l17 N ([] : List (Int × Int)) 0 : Option (List (Int × Int))).bind fun l178 => some l178)))

set_option linter.unusedVariables false in
def rPrs_R (r : List (Int × Int)) (w0 : World) (v : Value) (w : World) : Prop := ∃ (A0' : Option Addr) (c0' : Nat) (vs0' : List Value) (ft' : List Nat), v = .slice A0' r.length c0' ∧ St [] w0 w [rowG 31 2 (.slice A0' r.length c0') r.length vs0', poolE ft' w] ∧ (fEach (pairE (intE .i64) (intE .i64)) vs0' r).rd w ft'

set_option maxRecDepth 100000 in
set_option maxHeartbeats 4000000 in
theorem rPrs_ok (N : Nat) (p0 : List Int) (p1 : List Int) (A0 : Option Addr) (c0 : Nat) (A1 : Option Addr) (c1 : Nat) (r : List (Int × Int)) (hF : rPrs N p0 p1 = some r) (w0 : World) (hv0 : Vw [] .i32 w0 A0 c0 p0) (hv1 : Vw [] .u8 w0 A1 c1 p1) :
  Calls Tryd.prog 7 #[.slice A0 p0.length c0, .slice A1 p1.length c1] w0 fun e w => ∃ v, e = .returned v ∧ rPrs_R r w0 v w := by
 have hS0 := (St.start w0).pool0
 unfold rPrs at hF
 refine calls_of Tryd.func7 rfl ⟨((.slice A0 p0.length c0) :: (.slice A1 p1.length c1) :: un 101 ([])).toArray, []⟩ (by kernel_rfl) ?_
 refine gx_seq (fun K1 hK2 => ?_)
 refine gx_region ?_
 refine gx_k (.slice none 0 0) w0 ?_
 refine gx_nil ?_
 refine gx_thenN ?_
 refine hK2 _ _ ?_
 refine gx_seq (fun K3 hK4 => ?_)
 refine gx_region ?_
 refine gx_k (.slice A0 p0.length c0) w0 (gx_k (.int .i64 ((p0.length : Nat) : Int)) w0 ?_)
 obtain ⟨l5, hm6, hF⟩ := bind_in hF
 refine gx_r (st_make (T := 3) (k := .i64) (by_ := 8) rfl (by kernel_rfl) (by kernel_rfl) (by kernel_rfl) (by kernel_rfl) (by kernel_rfl) hS0 hm6) ?_
 rintro _ w7 ⟨A9, c10, rfl, hS8⟩
 have hS8 : St _ _ w7 [poolE ([]) w0, rowE .i64 3 A9 c10 l5] := hS8
 refine gx_k (.slice A9 l5.length c10) w7 ?_
 refine gx_nil ?_
 refine gx_thenN ?_
 refine hK4 _ _ ?_
 refine gx_seq (fun K11 hK12 => ?_)
 refine gx_region ?_
 refine gx_k (.slice none 0 0) w7 ?_
 refine gx_nil ?_
 refine gx_thenN ?_
 refine hK12 _ _ ?_
 obtain ⟨c18, hE19, hO20⟩ := bind_in hF
 refine gx_cut (fun a w => ∃ (l17 : List Int), selfA (fun u15 => ⟨((.slice A0 p0.length c0) :: (u15 1) :: undef :: undef :: (.slice none 0 0) :: (.slice A9 l5.length c10) :: dd u15 6 6 (undef :: undef :: (u15 14) :: (.int .i64 ((p0.length : Nat) : Int)) :: dd u15 16 66 (un 21 ([])))).toArray, []⟩) a ∧ l17 = c18 ∧ St [] w0 w [poolE ([]) w0, rowE .i64 3 A9 c10 l17] ∧ l5.length = l17.length) ?_ ?_
 ·refine gx_seq (fun K21 hK22 => ?_)
  refine gx_region ?_
  refine gx_k (.int .i64 0) w7 ?_
  refine gx_nil ?_
  refine gx_thenN ?_
  refine hK22 _ _ ?_
  refine gx_block ?_
  have hS23 : St _ _ w7 [poolE ([]) w0, rowE .i64 3 A9 c10 l5, rowG 48 2 (.slice none (([] : List (Int × Int)).length) 0) (([] : List (Int × Int)).length) ([])] := hS8.nilrowN 48 2
  have hf24 : (fEach (pairE (intE .i32) (intE .i64)) [] []).rd w0 ([]) := each_nil
  refine gx_loop (fun k a w => ∃ (l29 : List Int) (l34 : List (Int × Int)) (x35 : Int) (A30 : Option Addr) (c31 : Nat) (vs32 : List Value), selfA (fun u27 => ⟨((.slice A0 p0.length c0) :: (.slice A1 p1.length c1) :: undef :: undef :: (.slice none 0 0) :: (.slice A9 l5.length c10) :: (.slice A30 l34.length c31) :: (.int .i64 x35) :: dd u27 8 4 (undef :: undef :: (u27 14) :: (.int .i64 ((p0.length : Nat) : Int)) :: dd u27 16 66 (un 21 ([])))).toArray, []⟩) a ∧ rPrs_L1 N p0 p1 k l29 l34 x35 = some c18 ∧ St [] w0 w [poolE ([]) w0, rowE .i64 3 A9 c10 l29, rowG 48 2 (.slice A30 l34.length c31) l34.length vs32] ∧ l5.length = l29.length ∧ (fEach (pairE (intE .i32) (intE .i64)) vs32 l34).rd w0 ([])) N ?_ ?_
  ·exact ⟨l5, ([] : List (Int × Int)), 0, none, 0, ([]), selfA_i (by kernel_rfl), hE19, hS23, rfl, hf24⟩
  ·rintro k36 _ w25 ⟨l29, l34, x35, A30, c31, vs32, hq168, hL37, hS26, hn28, hf33⟩
   obtain ⟨u27, rfl⟩ := selfA_u hq168
   cases k36 with
   | zero => cases hL37
   | succ k36 =>
    first | rw [rPrs_L1] at hL37 | unfold rPrs_L1 at hL37
    refine gx_seq (fun K38 hK39 => ?_)
    refine gx_seq (fun K40 hK41 => ?_)
    refine gx_region ?_
    refine gx_k (.int .i64 x35) w25 (gx_k (.slice A0 p0.length c0) w25 (gx_k (.int .i64 ((p0.length : Nat) : Int)) w25 ?_))
    rcases if_in hL37 with ⟨h42, hL37⟩ | ⟨h42, hL37⟩
    ·refine gx_v (.bool true) w25 (run_boolE (decide_eq_true h42) (by kernel_rfl)) ?_
     refine gx_k (.bool true) w25 (gx_k (.int .i64 x35) w25 (gx_k (.slice A1 p1.length c1) w25 (gx_k (.int .i64 ((p1.length : Nat) : Int)) w25 ?_)))
     rcases if_in hL37 with ⟨h43, hL37⟩ | ⟨h43, hL37⟩
     ·refine gx_v (.bool true) w25 (run_boolE (decide_eq_true h43) (by kernel_rfl)) ?_
      refine gx_k (.bool true) w25 ?_
      refine gx_nil ?_
      refine gx_thenN ?_
      refine hK41 _ _ ?_
      refine gx_yes (by kernel_rfl) ?_
      refine gx_pass ?_
      refine gx_thenN ?_
      refine hK39 _ _ ?_
      refine gx_seq (fun K44 hK45 => ?_)
      refine gx_block ?_
      refine gx_seq (fun K46 hK47 => ?_)
      refine gx_region ?_
      refine gx_k (.slice A0 p0.length c0) w25 (gx_k (.int .i64 x35) w25 ?_)
      obtain ⟨x48, hx49, hL37⟩ := bind_in hL37
      refine gx_v (.pointer (Option.map (fun (p : Addr) => p.add (Int.toNat x35 * 1)) A0)) w25 (run_ixaddr (E := 21) (s := 1) (k := .i64) (c := c0) rfl (by kernel_rfl) (by kernel_rfl) (by kernel_rfl) (fun _ => by kernel_rfl) (ix_in hx49).1 (ix_in hx49).2.1 (num_nil (hS26.view hv0))) ?_
      refine gx_v (.int .i32 x48) w25 (run_loadix rfl (by kernel_rfl) (fun _ => by kernel_rfl) (hS26.view hv0) hx49) ?_
      have hP50 : St _ _ w25 ([] ++ [poolE ([]) w0, rowE .i64 3 A9 c10 l29, rowG 48 2 (.slice A30 l34.length c31) l34.length vs32]) := hS26
      obtain ⟨⟨x52, b53, b54⟩, hc51, hL37⟩ := bind_in hL37
      try dsimp only at hL37
      refine gx_c (rBr_R (x52, b53, b54) w25) (rBr_ok N x48 _ hc51 w25 ) ?_
      rintro _ w55 ⟨rfl, hT57⟩
      have hS56 : St _ _ w55 [poolE ([]) w0, rowE .i64 3 A9 c10 l29, rowG 48 2 (.slice A30 l34.length c31) l34.length vs32] := hS26.take _ hT57
      refine gx_k (.tuple #[.int .i32 x52, .bool b53, .bool b54]) w55 (gx_k (.int .i32 x52) w55 (gx_k (.bool b53) w55 (gx_k (.bool b54) w55 (gx_k (.int .i32 x52) w55 (gx_k (.bool b53) w55 (gx_k (.bool b54) w55 ?_))))))
      refine gx_nil ?_
      refine gx_thenN ?_
      refine hK47 _ _ ?_
      refine gx_seq (fun K58 hK59 => ?_)
      refine gx_seq (fun K60 hK61 => ?_)
      refine gx_region ?_
      refine gx_k (.bool b54) w55 ?_
      cases b54 with
      | true =>
       try dsimp only at hL37
       refine gx_k (.bool false) w55 (gx_k (.bool false) w55 (gx_k (.slice A1 p1.length c1) w55 (gx_k (.int .i64 x35) w55 ?_)))
       obtain ⟨x62, hx63, hL37⟩ := bind_in hL37
       refine gx_v (.pointer (Option.map (fun (p : Addr) => p.add (Int.toNat x35 * 1)) A1)) w55 (run_ixaddr (E := 33) (s := 1) (k := .i64) (c := c1) rfl (by kernel_rfl) (by kernel_rfl) (by kernel_rfl) (fun _ => by kernel_rfl) (ix_in hx63).1 (ix_in hx63).2.1 (num_nil (hS56.view hv1))) ?_
       refine gx_v (.int .u8 x62) w55 (run_loadix rfl (by kernel_rfl) (fun _ => by kernel_rfl) (hS56.view hv1) hx63) ?_
       rcases if_in hL37 with ⟨h64, hL37⟩ | ⟨h64, hL37⟩
       ·refine gx_v (.bool true) w55 (run_boolE (ne_yes h64) (by kernel_rfl)) ?_
        refine gx_k (.bool true) w55 ?_
        refine gx_nil ?_
        refine gx_thenN ?_
        refine hK61 _ _ ?_
        refine gx_yes (by kernel_rfl) ?_
        refine gx_exit ?_
        refine gx_thenE ?_
        refine gx_blkE ?_
        refine gx_thenN ?_
        refine hK45 _ _ ?_
        refine gx_region ?_
        refine gx_k (.int .i64 x35) w55 (gx_k (.int .i64 (IntKind.i64.wrap (x35 + 1))) w55 (gx_k (.int .i64 (IntKind.i64.wrap (x35 + 1))) w55 ?_))
        refine gx_nil ?_
        refine gx_thenN ?_
        exact ⟨k36, Nat.lt_succ_self k36, l29, l34, (IntKind.i64.wrap (x35 + 1)), A30, c31, vs32, selfA_i (by kernel_rfl), hL37, hS56, hn28, hf33⟩
       ·refine gx_v (.bool false) w55 (run_boolE (ne_no h64) (by kernel_rfl)) ?_
        refine gx_k (.bool false) w55 ?_
        refine gx_nil ?_
        refine gx_thenN ?_
        refine hK61 _ _ ?_
        refine gx_no (by kernel_rfl) ?_
        refine gx_pass ?_
        refine gx_thenN ?_
        refine hK59 _ _ ?_
        refine gx_seq (fun K65 hK66 => ?_)
        refine gx_seq (fun K67 hK68 => ?_)
        refine gx_region ?_
        refine gx_k (.bool b53) w55 ?_
        refine gx_nil ?_
        refine gx_thenN ?_
        refine hK68 _ _ ?_
        cases b53 with
        | true =>
         try dsimp only at hL37
         refine gx_yes (by kernel_rfl) ?_
         refine gx_seq (fun K69 hK70 => ?_)
         refine gx_seq (fun K71 hK72 => ?_)
         refine gx_region ?_
         refine gx_k (.slice A30 l34.length c31) w55 (gx_k (.int .i64 ((l34.length : Nat) : Int)) w55 ?_)
         rcases if_in hL37 with ⟨h73, hL37⟩ | ⟨h73, hL37⟩
         ·refine gx_v (.bool true) w55 (run_boolE (decide_eq_true h73) (by kernel_rfl)) ?_
          refine gx_nil ?_
          refine gx_thenN ?_
          refine hK72 _ _ ?_
          refine gx_yes (by kernel_rfl) ?_
          refine gx_exit ?_
          refine gx_thenE ?_
          refine gx_thenE ?_
          refine gx_blkO (by decide) ?_
          refine gx_thenE ?_
          refine gx_thenE ?_
          refine gx_blkE ?_
          refine gx_thenN ?_
          exact ⟨l29, selfA_i (by kernel_rfl), (Option.some.inj hL37), (hS56.pick [0, 1] rfl rfl), hn28⟩
         ·refine gx_v (.bool false) w55 (run_boolE (decide_eq_false h73) (by kernel_rfl)) ?_
          refine gx_nil ?_
          refine gx_thenN ?_
          refine hK72 _ _ ?_
          refine gx_no (by kernel_rfl) ?_
          refine gx_pass ?_
          refine gx_thenN ?_
          refine hK70 _ _ ?_
          refine gx_seq (fun K74 hK75 => ?_)
          refine gx_region ?_
          refine gx_k (.slice A30 l34.length c31) w55 (gx_k (.int .i32 x52) w55 (gx_k (.int .i64 x35) w55 (gx_k (.agg #[.int .i32 x52, .int .i64 x35]) w55 ?_)))
          have hf76 : (fEach (pairE (intE .i32) (intE .i64)) [.int .i32 x52, .int .i64 x35] [(x52, x35)]).rd w0 ([]) := (each_cons (rd_pair (rd_intg .i32 x52) (rd_intg .i64 x35)) each_nil)
          refine gx_r (st_madeP (e := (pairE (intE .i32) (intE .i64))) 48 1 [.int .i32 x52, .int .i64 x35] [(x52, x35)] hS56 rfl hf76 (by decide) (by kernel_rfl)) ?_
          rintro _ w77 ⟨rfl, hS78⟩
          have hS78 : St _ _ w77 [poolE ([]) w0, rowE .i64 3 A9 c10 l29, rowG 48 2 (.slice A30 l34.length c31) l34.length vs32, rowG 48 2 (.slice (some ⟨w55.heap.size, 0, none⟩) 1 1) 1 ([.int .i32 x52, .int .i64 x35])] := hS78
          obtain ⟨l79, ha80, hL37⟩ := bind_in hL37
          refine gx_r (st_appendP (e := (pairE (intE .i32) (intE .i64))) rfl (by kernel_rfl) (by kernel_rfl) hS78 2 rfl rfl (show 1 = ([(x52, x35)] : List (Int × Int)).length from rfl) hf33 hf76 (rowG_lies (e := (pairE (intE .i32) (intE .i64))) (show 1 = ([(x52, x35)] : List (Int × Int)).length from rfl) (hS78.get 3 rfl)) (rowG_spec (e := (pairE (intE .i32) (intE .i64))) (show 1 = ([(x52, x35)] : List (Int × Int)).length from rfl) (hS78.get 3 rfl)).2.2.1 ha80 (by kernel_rfl) (by kernel_rfl) (by decide)) ?_
          rintro _ w85 ⟨A81, c82, vs83, rfl, hf84, hS86⟩
          have hS86 : St _ _ w85 [poolE ([]) w0, rowE .i64 3 A9 c10 l29, rowG 48 2 (.slice A81 l79.length c82) l79.length vs83, rowG 48 2 (.slice (some ⟨w55.heap.size, 0, none⟩) 1 1) 1 ([.int .i32 x52, .int .i64 x35])] := hS86
          refine gx_k (.slice A81 l79.length c82) w85 ?_
          refine gx_nil ?_
          refine gx_thenN ?_
          refine hK75 _ _ ?_
          refine gx_exit ?_
          refine gx_thenE ?_
          refine gx_blkE ?_
          refine gx_thenN ?_
          refine hK45 _ _ ?_
          refine gx_region ?_
          refine gx_k (.int .i64 x35) w85 (gx_k (.int .i64 (IntKind.i64.wrap (x35 + 1))) w85 (gx_k (.int .i64 (IntKind.i64.wrap (x35 + 1))) w85 ?_))
          refine gx_nil ?_
          refine gx_thenN ?_
          exact ⟨k36, Nat.lt_succ_self k36, l29, l79, (IntKind.i64.wrap (x35 + 1)), A81, c82, vs83, selfA_i (by kernel_rfl), hL37, (hS86.pick [0, 1, 2] rfl rfl), hn28, hf84⟩
        | false =>
         try dsimp only at hL37
         refine gx_no (by kernel_rfl) ?_
         refine gx_pass ?_
         refine gx_thenN ?_
         refine hK66 _ _ ?_
         refine gx_seq (fun K87 hK88 => ?_)
         refine gx_region ?_
         refine gx_k (.slice A30 l34.length c31) w55 (gx_k (.int .i64 ((l34.length : Nat) : Int)) w55 (gx_k (.int .i64 (IntKind.i64.wrap (((l34.length : Nat) : Int) - 1))) w55 (gx_k (.int .i64 (IntKind.i64.wrap (((l34.length : Nat) : Int) - 1))) w55 ?_)))
         refine gx_nil ?_
         refine gx_thenN ?_
         refine hK88 _ _ ?_
         obtain ⟨c99, hE100, hO101⟩ := bind_in hL37
         refine gx_mid (fun a w => ∃ (l93 : List Int) (l98 : List (Int × Int)) (A94 : Option Addr) (c95 : Nat) (vs96 : List Value), selfA (fun u91 => ⟨((.slice A0 p0.length c0) :: (.slice A1 p1.length c1) :: undef :: undef :: (.slice none 0 0) :: (.slice A9 l5.length c10) :: (.slice A94 l98.length c95) :: (.int .i64 x35) :: (.int .i32 x52) :: (.bool false) :: (.bool true) :: (u91 11) :: undef :: undef :: (u27 14) :: (.int .i64 ((p0.length : Nat) : Int)) :: (u27 16) :: (.int .i64 x35) :: (u91 18) :: (.int .i64 ((p0.length : Nat) : Int)) :: (.bool true) :: (.bool true) :: (.int .i64 x35) :: (u91 23) :: (.int .i64 ((p1.length : Nat) : Int)) :: (.bool true) :: (.bool true) :: dd u27 27 2 (dd u91 29 2 ((.int .i64 x35) :: (.pointer (Option.map (fun (p : Addr) => p.add (Int.toNat x35 * 1)) A0)) :: (.int .i32 x48) :: (u91 34) :: (.int .i32 x52) :: (.bool false) :: (.bool true) :: (.bool true) :: (.bool false) :: (.bool false) :: (u91 41) :: (.int .i64 x35) :: (.pointer (Option.map (fun (p : Addr) => p.add (Int.toNat x35 * 1)) A1)) :: (.int .u8 x62) :: (.bool false) :: (.bool false) :: (.bool false) :: dd u27 48 9 ((u91 57) :: (.int .i64 ((l34.length : Nat) : Int)) :: (.int .i64 (IntKind.i64.wrap (((l34.length : Nat) : Int) - 1))) :: dd u91 60 22 (un 21 ([])))))).toArray, []⟩) a ∧ (l93, l98) = c99 ∧ St [] w0 w [poolE ([]) w0, rowE .i64 3 A9 c10 l93, rowG 48 2 (.slice A94 l98.length c95) l98.length vs96] ∧ l5.length = l93.length ∧ (fEach (pairE (intE .i32) (intE .i64)) vs96 l98).rd w0 ([])) ?_ ?_
         ·refine gx_block ?_
          refine gx_loop (fun k a w => ∃ (l106 : List Int) (l111 : List (Int × Int)) (x112 : Int) (A107 : Option Addr) (c108 : Nat) (vs109 : List Value), selfA (fun u104 => ⟨((.slice A0 p0.length c0) :: (.slice A1 p1.length c1) :: undef :: undef :: (.slice none 0 0) :: (.slice A9 l5.length c10) :: (.slice A107 l111.length c108) :: (.int .i64 x35) :: (.int .i32 x52) :: (.bool false) :: (.bool true) :: (.int .i64 x112) :: undef :: undef :: (u27 14) :: (.int .i64 ((p0.length : Nat) : Int)) :: (u27 16) :: (.int .i64 x35) :: (u104 18) :: (.int .i64 ((p0.length : Nat) : Int)) :: (.bool true) :: (.bool true) :: (.int .i64 x35) :: (u104 23) :: (.int .i64 ((p1.length : Nat) : Int)) :: (.bool true) :: (.bool true) :: dd u27 27 2 (dd u104 29 2 ((.int .i64 x35) :: (.pointer (Option.map (fun (p : Addr) => p.add (Int.toNat x35 * 1)) A0)) :: (.int .i32 x48) :: (u104 34) :: (.int .i32 x52) :: (.bool false) :: (.bool true) :: (.bool true) :: (.bool false) :: (.bool false) :: (u104 41) :: (.int .i64 x35) :: (.pointer (Option.map (fun (p : Addr) => p.add (Int.toNat x35 * 1)) A1)) :: (.int .u8 x62) :: (.bool false) :: (.bool false) :: (.bool false) :: dd u27 48 9 ((u104 57) :: (.int .i64 ((l34.length : Nat) : Int)) :: (.int .i64 (IntKind.i64.wrap (((l34.length : Nat) : Int) - 1))) :: dd u104 60 22 (un 21 ([])))))).toArray, []⟩) a ∧ rPrs_L2 N x35 x52 k l106 l111 x112 = some c99 ∧ St [] w0 w [poolE ([]) w0, rowE .i64 3 A9 c10 l106, rowG 48 2 (.slice A107 l111.length c108) l111.length vs109] ∧ l5.length = l106.length ∧ (fEach (pairE (intE .i32) (intE .i64)) vs109 l111).rd w0 ([])) N ?_ ?_
          ·exact ⟨l29, l34, (IntKind.i64.wrap (((l34.length : Nat) : Int) - 1)), A30, c31, vs32, selfA_i (by kernel_rfl), hE100, hS56, hn28, hf33⟩
          ·rintro k113 _ w102 ⟨l106, l111, x112, A107, c108, vs109, hq166, hL114, hS103, hn105, hf110⟩
           obtain ⟨u104, rfl⟩ := selfA_u hq166
           cases k113 with
           | zero => cases hL114
           | succ k113 =>
            first | rw [rPrs_L2] at hL114 | unfold rPrs_L2 at hL114
            refine gx_seq (fun K115 hK116 => ?_)
            refine gx_seq (fun K117 hK118 => ?_)
            refine gx_region ?_
            refine gx_k (.int .i64 x112) w102 ?_
            rcases if_in hL114 with ⟨h119, hL114⟩ | ⟨h119, hL114⟩
            ·refine gx_v (.bool true) w102 (run_boolE (decide_eq_true h119) (by kernel_rfl)) ?_
             refine gx_nil ?_
             refine gx_thenN ?_
             refine hK118 _ _ ?_
             refine gx_yes (by kernel_rfl) ?_
             refine gx_pass ?_
             refine gx_thenN ?_
             refine hK116 _ _ ?_
             refine gx_seq (fun K120 hK121 => ?_)
             refine gx_block ?_
             refine gx_seq (fun K122 hK123 => ?_)
             refine gx_region ?_
             refine gx_k (.slice A107 l111.length c108) w102 (gx_k (.int .i64 x112) w102 ?_)
             obtain ⟨x124, hx125, hL114⟩ := bind_in hL114
             obtain ⟨g126, o127, e128, hA129, he130, h131, ha132⟩ := elem_at (e := (pairE (intE .i32) (intE .i64))) (rowG_lies (e := (pairE (intE .i32) (intE .i64))) rfl (hS103.get 2 rfl)) hf110 hx125 (by decide)
             obtain ⟨e133, e134, rfl, h135, h136⟩ := h131
             obtain rfl := h135
             obtain rfl := h136
             have ha132 : ∀ w', Lies w' A107 vs109 → w'.rangeAt g126 o127 [.int .i32 x124.1, .int .i64 x124.2] := ha132
             refine gx_v (.pointer (some ⟨g126, o127, none⟩)) w102 (run_ixaddrN (E := 48) (s := 2) (k := .i64) (c := c108) rfl (by kernel_rfl) (by kernel_rfl) (by kernel_rfl) (fun _ => by kernel_rfl) (ixg_in hx125).1 (ixg_in hx125).2.1 hA129) ?_
             refine gx_k (.pointer (some ⟨g126, o127, none⟩)) w102 ?_
             refine gx_v (.int .i32 x124.1) w102 (run_loadN1 0 rfl (by kernel_rfl) (fun _ => by kernel_rfl) (ha132 _ (rowG_lies (e := (pairE (intE .i32) (intE .i64))) rfl (hS103.get 2 rfl))) rfl) ?_
             refine gx_k (.int .i32 x52) w102 ?_
             rcases if_in hL114 with ⟨h137, hL114⟩ | ⟨h137, hL114⟩
             ·refine gx_v (.bool true) w102 (run_boolE (decide_eq_true h137) (by kernel_rfl)) ?_
              refine gx_nil ?_
              refine gx_thenN ?_
              refine hK123 _ _ ?_
              refine gx_yes (by kernel_rfl) ?_
              refine gx_seq (fun K138 hK139 => ?_)
              refine gx_region ?_
              refine gx_k (.slice A9 l5.length c10) w102 (gx_k (.slice A107 l111.length c108) w102 (gx_k (.int .i64 x112) w102 ?_))
              obtain ⟨x140, hx141, hL114⟩ := bind_in hL114
              obtain ⟨g142, o143, e144, hA145, he146, h147, ha148⟩ := elem_at (e := (pairE (intE .i32) (intE .i64))) (rowG_lies (e := (pairE (intE .i32) (intE .i64))) rfl (hS103.get 2 rfl)) hf110 hx141 (by decide)
              obtain ⟨e149, e150, rfl, h151, h152⟩ := h147
              obtain rfl := h151
              obtain rfl := h152
              have ha148 : ∀ w', Lies w' A107 vs109 → w'.rangeAt g142 o143 [.int .i32 x140.1, .int .i64 x140.2] := ha148
              refine gx_v (.pointer (some ⟨g142, o143, none⟩)) w102 (run_ixaddrN (E := 48) (s := 2) (k := .i64) (c := c108) rfl (by kernel_rfl) (by kernel_rfl) (by kernel_rfl) (fun _ => by kernel_rfl) (ixg_in hx141).1 (ixg_in hx141).2.1 hA145) ?_
              refine gx_k (.pointer (some ⟨g142, o143 + 1, none⟩)) w102 ?_
              refine gx_v (.int .i64 x140.2) w102 (run_loadN1 1 rfl (by kernel_rfl) (fun _ => by kernel_rfl) (ha148 _ (rowG_lies (e := (pairE (intE .i32) (intE .i64))) rfl (hS103.get 2 rfl))) rfl) ?_
              refine gx_k (.int .i64 x35) w102 ?_
              obtain ⟨x153, hx154, hL114⟩ := bind_in hL114
              refine gx_v (.pointer (Option.map (fun (p : Addr) => p.add (Int.toNat x140.2 * 1)) A9)) w102 (run_ixaddr (E := 3) (s := 1) (k := .i64) (c := c10) rfl (by kernel_rfl) (by kernel_rfl) (by kernel_rfl) (fun _ => by kernel_rfl) (ix_in hx154).1 (lt_len hn105 (ix_in hx154).2.1) (nil_len hn105 (num_nil (hS103.row 1 rfl).1))) ?_
              obtain ⟨l157, hx158, hL114⟩ := bind_in hL114
              refine gx_s (st_storeix rfl (by kernel_rfl) (by kernel_rfl) (fun _ => by kernel_rfl) hS103 1 rfl hx158) ?_
              rintro w155 hS156
              have hS156 : St _ _ w155 [poolE ([]) w0, rowE .i64 3 A9 c10 l157, rowG 48 2 (.slice A107 l111.length c108) l111.length vs109] := hS156
              refine gx_nil ?_
              refine gx_thenN ?_
              refine hK139 _ _ ?_
              refine gx_seq (fun K159 hK160 => ?_)
              refine gx_region ?_
              refine gx_k (.slice A107 l111.length c108) w155 (gx_k (.int .i64 x112) w155 ?_)
              obtain ⟨l161, hx162, hL114⟩ := bind_in hL114
              refine gx_v (.slice A107 l161.length c108) w155 (run_truncN (TE := 48) (.int .i64 x112) .i64 rfl (by kernel_rfl) (by kernel_rfl) rfl (by kernel_rfl) (fun _ => by kernel_rfl) rfl (hS156.get 2 rfl) hx162) ?_
              obtain ⟨vs164, hf165, hS163⟩ := hS156.truncN 2 rfl rfl hf110 hx162
              have hS163 : St _ _ w155 [poolE ([]) w0, rowE .i64 3 A9 c10 l157, rowG 48 2 (.slice A107 l161.length c108) l161.length vs164] := hS163
              refine gx_k (.slice A107 l161.length c108) w155 ?_
              refine gx_nil ?_
              refine gx_thenN ?_
              refine hK160 _ _ ?_
              refine gx_exit ?_
              refine gx_blkO (by decide) ?_
              refine gx_thenE ?_
              refine gx_thenE ?_
              refine gx_blkE ?_
              refine gx_thenN ?_
              exact ⟨l157, l161, A107, c108, vs164, selfA_i (by kernel_rfl), (Option.some.inj hL114), hS163, (hn105.trans (setx_len hx158).symm), hf165⟩
             ·refine gx_v (.bool false) w102 (run_boolE (decide_eq_false h137) (by kernel_rfl)) ?_
              refine gx_nil ?_
              refine gx_thenN ?_
              refine hK123 _ _ ?_
              refine gx_no (by kernel_rfl) ?_
              refine gx_pass ?_
              refine gx_blkN ?_
              refine gx_thenN ?_
              refine hK121 _ _ ?_
              refine gx_region ?_
              refine gx_k (.int .i64 x112) w102 (gx_k (.int .i64 (IntKind.i64.wrap (x112 - 1))) w102 (gx_k (.int .i64 (IntKind.i64.wrap (x112 - 1))) w102 ?_))
              refine gx_nil ?_
              refine gx_thenN ?_
              exact ⟨k113, Nat.lt_succ_self k113, l106, l111, (IntKind.i64.wrap (x112 - 1)), A107, c108, vs109, selfA_i (by kernel_rfl), hL114, hS103, hn105, hf110⟩
            ·refine gx_v (.bool false) w102 (run_boolE (decide_eq_false h119) (by kernel_rfl)) ?_
             refine gx_nil ?_
             refine gx_thenN ?_
             refine hK118 _ _ ?_
             refine gx_no (by kernel_rfl) ?_
             refine gx_exit ?_
             refine gx_thenE ?_
             refine gx_thenE ?_
             refine gx_blkE ?_
             refine gx_thenN ?_
             exact ⟨l106, l111, A107, c108, vs109, selfA_i (by kernel_rfl), (Option.some.inj hL114), hS103, hn105, hf110⟩
         ·rintro _ w89 ⟨l93, l98, A94, c95, vs96, hq167, rfl, hS90, hn92, hf97⟩
          obtain ⟨u91, rfl⟩ := selfA_u hq167
          try dsimp only at hO101
          refine gx_blkN ?_
          refine gx_thenN ?_
          refine hK45 _ _ ?_
          refine gx_region ?_
          refine gx_k (.int .i64 x35) w89 (gx_k (.int .i64 (IntKind.i64.wrap (x35 + 1))) w89 (gx_k (.int .i64 (IntKind.i64.wrap (x35 + 1))) w89 ?_))
          refine gx_nil ?_
          refine gx_thenN ?_
          exact ⟨k36, Nat.lt_succ_self k36, l93, l98, (IntKind.i64.wrap (x35 + 1)), A94, c95, vs96, selfA_i (by kernel_rfl), hO101, hS90, hn92, hf97⟩
      | false =>
       try dsimp only at hL37
       refine gx_k (.bool true) w55 (gx_k (.bool true) w55 (gx_o (gx_o (gx_o (gx_o (gx_o (gx_k (.bool true) w55 ?_)))))))
       refine gx_nil ?_
       refine gx_thenN ?_
       refine hK61 _ _ ?_
       refine gx_yes (by kernel_rfl) ?_
       refine gx_exit ?_
       refine gx_thenE ?_
       refine gx_blkE ?_
       refine gx_thenN ?_
       refine hK45 _ _ ?_
       refine gx_region ?_
       refine gx_k (.int .i64 x35) w55 (gx_k (.int .i64 (IntKind.i64.wrap (x35 + 1))) w55 (gx_k (.int .i64 (IntKind.i64.wrap (x35 + 1))) w55 ?_))
       refine gx_nil ?_
       refine gx_thenN ?_
       exact ⟨k36, Nat.lt_succ_self k36, l29, l34, (IntKind.i64.wrap (x35 + 1)), A30, c31, vs32, selfA_i (by kernel_rfl), hL37, hS56, hn28, hf33⟩
     ·refine gx_v (.bool false) w25 (run_boolE (decide_eq_false h43) (by kernel_rfl)) ?_
      refine gx_k (.bool false) w25 ?_
      refine gx_nil ?_
      refine gx_thenN ?_
      refine hK41 _ _ ?_
      refine gx_no (by kernel_rfl) ?_
      refine gx_exit ?_
      refine gx_thenE ?_
      refine gx_thenE ?_
      refine gx_blkE ?_
      refine gx_thenN ?_
      exact ⟨l29, selfA_i (by kernel_rfl), (Option.some.inj hL37), (hS26.pick [0, 1] rfl rfl), hn28⟩
    ·refine gx_v (.bool false) w25 (run_boolE (decide_eq_false h42) (by kernel_rfl)) ?_
     refine gx_k (.bool false) w25 (gx_o (gx_o (gx_o (gx_o (gx_k (.bool false) w25 ?_)))))
     refine gx_nil ?_
     refine gx_thenN ?_
     refine hK41 _ _ ?_
     refine gx_no (by kernel_rfl) ?_
     refine gx_exit ?_
     refine gx_thenE ?_
     refine gx_thenE ?_
     refine gx_blkE ?_
     refine gx_thenN ?_
     exact ⟨l29, selfA_i (by kernel_rfl), (Option.some.inj hL37), (hS26.pick [0, 1] rfl rfl), hn28⟩
 ·rintro _ w13 ⟨l17, hq227, rfl, hS14, hn16⟩
  obtain ⟨u15, rfl⟩ := selfA_u hq227
  try dsimp only at hO20
  refine gx_seq (fun K169 hK170 => ?_)
  refine gx_region ?_
  refine gx_k (.slice none 0 0) w13 ?_
  refine gx_nil ?_
  refine gx_thenN ?_
  refine hK170 _ _ ?_
  obtain ⟨c179, hE180, hO181⟩ := bind_in hO20
  refine gx_cut (fun a w => ∃ (l178 : List (Int × Int)) (A174 : Option Addr) (c175 : Nat) (vs176 : List Value), selfA (fun u173 => ⟨((u173 0) :: (u15 1) :: undef :: undef :: (.slice none 0 0) :: (u173 5) :: dd u15 6 6 ((.slice A174 l178.length c175) :: (u173 13) :: (u15 14) :: (.int .i64 ((p0.length : Nat) : Int)) :: dd u15 16 66 (dd u173 82 20 (undef :: [])))).toArray, []⟩) a ∧ l178 = c179 ∧ St [] w0 w [poolE ([]) w0, rowG 31 2 (.slice A174 l178.length c175) l178.length vs176] ∧ (fEach (pairE (intE .i64) (intE .i64)) vs176 l178).rd w0 ([])) ?_ ?_
  ·refine gx_seq (fun K182 hK183 => ?_)
   refine gx_region ?_
   refine gx_k (.int .i64 0) w13 ?_
   refine gx_nil ?_
   refine gx_thenN ?_
   refine hK183 _ _ ?_
   refine gx_block ?_
   have hS184 : St _ _ w13 [poolE ([]) w0, rowE .i64 3 A9 c10 l17, rowG 31 2 (.slice none (([] : List (Int × Int)).length) 0) (([] : List (Int × Int)).length) ([])] := hS14.nilrowN 31 2
   have hf185 : (fEach (pairE (intE .i64) (intE .i64)) [] []).rd w0 ([]) := each_nil
   refine gx_loop (fun k a w => ∃ (l193 : List (Int × Int)) (x194 : Int) (A189 : Option Addr) (c190 : Nat) (vs191 : List Value), selfA (fun u188 => ⟨((.slice A0 p0.length c0) :: (u15 1) :: undef :: undef :: (.slice none 0 0) :: (.slice A9 l5.length c10) :: dd u15 6 6 ((.slice A189 l193.length c190) :: (.int .i64 x194) :: (u15 14) :: (.int .i64 ((p0.length : Nat) : Int)) :: dd u15 16 66 (dd u188 82 20 (undef :: [])))).toArray, []⟩) a ∧ rPrs_L3 N p0 l17 k l193 x194 = some c179 ∧ St [] w0 w [poolE ([]) w0, rowE .i64 3 A9 c10 l17, rowG 31 2 (.slice A189 l193.length c190) l193.length vs191] ∧ (fEach (pairE (intE .i64) (intE .i64)) vs191 l193).rd w0 ([])) N ?_ ?_
   ·exact ⟨([] : List (Int × Int)), 0, none, 0, ([]), selfA_i (by kernel_rfl), hE180, hS184, hf185⟩
   ·rintro k195 _ w186 ⟨l193, x194, A189, c190, vs191, hq222, hL196, hS187, hf192⟩
    obtain ⟨u188, rfl⟩ := selfA_u hq222
    cases k195 with
    | zero => cases hL196
    | succ k195 =>
     first | rw [rPrs_L3] at hL196 | unfold rPrs_L3 at hL196
     refine gx_seq (fun K197 hK198 => ?_)
     refine gx_seq (fun K199 hK200 => ?_)
     refine gx_region ?_
     refine gx_k (.int .i64 x194) w186 (gx_k (.slice A0 p0.length c0) w186 (gx_k (.int .i64 ((p0.length : Nat) : Int)) w186 ?_))
     rcases if_in hL196 with ⟨h201, hL196⟩ | ⟨h201, hL196⟩
     ·refine gx_v (.bool true) w186 (run_boolE (decide_eq_true h201) (by kernel_rfl)) ?_
      refine gx_nil ?_
      refine gx_thenN ?_
      refine hK200 _ _ ?_
      refine gx_yes (by kernel_rfl) ?_
      refine gx_pass ?_
      refine gx_thenN ?_
      refine hK198 _ _ ?_
      refine gx_seq (fun K202 hK203 => ?_)
      refine gx_block ?_
      refine gx_seq (fun K204 hK205 => ?_)
      refine gx_region ?_
      refine gx_k (.slice A9 l5.length c10) w186 (gx_k (.int .i64 x194) w186 ?_)
      obtain ⟨x206, hx207, hL196⟩ := bind_in hL196
      refine gx_v (.pointer (Option.map (fun (p : Addr) => p.add (Int.toNat x194 * 1)) A9)) w186 (run_ixaddr (E := 3) (s := 1) (k := .i64) (c := c10) rfl (by kernel_rfl) (by kernel_rfl) (by kernel_rfl) (fun _ => by kernel_rfl) (ix_in hx207).1 (lt_len hn16 (ix_in hx207).2.1) (nil_len hn16 (num_nil (hS187.row 1 rfl).1))) ?_
      refine gx_v (.int .i64 x206) w186 (run_loadix rfl (by kernel_rfl) (fun _ => by kernel_rfl) (hS187.row 1 rfl).1 hx207) ?_
      rcases if_in hL196 with ⟨h208, hL196⟩ | ⟨h208, hL196⟩
      ·refine gx_v (.bool true) w186 (run_boolE (decide_eq_true h208) (by kernel_rfl)) ?_
       refine gx_nil ?_
       refine gx_thenN ?_
       refine hK205 _ _ ?_
       refine gx_yes (by kernel_rfl) ?_
       refine gx_region ?_
       refine gx_k (.slice A189 l193.length c190) w186 (gx_k (.int .i64 x194) w186 (gx_k (.slice A9 l5.length c10) w186 (gx_k (.int .i64 x194) w186 ?_)))
       obtain ⟨x209, hx210, hL196⟩ := bind_in hL196
       refine gx_v (.pointer (Option.map (fun (p : Addr) => p.add (Int.toNat x194 * 1)) A9)) w186 (run_ixaddr (E := 3) (s := 1) (k := .i64) (c := c10) rfl (by kernel_rfl) (by kernel_rfl) (by kernel_rfl) (fun _ => by kernel_rfl) (ix_in hx210).1 (lt_len hn16 (ix_in hx210).2.1) (nil_len hn16 (num_nil (hS187.row 1 rfl).1))) ?_
       refine gx_v (.int .i64 x209) w186 (run_loadix rfl (by kernel_rfl) (fun _ => by kernel_rfl) (hS187.row 1 rfl).1 hx210) ?_
       refine gx_k (.agg #[.int .i64 x194, .int .i64 x209]) w186 ?_
       have hf211 : (fEach (pairE (intE .i64) (intE .i64)) [.int .i64 x194, .int .i64 x209] [(x194, x209)]).rd w0 ([]) := (each_cons (rd_pair (rd_intg .i64 x194) (rd_intg .i64 x209)) each_nil)
       refine gx_r (st_madeP (e := (pairE (intE .i64) (intE .i64))) 31 1 [.int .i64 x194, .int .i64 x209] [(x194, x209)] hS187 rfl hf211 (by decide) (by kernel_rfl)) ?_
       rintro _ w212 ⟨rfl, hS213⟩
       have hS213 : St _ _ w212 [poolE ([]) w0, rowE .i64 3 A9 c10 l17, rowG 31 2 (.slice A189 l193.length c190) l193.length vs191, rowG 31 2 (.slice (some ⟨w186.heap.size, 0, none⟩) 1 1) 1 ([.int .i64 x194, .int .i64 x209])] := hS213
       obtain ⟨l214, ha215, hL196⟩ := bind_in hL196
       refine gx_r (st_appendP (e := (pairE (intE .i64) (intE .i64))) rfl (by kernel_rfl) (by kernel_rfl) hS213 2 rfl rfl (show 1 = ([(x194, x209)] : List (Int × Int)).length from rfl) hf192 hf211 (rowG_lies (e := (pairE (intE .i64) (intE .i64))) (show 1 = ([(x194, x209)] : List (Int × Int)).length from rfl) (hS213.get 3 rfl)) (rowG_spec (e := (pairE (intE .i64) (intE .i64))) (show 1 = ([(x194, x209)] : List (Int × Int)).length from rfl) (hS213.get 3 rfl)).2.2.1 ha215 (by kernel_rfl) (by kernel_rfl) (by decide)) ?_
       rintro _ w220 ⟨A216, c217, vs218, rfl, hf219, hS221⟩
       have hS221 : St _ _ w220 [poolE ([]) w0, rowE .i64 3 A9 c10 l17, rowG 31 2 (.slice A216 l214.length c217) l214.length vs218, rowG 31 2 (.slice (some ⟨w186.heap.size, 0, none⟩) 1 1) 1 ([.int .i64 x194, .int .i64 x209])] := hS221
       refine gx_k (.slice A216 l214.length c217) w220 ?_
       refine gx_nil ?_
       refine gx_blkN ?_
       refine gx_thenN ?_
       refine hK203 _ _ ?_
       refine gx_region ?_
       refine gx_k (.int .i64 x194) w220 (gx_k (.int .i64 (IntKind.i64.wrap (x194 + 1))) w220 (gx_k (.int .i64 (IntKind.i64.wrap (x194 + 1))) w220 ?_))
       refine gx_nil ?_
       refine gx_thenN ?_
       exact ⟨k195, Nat.lt_succ_self k195, l214, (IntKind.i64.wrap (x194 + 1)), A216, c217, vs218, selfA_i (by kernel_rfl), hL196, (hS221.pick [0, 1, 2] rfl rfl), hf219⟩
      ·refine gx_v (.bool false) w186 (run_boolE (decide_eq_false h208) (by kernel_rfl)) ?_
       refine gx_nil ?_
       refine gx_thenN ?_
       refine hK205 _ _ ?_
       refine gx_no (by kernel_rfl) ?_
       refine gx_pass ?_
       refine gx_blkN ?_
       refine gx_thenN ?_
       refine hK203 _ _ ?_
       refine gx_region ?_
       refine gx_k (.int .i64 x194) w186 (gx_k (.int .i64 (IntKind.i64.wrap (x194 + 1))) w186 (gx_k (.int .i64 (IntKind.i64.wrap (x194 + 1))) w186 ?_))
       refine gx_nil ?_
       refine gx_thenN ?_
       exact ⟨k195, Nat.lt_succ_self k195, l193, (IntKind.i64.wrap (x194 + 1)), A189, c190, vs191, selfA_i (by kernel_rfl), hL196, hS187, hf192⟩
     ·refine gx_v (.bool false) w186 (run_boolE (decide_eq_false h201) (by kernel_rfl)) ?_
      refine gx_nil ?_
      refine gx_thenN ?_
      refine hK200 _ _ ?_
      refine gx_no (by kernel_rfl) ?_
      refine gx_exit ?_
      refine gx_thenE ?_
      refine gx_thenE ?_
      refine gx_blkE ?_
      refine gx_thenN ?_
      exact ⟨l193, A189, c190, vs191, selfA_i (by kernel_rfl), (Option.some.inj hL196), (hS187.pick [0, 2] rfl rfl), hf192⟩
  ·rintro _ w171 ⟨l178, A174, c175, vs176, hq226, rfl, hS172, hf177⟩
   obtain ⟨u173, rfl⟩ := selfA_u hq226
   try dsimp only at hO181
   refine gx_seq (fun K223 hK224 => ?_)
   refine gx_region ?_
   refine gx_k (.slice A174 l178.length c175) w171 (gx_k (.slice A174 l178.length c175) w171 ?_)
   refine gx_nil ?_
   refine gx_thenN ?_
   refine hK224 _ _ ?_
   refine gx_ret ?_
   have hS225 : St _ _ w171 [poolE ([]) w171, rowG 31 2 (.slice A174 l178.length c175) l178.length vs176] := hS172.renew 0 rfl
   obtain rfl := Option.some.inj hO181
   exact gx_fin (.slice A174 l178.length c175) (by kernel_rfl) (by kernel_rfl) ⟨_, rfl, A174, c175, vs176, ([]), rfl, (hS225.pick [1, 0] rfl rfl), (hS172.now 0 rfl hf177)⟩

end Go.Proofs.YtdfgecndbfmgnaaDoor
