/-
  slices.Sort, walked.
-/
import Derived.Test.YtcleaepcjbfmhaaZ2
namespace Go.Proofs.Ytcleaepcjbfmhaa
open Go Go.RowKit
set_option linter.unusedVariables false

def zEq_L2 (N : Nat) (p1 : Int) (l25 : List Int) (x27 : Int) : Nat → Int → Option (Int)
 | 0, _ => none
 | k41+1, x40 => (if x40 ≤ x27 then ((ix l25 p1).bind fun x50 => ((ix l25 x40).bind fun x52 => ((zLess N x50 x52).bind fun b56 => (match b56 with | true => some (x40) | false => zEq_L2 N p1 l25 x27 k41 (IntKind.i64.wrap (x40 + 1)))))) else some (x40))
def zEq_L3 (N : Nat) (p1 : Int) (l25 : List Int) (x33 : Int) : Nat → Int → Option (Int)
 | 0, _ => none
 | k72+1, x71 => (if x33 ≤ x71 then ((ix l25 p1).bind fun x81 => ((ix l25 x71).bind fun x83 => ((zLess N x81 x83).bind fun b87 => (match b87 with | true => zEq_L3 N p1 l25 x33 k72 (IntKind.i64.wrap (x71 - 1)) | false => some (x71))))) else some (x71))
def zEq_L1 (N : Nat) (p1 : Int) : Nat → (List Int) → Int → Int → Option (List Int × Int)
 | 0, _, _, _ => none
 | k28+1, l25, x26, x27 => ((zEq_L2 N p1 l25 x27 N x26 : Option (Int)).bind fun x33 => ((zEq_L3 N p1 l25 x33 N x27 : Option (Int)).bind fun x64 => (if x33 > x64 then some ((l25, x33)) else ((ix l25 x64).bind fun xz8_98o6_1 => ((ix l25 x33).bind fun xz8_98o10_1 => ((ix l25 x33).bind fun _xz8_98o12_1 => ((setx l25 x33 xz8_98o6_1).bind fun lz8_98o13_3 => ((ix lz8_98o13_3 x64).bind fun _xz8_98o14_1 => ((setx lz8_98o13_3 x64 xz8_98o10_1).bind fun lz8_98o15_3 => zEq_L1 N p1 k28 lz8_98o15_3 (IntKind.i64.wrap (x33 + 1)) (IntKind.i64.wrap (x64 - 1)))))))))))
def zEq (N : Nat) (p0 : List Int) (p1 : Int) (p2 : Int) (p3 : Int) : Option (Int × List Int) :=
 ((ix p0 p3).bind fun xz1_4o6_1 => ((ix p0 p1).bind fun xz1_4o10_1 => ((ix p0 p1).bind fun _xz1_4o12_1 => ((setx p0 p1 xz1_4o6_1).bind fun lz1_4o13_3 => ((ix lz1_4o13_3 p3).bind fun _xz1_4o14_1 => ((setx lz1_4o13_3 p3 xz1_4o10_1).bind fun lz1_4o15_3 => ((zEq_L1 N p1 N lz1_4o15_3 (IntKind.i64.wrap (p1 + 1)) (IntKind.i64.wrap (p2 - 1)) : Option (List Int × Int)).bind fun (l16, x17) => some (x17, l16))))))))

set_option linter.unusedVariables false in
def zEq_R (p0 : List Int) (p1 : Int) (p2 : Int) (p3 : Int) (A0 : Option Addr) (c0 : Nat) (r : Int × List Int) (w0 : World) (v : Value) (w : World) : Prop := v = .int .i64 r.1 ∧ St (foots [rowE .u16 45 A0 c0 p0]) w0 w [rowE .u16 45 A0 c0 r.2] ∧ r.2.length = p0.length

set_option maxRecDepth 100000 in
set_option maxHeartbeats 4000000 in
theorem zEq_ok (N : Nat) (p0 : List Int) (p1 : Int) (p2 : Int) (p3 : Int) (A0 : Option Addr) (c0 : Nat) (r : Int × List Int) (hF : zEq N p0 p1 p2 p3 = some r) (w0 : World) (hl : St (foots [rowE .u16 45 A0 c0 p0]) w0 w0 [rowE .u16 45 A0 c0 p0]) :
  Calls Try.prog 61 #[.slice A0 p0.length c0, .int .i64 p1, .int .i64 p2, .int .i64 p3] w0 fun e w => ∃ v, e = .returned v ∧ zEq_R p0 p1 p2 p3 A0 c0 r w0 v w := by
 have hS0 := hl
 unfold zEq at hF
 refine calls_of Try.func61 rfl ⟨((.slice A0 p0.length c0) :: (.int .i64 p1) :: (.int .i64 p2) :: (.int .i64 p3) :: un 80 ([])).toArray, []⟩ (by kernel_rfl) ?_
 refine gx_seq (fun K1 hK2 => ?_)
 refine gx_region ?_
 refine gx_k (.int .i64 0) w0 ?_
 refine gx_nil ?_
 refine gx_thenN ?_
 refine hK2 _ _ ?_
 refine gx_seq (fun K3 hK4 => ?_)
 refine gd_start (fun w => St (foots [rowE .u16 45 A0 c0 p0]) w0 w []) 16 #[false, false, false, false, false, false, false, false, false, false, false, false, false, false, false, false] (by kernel_rfl) (by kernel_rfl) ?_
 have hS7 := hS0.drew
 generalize w0.drew = w6 at hS7 ⊢
 obtain ⟨xz1_4o6_1, hxz1_4o6_2, hF⟩ := bind_in hF
 obtain ⟨xz1_4o10_1, hxz1_4o10_2, hF⟩ := bind_in hF
 obtain ⟨xz1_4o12_1, hxz1_4o12_2, hF⟩ := bind_in hF
 obtain ⟨lz1_4o13_3, hxz1_4o13_4, hF⟩ := bind_in hF
 obtain ⟨xz1_4o14_1, hxz1_4o14_2, hF⟩ := bind_in hF
 obtain ⟨lz1_4o15_3, hxz1_4o15_4, hF⟩ := bind_in hF
 refine gd_share (X := Unit) (fun _ => ⟨((.slice A0 p0.length c0) :: (.int .i64 p1) :: (.int .i64 p2) :: (.int .i64 p3) :: un 4 ((.int .i64 0) :: undef :: undef :: (.slice A0 p0.length c0) :: (.int .i64 p1) :: (.slice A0 p0.length c0) :: (.int .i64 p3) :: (.slice A0 p0.length c0) :: (.int .i64 p3) :: (.pointer (Option.map (fun (p : Addr) => p.add (Int.toNat p3 * 1)) A0)) :: (.int .u16 xz1_4o6_1) :: (.slice A0 p0.length c0) :: (.int .i64 p1) :: (.pointer (Option.map (fun (p : Addr) => p.add (Int.toNat p1 * 1)) A0)) :: (.int .u16 xz1_4o10_1) :: (.pointer (Option.map (fun (p : Addr) => p.add (Int.toNat p1 * 1)) A0)) :: (.pointer (Option.map (fun (p : Addr) => p.add (Int.toNat p3 * 1)) A0)) :: un 59 ([]))).toArray, []⟩) (fun _ w => St (foots [rowE .u16 45 A0 c0 p0]) w0 w [rowE .u16 45 A0 c0 lz1_4o15_3]) ?_ ?_
 ·rintro _ w8 hS9
  have hS9 : St _ _ w8 [rowE .u16 45 A0 c0 lz1_4o15_3] := hS9
  show WQ _ _ ⟨((.slice A0 p0.length c0) :: (.int .i64 p1) :: (.int .i64 p2) :: (.int .i64 p3) :: un 4 ((.int .i64 0) :: undef :: undef :: (.slice A0 p0.length c0) :: (.int .i64 p1) :: (.slice A0 p0.length c0) :: (.int .i64 p3) :: (.slice A0 p0.length c0) :: (.int .i64 p3) :: (.pointer (Option.map (fun (p : Addr) => p.add (Int.toNat p3 * 1)) A0)) :: (.int .u16 xz1_4o6_1) :: (.slice A0 p0.length c0) :: (.int .i64 p1) :: (.pointer (Option.map (fun (p : Addr) => p.add (Int.toNat p1 * 1)) A0)) :: (.int .u16 xz1_4o10_1) :: (.pointer (Option.map (fun (p : Addr) => p.add (Int.toNat p1 * 1)) A0)) :: (.pointer (Option.map (fun (p : Addr) => p.add (Int.toNat p3 * 1)) A0)) :: un 59 ([]))).toArray, []⟩ _
  refine gx_thenN ?_
  refine hK4 _ _ ?_
  refine gx_seq (fun K10 hK11 => ?_)
  refine gx_region ?_
  refine gx_k (.int .i64 p1) w8 (gx_k (.int .i64 (IntKind.i64.wrap (p1 + 1))) w8 (gx_k (.int .i64 p2) w8 (gx_k (.int .i64 (IntKind.i64.wrap (p2 - 1))) w8 (gx_k (.int .i64 (IntKind.i64.wrap (p1 + 1))) w8 (gx_k (.int .i64 (IntKind.i64.wrap (p2 - 1))) w8 ?_)))))
  refine gx_nil ?_
  refine gx_thenN ?_
  refine hK11 _ _ ?_
  obtain ⟨c18, hE19, hO20⟩ := bind_in hF
  refine gx_cut (fun a w => ∃ (l16 : List Int) (x17 : Int), selfA (fun u14 => ⟨((.slice A0 p0.length c0) :: (.int .i64 p1) :: (.int .i64 p2) :: (.int .i64 p3) :: un 4 ((.int .i64 0) :: (.int .i64 x17) :: dd u14 10 2 ((.int .i64 p1) :: (u14 13) :: (.int .i64 p3) :: (u14 15) :: (.int .i64 p3) :: (.pointer (Option.map (fun (p : Addr) => p.add (Int.toNat p3 * 1)) A0)) :: (.int .u16 xz1_4o6_1) :: (u14 19) :: (.int .i64 p1) :: (.pointer (Option.map (fun (p : Addr) => p.add (Int.toNat p1 * 1)) A0)) :: (.int .u16 xz1_4o10_1) :: (.pointer (Option.map (fun (p : Addr) => p.add (Int.toNat p1 * 1)) A0)) :: (.pointer (Option.map (fun (p : Addr) => p.add (Int.toNat p3 * 1)) A0)) :: (.int .i64 p1) :: (.int .i64 (IntKind.i64.wrap (p1 + 1))) :: (.int .i64 p2) :: (.int .i64 (IntKind.i64.wrap (p2 - 1))) :: dd u14 29 54 (undef :: [])))).toArray, []⟩) a ∧ (l16, x17) = c18 ∧ St (foots [rowE .u16 45 A0 c0 p0]) w0 w [rowE .u16 45 A0 c0 l16] ∧ p0.length = l16.length) ?_ ?_
  ·refine gx_block ?_
   refine gx_loop (fun k a w => ∃ (l25 : List Int) (x26 : Int) (x27 : Int), selfA (fun u23 => ⟨((.slice A0 p0.length c0) :: (.int .i64 p1) :: (.int .i64 p2) :: (.int .i64 p3) :: un 4 ((.int .i64 0) :: (.int .i64 x26) :: (.int .i64 x27) :: (u23 11) :: (.int .i64 p1) :: (u23 13) :: (.int .i64 p3) :: (u23 15) :: (.int .i64 p3) :: (.pointer (Option.map (fun (p : Addr) => p.add (Int.toNat p3 * 1)) A0)) :: (.int .u16 xz1_4o6_1) :: (u23 19) :: (.int .i64 p1) :: (.pointer (Option.map (fun (p : Addr) => p.add (Int.toNat p1 * 1)) A0)) :: (.int .u16 xz1_4o10_1) :: (.pointer (Option.map (fun (p : Addr) => p.add (Int.toNat p1 * 1)) A0)) :: (.pointer (Option.map (fun (p : Addr) => p.add (Int.toNat p3 * 1)) A0)) :: (.int .i64 p1) :: (.int .i64 (IntKind.i64.wrap (p1 + 1))) :: (.int .i64 p2) :: (.int .i64 (IntKind.i64.wrap (p2 - 1))) :: dd u23 29 54 (undef :: []))).toArray, []⟩) a ∧ zEq_L1 N p1 k l25 x26 x27 = some c18 ∧ St (foots [rowE .u16 45 A0 c0 p0]) w0 w [rowE .u16 45 A0 c0 l25] ∧ p0.length = l25.length) N ?_ ?_
   ·exact ⟨lz1_4o15_3, (IntKind.i64.wrap (p1 + 1)), (IntKind.i64.wrap (p2 - 1)), selfA_i (by kernel_rfl), hE19, hS9, ((setx_len hxz1_4o13_4).symm.trans (setx_len hxz1_4o15_4).symm)⟩
   ·rintro k28 _ w21 ⟨l25, x26, x27, hq109, hL29, hS22, hn24⟩
    obtain ⟨u23, rfl⟩ := selfA_u hq109
    cases k28 with
    | zero => cases hL29
    | succ k28 =>
     first | rw [zEq_L1] at hL29 | unfold zEq_L1 at hL29
     refine gx_block ?_
     obtain ⟨c34, hE35, hO36⟩ := bind_in hL29
     refine gx_cut (fun a w => ∃ (x33 : Int), selfA (fun u32 => ⟨((.slice A0 p0.length c0) :: (.int .i64 p1) :: (.int .i64 p2) :: (.int .i64 p3) :: un 4 ((.int .i64 0) :: (.int .i64 x33) :: (.int .i64 x27) :: (u23 11) :: (.int .i64 p1) :: (u23 13) :: (.int .i64 p3) :: (u23 15) :: (.int .i64 p3) :: (.pointer (Option.map (fun (p : Addr) => p.add (Int.toNat p3 * 1)) A0)) :: (.int .u16 xz1_4o6_1) :: (u23 19) :: (.int .i64 p1) :: (.pointer (Option.map (fun (p : Addr) => p.add (Int.toNat p1 * 1)) A0)) :: (.int .u16 xz1_4o10_1) :: (.pointer (Option.map (fun (p : Addr) => p.add (Int.toNat p1 * 1)) A0)) :: (.pointer (Option.map (fun (p : Addr) => p.add (Int.toNat p3 * 1)) A0)) :: (.int .i64 p1) :: (.int .i64 (IntKind.i64.wrap (p1 + 1))) :: (.int .i64 p2) :: (.int .i64 (IntKind.i64.wrap (p2 - 1))) :: dd u32 29 17 (dd u23 46 37 (undef :: [])))).toArray, []⟩) a ∧ x33 = c34 ∧ St (foots [rowE .u16 45 A0 c0 p0]) w0 w [rowE .u16 45 A0 c0 l25]) ?_ ?_
     ·refine gx_block ?_
      refine gx_loop (fun k a w => ∃ (x40 : Int), selfA (fun u39 => ⟨((.slice A0 p0.length c0) :: (.int .i64 p1) :: (.int .i64 p2) :: (.int .i64 p3) :: un 4 ((.int .i64 0) :: (.int .i64 x40) :: (.int .i64 x27) :: (u23 11) :: (.int .i64 p1) :: (u23 13) :: (.int .i64 p3) :: (u23 15) :: (.int .i64 p3) :: (.pointer (Option.map (fun (p : Addr) => p.add (Int.toNat p3 * 1)) A0)) :: (.int .u16 xz1_4o6_1) :: (u23 19) :: (.int .i64 p1) :: (.pointer (Option.map (fun (p : Addr) => p.add (Int.toNat p1 * 1)) A0)) :: (.int .u16 xz1_4o10_1) :: (.pointer (Option.map (fun (p : Addr) => p.add (Int.toNat p1 * 1)) A0)) :: (.pointer (Option.map (fun (p : Addr) => p.add (Int.toNat p3 * 1)) A0)) :: (.int .i64 p1) :: (.int .i64 (IntKind.i64.wrap (p1 + 1))) :: (.int .i64 p2) :: (.int .i64 (IntKind.i64.wrap (p2 - 1))) :: dd u39 29 17 (dd u23 46 37 (undef :: [])))).toArray, []⟩) a ∧ zEq_L2 N p1 l25 x27 k x40 = some c34 ∧ St (foots [rowE .u16 45 A0 c0 p0]) w0 w [rowE .u16 45 A0 c0 l25]) N ?_ ?_
      ·exact ⟨x26, selfA_i (by kernel_rfl), hE35, hS22⟩
      ·rintro k41 _ w37 ⟨x40, hq60, hL42, hS38⟩
       obtain ⟨u39, rfl⟩ := selfA_u hq60
       cases k41 with
       | zero => cases hL42
       | succ k41 =>
        first | rw [zEq_L2] at hL42 | unfold zEq_L2 at hL42
        refine gx_seq (fun K43 hK44 => ?_)
        refine gx_seq (fun K45 hK46 => ?_)
        refine gd_start (fun w => St (foots [rowE .u16 45 A0 c0 p0]) w0 w [rowE .u16 45 A0 c0 l25]) 15 #[false, false, false, false, false, false, false, false, false, false, false, false, false, false, false] (by kernel_rfl) (by kernel_rfl) ?_
        have hS48 := hS38.drew
        generalize w37.drew = w47 at hS48 ⊢
        refine gd1 0 { dst := some 29, op := _, type := _, pos := _, after := _, guard := _ } (.int .i64 x40) rfl hS48 (fun w hSw => by kernel_rfl) ?_
        refine gd1 1 { dst := some 30, op := _, type := _, pos := _, after := _, guard := _ } (.int .i64 x27) rfl hS48 (fun w hSw => by kernel_rfl) ?_
        rcases if_in hL42 with ⟨h49, hL42⟩ | ⟨h49, hL42⟩
        ·refine gd1 2 { dst := some 31, op := _, type := _, pos := _, after := _, guard := _ } (.bool true) rfl hS48 (fun w hSw => run_boolE (decide_eq_true h49) (by kernel_rfl)) ?_
         refine gd1 3 { dst := some 32, op := _, type := _, pos := _, after := _, guard := _ } (.bool true) rfl hS48 (fun w hSw => by kernel_rfl) ?_
         refine gd1 4 { dst := some 33, op := _, type := _, pos := _, after := _, guard := _ } (.slice A0 p0.length c0) rfl hS48 (fun w hSw => by kernel_rfl) ?_
         refine gd1 5 { dst := some 34, op := _, type := _, pos := _, after := _, guard := _ } (.int .i64 p1) rfl hS48 (fun w hSw => by kernel_rfl) ?_
         obtain ⟨x50, hx51, hL42⟩ := bind_in hL42
         refine gd1 6 { dst := some 35, op := _, type := _, pos := _, after := _, guard := _ } (.pointer (Option.map (fun (p : Addr) => p.add (Int.toNat p1 * 1)) A0)) rfl hS48 (fun w hSw => run_ixaddr (E := 45) (s := 1) (k := .i64) (c := c0) rfl (by kernel_rfl) (by kernel_rfl) (by kernel_rfl) (fun _ => by kernel_rfl) (ix_in hx51).1 (lt_len hn24 (ix_in hx51).2.1) (nil_len hn24 (num_nil (hS48.row 0 rfl).1))) ?_
         refine gd1 7 { dst := some 36, op := _, type := _, pos := _, after := _, guard := _ } (.int .u16 x50) rfl hS48 (fun w hSw => run_loadix rfl (by kernel_rfl) (fun _ => by kernel_rfl) (hSw.row 0 rfl).1 hx51) ?_
         refine gd1 8 { dst := some 37, op := _, type := _, pos := _, after := _, guard := _ } (.slice A0 p0.length c0) rfl hS48 (fun w hSw => by kernel_rfl) ?_
         refine gd1 9 { dst := some 38, op := _, type := _, pos := _, after := _, guard := _ } (.int .i64 x40) rfl hS48 (fun w hSw => by kernel_rfl) ?_
         obtain ⟨x52, hx53, hL42⟩ := bind_in hL42
         refine gd1 10 { dst := some 39, op := _, type := _, pos := _, after := _, guard := _ } (.pointer (Option.map (fun (p : Addr) => p.add (Int.toNat x40 * 1)) A0)) rfl hS48 (fun w hSw => run_ixaddr (E := 45) (s := 1) (k := .i64) (c := c0) rfl (by kernel_rfl) (by kernel_rfl) (by kernel_rfl) (fun _ => by kernel_rfl) (ix_in hx53).1 (lt_len hn24 (ix_in hx53).2.1) (nil_len hn24 (num_nil (hS48.row 0 rfl).1))) ?_
         refine gd1 11 { dst := some 40, op := _, type := _, pos := _, after := _, guard := _ } (.int .u16 x52) rfl hS48 (fun w hSw => run_loadix rfl (by kernel_rfl) (fun _ => by kernel_rfl) (hSw.row 0 rfl).1 hx53) ?_
         have hP54 : St _ _ w47 ([] ++ [rowE .u16 45 A0 c0 l25]) := hS48
         obtain ⟨b56, hc55, hL42⟩ := bind_in hL42
         try dsimp only at hL42
         refine gdC 12 { dst := some 41, op := _, type := _, pos := _, after := _, guard := _ } (zLess_R b56 w47) rfl (by kernel_rfl) (zLess_ok N x50 x52 _ hc55 w47 ) ?_
         rintro _ w57 ⟨rfl, hT59⟩
         have hS58 : St _ _ w57 [rowE .u16 45 A0 c0 l25] := hS48.take _ hT59
         refine ⟨hS58, ?_⟩
         cases b56 with
         | true =>
          try dsimp only at hL42
          refine gd1 13 { dst := some 42, op := _, type := _, pos := _, after := _, guard := _ } (.bool false) rfl hS58 (fun w hSw => by kernel_rfl) ?_
          refine gd1 14 { dst := some 43, op := _, type := _, pos := _, after := _, guard := _ } (.bool false) rfl hS58 (fun w hSw => by kernel_rfl) ?_
          refine gd_done (by kernel_rfl) ?_
          refine gx_thenN ?_
          refine hK46 _ _ ?_
          refine gx_no (by kernel_rfl) ?_
          refine gx_exit ?_
          refine gx_thenE ?_
          refine gx_thenE ?_
          refine gx_blkE ?_
          refine gx_thenN ?_
          exact ⟨x40, selfA_i (by kernel_rfl), (Option.some.inj hL42), hS58⟩
         | false =>
          try dsimp only at hL42
          refine gd1 13 { dst := some 42, op := _, type := _, pos := _, after := _, guard := _ } (.bool true) rfl hS58 (fun w hSw => by kernel_rfl) ?_
          refine gd1 14 { dst := some 43, op := _, type := _, pos := _, after := _, guard := _ } (.bool true) rfl hS58 (fun w hSw => by kernel_rfl) ?_
          refine gd_done (by kernel_rfl) ?_
          refine gx_thenN ?_
          refine hK46 _ _ ?_
          refine gx_yes (by kernel_rfl) ?_
          refine gx_pass ?_
          refine gx_thenN ?_
          refine hK44 _ _ ?_
          refine gx_block ?_
          refine gx_region ?_
          refine gx_k (.int .i64 x40) w57 (gx_k (.int .i64 (IntKind.i64.wrap (x40 + 1))) w57 (gx_k (.int .i64 (IntKind.i64.wrap (x40 + 1))) w57 ?_))
          refine gx_nil ?_
          refine gx_blkN ?_
          refine gx_thenN ?_
          exact ⟨k41, Nat.lt_succ_self k41, (IntKind.i64.wrap (x40 + 1)), selfA_i (by kernel_rfl), hL42, hS58⟩
        ·refine gd1 2 { dst := some 31, op := _, type := _, pos := _, after := _, guard := _ } (.bool false) rfl hS48 (fun w hSw => run_boolE (decide_eq_false h49) (by kernel_rfl)) ?_
         refine gd1 3 { dst := some 32, op := _, type := _, pos := _, after := _, guard := _ } (.bool false) rfl hS48 (fun w hSw => by kernel_rfl) ?_
         refine gd0 4 { dst := some 33, op := _, type := _, pos := _, after := _, guard := _ } rfl hS48 ?_
         refine gd0 5 { dst := some 34, op := _, type := _, pos := _, after := _, guard := _ } rfl hS48 ?_
         refine gd0 6 { dst := some 35, op := _, type := _, pos := _, after := _, guard := _ } rfl hS48 ?_
         refine gd0 7 { dst := some 36, op := _, type := _, pos := _, after := _, guard := _ } rfl hS48 ?_
         refine gd0 8 { dst := some 37, op := _, type := _, pos := _, after := _, guard := _ } rfl hS48 ?_
         refine gd0 9 { dst := some 38, op := _, type := _, pos := _, after := _, guard := _ } rfl hS48 ?_
         refine gd0 10 { dst := some 39, op := _, type := _, pos := _, after := _, guard := _ } rfl hS48 ?_
         refine gd0 11 { dst := some 40, op := _, type := _, pos := _, after := _, guard := _ } rfl hS48 ?_
         refine gd0 12 { dst := some 41, op := _, type := _, pos := _, after := _, guard := _ } rfl hS48 ?_
         refine gd0 13 { dst := some 42, op := _, type := _, pos := _, after := _, guard := _ } rfl hS48 ?_
         refine gd1 14 { dst := some 43, op := _, type := _, pos := _, after := _, guard := _ } (.bool false) rfl hS48 (fun w hSw => by kernel_rfl) ?_
         refine gd_done (by kernel_rfl) ?_
         refine gx_thenN ?_
         refine hK46 _ _ ?_
         refine gx_no (by kernel_rfl) ?_
         refine gx_exit ?_
         refine gx_thenE ?_
         refine gx_thenE ?_
         refine gx_blkE ?_
         refine gx_thenN ?_
         exact ⟨x40, selfA_i (by kernel_rfl), (Option.some.inj hL42), hS48⟩
     ·rintro _ w30 ⟨x33, hq108, rfl, hS31⟩
      obtain ⟨u32, rfl⟩ := selfA_u hq108
      try dsimp only at hO36
      obtain ⟨c65, hE66, hO67⟩ := bind_in hO36
      refine gx_cut (fun a w => ∃ (x64 : Int), selfA (fun u63 => ⟨((.slice A0 p0.length c0) :: (.int .i64 p1) :: (.int .i64 p2) :: (.int .i64 p3) :: un 4 ((.int .i64 0) :: (.int .i64 x33) :: (.int .i64 x64) :: (u23 11) :: (.int .i64 p1) :: (u23 13) :: (.int .i64 p3) :: (u23 15) :: (.int .i64 p3) :: (.pointer (Option.map (fun (p : Addr) => p.add (Int.toNat p3 * 1)) A0)) :: (.int .u16 xz1_4o6_1) :: (u23 19) :: (.int .i64 p1) :: (.pointer (Option.map (fun (p : Addr) => p.add (Int.toNat p1 * 1)) A0)) :: (.int .u16 xz1_4o10_1) :: (.pointer (Option.map (fun (p : Addr) => p.add (Int.toNat p1 * 1)) A0)) :: (.pointer (Option.map (fun (p : Addr) => p.add (Int.toNat p3 * 1)) A0)) :: (.int .i64 p1) :: (.int .i64 (IntKind.i64.wrap (p1 + 1))) :: (.int .i64 p2) :: (.int .i64 (IntKind.i64.wrap (p2 - 1))) :: dd u32 29 17 (dd u63 46 16 (dd u23 62 21 (undef :: []))))).toArray, []⟩) a ∧ x64 = c65 ∧ St (foots [rowE .u16 45 A0 c0 p0]) w0 w [rowE .u16 45 A0 c0 l25]) ?_ ?_
      ·refine gx_block ?_
       refine gx_loop (fun k a w => ∃ (x71 : Int), selfA (fun u70 => ⟨((.slice A0 p0.length c0) :: (.int .i64 p1) :: (.int .i64 p2) :: (.int .i64 p3) :: un 4 ((.int .i64 0) :: (.int .i64 x33) :: (.int .i64 x71) :: (u23 11) :: (.int .i64 p1) :: (u23 13) :: (.int .i64 p3) :: (u23 15) :: (.int .i64 p3) :: (.pointer (Option.map (fun (p : Addr) => p.add (Int.toNat p3 * 1)) A0)) :: (.int .u16 xz1_4o6_1) :: (u23 19) :: (.int .i64 p1) :: (.pointer (Option.map (fun (p : Addr) => p.add (Int.toNat p1 * 1)) A0)) :: (.int .u16 xz1_4o10_1) :: (.pointer (Option.map (fun (p : Addr) => p.add (Int.toNat p1 * 1)) A0)) :: (.pointer (Option.map (fun (p : Addr) => p.add (Int.toNat p3 * 1)) A0)) :: (.int .i64 p1) :: (.int .i64 (IntKind.i64.wrap (p1 + 1))) :: (.int .i64 p2) :: (.int .i64 (IntKind.i64.wrap (p2 - 1))) :: dd u32 29 17 (dd u70 46 16 (dd u23 62 21 (undef :: []))))).toArray, []⟩) a ∧ zEq_L3 N p1 l25 x33 k x71 = some c65 ∧ St (foots [rowE .u16 45 A0 c0 p0]) w0 w [rowE .u16 45 A0 c0 l25]) N ?_ ?_
       ·exact ⟨x27, selfA_i (by kernel_rfl), hE66, hS31⟩
       ·rintro k72 _ w68 ⟨x71, hq91, hL73, hS69⟩
        obtain ⟨u70, rfl⟩ := selfA_u hq91
        cases k72 with
        | zero => cases hL73
        | succ k72 =>
         first | rw [zEq_L3] at hL73 | unfold zEq_L3 at hL73
         refine gx_seq (fun K74 hK75 => ?_)
         refine gx_seq (fun K76 hK77 => ?_)
         refine gd_start (fun w => St (foots [rowE .u16 45 A0 c0 p0]) w0 w [rowE .u16 45 A0 c0 l25]) 14 #[false, false, false, false, false, false, false, false, false, false, false, false, false, false] (by kernel_rfl) (by kernel_rfl) ?_
         have hS79 := hS69.drew
         generalize w68.drew = w78 at hS79 ⊢
         refine gd1 0 { dst := some 46, op := _, type := _, pos := _, after := _, guard := _ } (.int .i64 x33) rfl hS79 (fun w hSw => by kernel_rfl) ?_
         refine gd1 1 { dst := some 47, op := _, type := _, pos := _, after := _, guard := _ } (.int .i64 x71) rfl hS79 (fun w hSw => by kernel_rfl) ?_
         rcases if_in hL73 with ⟨h80, hL73⟩ | ⟨h80, hL73⟩
         ·refine gd1 2 { dst := some 48, op := _, type := _, pos := _, after := _, guard := _ } (.bool true) rfl hS79 (fun w hSw => run_boolE (decide_eq_true h80) (by kernel_rfl)) ?_
          refine gd1 3 { dst := some 49, op := _, type := _, pos := _, after := _, guard := _ } (.bool true) rfl hS79 (fun w hSw => by kernel_rfl) ?_
          refine gd1 4 { dst := some 50, op := _, type := _, pos := _, after := _, guard := _ } (.slice A0 p0.length c0) rfl hS79 (fun w hSw => by kernel_rfl) ?_
          refine gd1 5 { dst := some 51, op := _, type := _, pos := _, after := _, guard := _ } (.int .i64 p1) rfl hS79 (fun w hSw => by kernel_rfl) ?_
          obtain ⟨x81, hx82, hL73⟩ := bind_in hL73
          refine gd1 6 { dst := some 52, op := _, type := _, pos := _, after := _, guard := _ } (.pointer (Option.map (fun (p : Addr) => p.add (Int.toNat p1 * 1)) A0)) rfl hS79 (fun w hSw => run_ixaddr (E := 45) (s := 1) (k := .i64) (c := c0) rfl (by kernel_rfl) (by kernel_rfl) (by kernel_rfl) (fun _ => by kernel_rfl) (ix_in hx82).1 (lt_len hn24 (ix_in hx82).2.1) (nil_len hn24 (num_nil (hS79.row 0 rfl).1))) ?_
          refine gd1 7 { dst := some 53, op := _, type := _, pos := _, after := _, guard := _ } (.int .u16 x81) rfl hS79 (fun w hSw => run_loadix rfl (by kernel_rfl) (fun _ => by kernel_rfl) (hSw.row 0 rfl).1 hx82) ?_
          refine gd1 8 { dst := some 54, op := _, type := _, pos := _, after := _, guard := _ } (.slice A0 p0.length c0) rfl hS79 (fun w hSw => by kernel_rfl) ?_
          refine gd1 9 { dst := some 55, op := _, type := _, pos := _, after := _, guard := _ } (.int .i64 x71) rfl hS79 (fun w hSw => by kernel_rfl) ?_
          obtain ⟨x83, hx84, hL73⟩ := bind_in hL73
          refine gd1 10 { dst := some 56, op := _, type := _, pos := _, after := _, guard := _ } (.pointer (Option.map (fun (p : Addr) => p.add (Int.toNat x71 * 1)) A0)) rfl hS79 (fun w hSw => run_ixaddr (E := 45) (s := 1) (k := .i64) (c := c0) rfl (by kernel_rfl) (by kernel_rfl) (by kernel_rfl) (fun _ => by kernel_rfl) (ix_in hx84).1 (lt_len hn24 (ix_in hx84).2.1) (nil_len hn24 (num_nil (hS79.row 0 rfl).1))) ?_
          refine gd1 11 { dst := some 57, op := _, type := _, pos := _, after := _, guard := _ } (.int .u16 x83) rfl hS79 (fun w hSw => run_loadix rfl (by kernel_rfl) (fun _ => by kernel_rfl) (hSw.row 0 rfl).1 hx84) ?_
          have hP85 : St _ _ w78 ([] ++ [rowE .u16 45 A0 c0 l25]) := hS79
          obtain ⟨b87, hc86, hL73⟩ := bind_in hL73
          try dsimp only at hL73
          refine gdC 12 { dst := some 58, op := _, type := _, pos := _, after := _, guard := _ } (zLess_R b87 w78) rfl (by kernel_rfl) (zLess_ok N x81 x83 _ hc86 w78 ) ?_
          rintro _ w88 ⟨rfl, hT90⟩
          have hS89 : St _ _ w88 [rowE .u16 45 A0 c0 l25] := hS79.take _ hT90
          refine ⟨hS89, ?_⟩
          refine gd1 13 { dst := some 59, op := _, type := _, pos := _, after := _, guard := _ } (.bool b87) rfl hS89 (fun w hSw => by kernel_rfl) ?_
          refine gd_done (by kernel_rfl) ?_
          refine gx_thenN ?_
          refine hK77 _ _ ?_
          cases b87 with
          | true =>
           try dsimp only at hL73
           refine gx_yes (by kernel_rfl) ?_
           refine gx_pass ?_
           refine gx_thenN ?_
           refine hK75 _ _ ?_
           refine gx_block ?_
           refine gx_region ?_
           refine gx_k (.int .i64 x71) w88 (gx_k (.int .i64 (IntKind.i64.wrap (x71 - 1))) w88 (gx_k (.int .i64 (IntKind.i64.wrap (x71 - 1))) w88 ?_))
           refine gx_nil ?_
           refine gx_blkN ?_
           refine gx_thenN ?_
           exact ⟨k72, Nat.lt_succ_self k72, (IntKind.i64.wrap (x71 - 1)), selfA_i (by kernel_rfl), hL73, hS89⟩
          | false =>
           try dsimp only at hL73
           refine gx_no (by kernel_rfl) ?_
           refine gx_exit ?_
           refine gx_thenE ?_
           refine gx_thenE ?_
           refine gx_blkE ?_
           refine gx_thenN ?_
           exact ⟨x71, selfA_i (by kernel_rfl), (Option.some.inj hL73), hS89⟩
         ·refine gd1 2 { dst := some 48, op := _, type := _, pos := _, after := _, guard := _ } (.bool false) rfl hS79 (fun w hSw => run_boolE (decide_eq_false h80) (by kernel_rfl)) ?_
          refine gd1 3 { dst := some 49, op := _, type := _, pos := _, after := _, guard := _ } (.bool false) rfl hS79 (fun w hSw => by kernel_rfl) ?_
          refine gd0 4 { dst := some 50, op := _, type := _, pos := _, after := _, guard := _ } rfl hS79 ?_
          refine gd0 5 { dst := some 51, op := _, type := _, pos := _, after := _, guard := _ } rfl hS79 ?_
          refine gd0 6 { dst := some 52, op := _, type := _, pos := _, after := _, guard := _ } rfl hS79 ?_
          refine gd0 7 { dst := some 53, op := _, type := _, pos := _, after := _, guard := _ } rfl hS79 ?_
          refine gd0 8 { dst := some 54, op := _, type := _, pos := _, after := _, guard := _ } rfl hS79 ?_
          refine gd0 9 { dst := some 55, op := _, type := _, pos := _, after := _, guard := _ } rfl hS79 ?_
          refine gd0 10 { dst := some 56, op := _, type := _, pos := _, after := _, guard := _ } rfl hS79 ?_
          refine gd0 11 { dst := some 57, op := _, type := _, pos := _, after := _, guard := _ } rfl hS79 ?_
          refine gd0 12 { dst := some 58, op := _, type := _, pos := _, after := _, guard := _ } rfl hS79 ?_
          refine gd1 13 { dst := some 59, op := _, type := _, pos := _, after := _, guard := _ } (.bool false) rfl hS79 (fun w hSw => by kernel_rfl) ?_
          refine gd_done (by kernel_rfl) ?_
          refine gx_thenN ?_
          refine hK77 _ _ ?_
          refine gx_no (by kernel_rfl) ?_
          refine gx_exit ?_
          refine gx_thenE ?_
          refine gx_thenE ?_
          refine gx_blkE ?_
          refine gx_thenN ?_
          exact ⟨x71, selfA_i (by kernel_rfl), (Option.some.inj hL73), hS79⟩
      ·rintro _ w61 ⟨x64, hq107, rfl, hS62⟩
       obtain ⟨u63, rfl⟩ := selfA_u hq107
       try dsimp only at hO67
       refine gx_seq (fun K92 hK93 => ?_)
       refine gx_seq (fun K94 hK95 => ?_)
       refine gx_region ?_
       refine gx_k (.int .i64 x33) w61 (gx_k (.int .i64 x64) w61 ?_)
       rcases if_in hO67 with ⟨h96, hO67⟩ | ⟨h96, hO67⟩
       ·refine gx_v (.bool true) w61 (run_boolE (decide_eq_true h96) (by kernel_rfl)) ?_
        refine gx_nil ?_
        refine gx_thenN ?_
        refine hK95 _ _ ?_
        refine gx_yes (by kernel_rfl) ?_
        refine gx_exit ?_
        refine gx_thenE ?_
        refine gx_blkO (by decide) ?_
        refine gx_thenE ?_
        refine gx_blkE ?_
        refine gx_thenN ?_
        exact ⟨l25, x33, selfA_i (by kernel_rfl), (Option.some.inj hO67), hS62, hn24⟩
       ·refine gx_v (.bool false) w61 (run_boolE (decide_eq_false h96) (by kernel_rfl)) ?_
        refine gx_nil ?_
        refine gx_thenN ?_
        refine hK95 _ _ ?_
        refine gx_no (by kernel_rfl) ?_
        refine gx_pass ?_
        refine gx_thenN ?_
        refine hK93 _ _ ?_
        refine gx_seq (fun K97 hK98 => ?_)
        refine gd_start (fun w => St (foots [rowE .u16 45 A0 c0 p0]) w0 w []) 16 #[false, false, false, false, false, false, false, false, false, false, false, false, false, false, false, false] (by kernel_rfl) (by kernel_rfl) ?_
        have hS101 := hS62.drew
        generalize w61.drew = w100 at hS101 ⊢
        obtain ⟨xz8_98o6_1, hxz8_98o6_2, hO67⟩ := bind_in hO67
        obtain ⟨xz8_98o10_1, hxz8_98o10_2, hO67⟩ := bind_in hO67
        obtain ⟨xz8_98o12_1, hxz8_98o12_2, hO67⟩ := bind_in hO67
        obtain ⟨lz8_98o13_3, hxz8_98o13_4, hO67⟩ := bind_in hO67
        obtain ⟨xz8_98o14_1, hxz8_98o14_2, hO67⟩ := bind_in hO67
        obtain ⟨lz8_98o15_3, hxz8_98o15_4, hO67⟩ := bind_in hO67
        refine gd_share (X := Unit) (fun _ => ⟨((.slice A0 p0.length c0) :: (.int .i64 p1) :: (.int .i64 p2) :: (.int .i64 p3) :: un 4 ((.int .i64 0) :: (.int .i64 x33) :: (.int .i64 x64) :: (u23 11) :: (.int .i64 p1) :: (u23 13) :: (.int .i64 p3) :: (u23 15) :: (.int .i64 p3) :: (.pointer (Option.map (fun (p : Addr) => p.add (Int.toNat p3 * 1)) A0)) :: (.int .u16 xz1_4o6_1) :: (u23 19) :: (.int .i64 p1) :: (.pointer (Option.map (fun (p : Addr) => p.add (Int.toNat p1 * 1)) A0)) :: (.int .u16 xz1_4o10_1) :: (.pointer (Option.map (fun (p : Addr) => p.add (Int.toNat p1 * 1)) A0)) :: (.pointer (Option.map (fun (p : Addr) => p.add (Int.toNat p3 * 1)) A0)) :: (.int .i64 p1) :: (.int .i64 (IntKind.i64.wrap (p1 + 1))) :: (.int .i64 p2) :: (.int .i64 (IntKind.i64.wrap (p2 - 1))) :: dd u32 29 17 (dd u63 46 16 ((.int .i64 x33) :: (.int .i64 x64) :: (.bool false) :: (.slice A0 p0.length c0) :: (.int .i64 x33) :: (.slice A0 p0.length c0) :: (.int .i64 x64) :: (.slice A0 p0.length c0) :: (.int .i64 x64) :: (.pointer (Option.map (fun (p : Addr) => p.add (Int.toNat x64 * 1)) A0)) :: (.int .u16 xz8_98o6_1) :: (.slice A0 p0.length c0) :: (.int .i64 x33) :: (.pointer (Option.map (fun (p : Addr) => p.add (Int.toNat x33 * 1)) A0)) :: (.int .u16 xz8_98o10_1) :: (.pointer (Option.map (fun (p : Addr) => p.add (Int.toNat x33 * 1)) A0)) :: (.pointer (Option.map (fun (p : Addr) => p.add (Int.toNat x64 * 1)) A0)) :: dd u23 79 4 (undef :: []))))).toArray, []⟩) (fun _ w => St (foots [rowE .u16 45 A0 c0 p0]) w0 w [rowE .u16 45 A0 c0 lz8_98o15_3]) ?_ ?_
        ·rintro _ w102 hS103
         have hS103 : St _ _ w102 [rowE .u16 45 A0 c0 lz8_98o15_3] := hS103
         show WQ _ _ ⟨((.slice A0 p0.length c0) :: (.int .i64 p1) :: (.int .i64 p2) :: (.int .i64 p3) :: un 4 ((.int .i64 0) :: (.int .i64 x33) :: (.int .i64 x64) :: (u23 11) :: (.int .i64 p1) :: (u23 13) :: (.int .i64 p3) :: (u23 15) :: (.int .i64 p3) :: (.pointer (Option.map (fun (p : Addr) => p.add (Int.toNat p3 * 1)) A0)) :: (.int .u16 xz1_4o6_1) :: (u23 19) :: (.int .i64 p1) :: (.pointer (Option.map (fun (p : Addr) => p.add (Int.toNat p1 * 1)) A0)) :: (.int .u16 xz1_4o10_1) :: (.pointer (Option.map (fun (p : Addr) => p.add (Int.toNat p1 * 1)) A0)) :: (.pointer (Option.map (fun (p : Addr) => p.add (Int.toNat p3 * 1)) A0)) :: (.int .i64 p1) :: (.int .i64 (IntKind.i64.wrap (p1 + 1))) :: (.int .i64 p2) :: (.int .i64 (IntKind.i64.wrap (p2 - 1))) :: dd u32 29 17 (dd u63 46 16 ((.int .i64 x33) :: (.int .i64 x64) :: (.bool false) :: (.slice A0 p0.length c0) :: (.int .i64 x33) :: (.slice A0 p0.length c0) :: (.int .i64 x64) :: (.slice A0 p0.length c0) :: (.int .i64 x64) :: (.pointer (Option.map (fun (p : Addr) => p.add (Int.toNat x64 * 1)) A0)) :: (.int .u16 xz8_98o6_1) :: (.slice A0 p0.length c0) :: (.int .i64 x33) :: (.pointer (Option.map (fun (p : Addr) => p.add (Int.toNat x33 * 1)) A0)) :: (.int .u16 xz8_98o10_1) :: (.pointer (Option.map (fun (p : Addr) => p.add (Int.toNat x33 * 1)) A0)) :: (.pointer (Option.map (fun (p : Addr) => p.add (Int.toNat x64 * 1)) A0)) :: dd u23 79 4 (undef :: []))))).toArray, []⟩ _
         refine gx_thenN ?_
         refine hK98 _ _ ?_
         refine gx_seq (fun K104 hK105 => ?_)
         refine gx_region ?_
         refine gx_k (.int .i64 x33) w102 (gx_k (.int .i64 (IntKind.i64.wrap (x33 + 1))) w102 (gx_k (.int .i64 (IntKind.i64.wrap (x33 + 1))) w102 ?_))
         refine gx_nil ?_
         refine gx_thenN ?_
         refine hK105 _ _ ?_
         refine gx_region ?_
         refine gx_k (.int .i64 x64) w102 (gx_k (.int .i64 (IntKind.i64.wrap (x64 - 1))) w102 (gx_k (.int .i64 (IntKind.i64.wrap (x64 - 1))) w102 ?_))
         refine gx_nil ?_
         refine gx_blkN ?_
         refine gx_thenN ?_
         exact ⟨k28, Nat.lt_succ_self k28, lz8_98o15_3, (IntKind.i64.wrap (x33 + 1)), (IntKind.i64.wrap (x64 - 1)), selfA_i (by kernel_rfl), hO67, hS103, ((hn24.trans (setx_len hxz8_98o13_4).symm).trans (setx_len hxz8_98o15_4).symm)⟩
        ·intro K106
         refine gd1 0 { dst := some 65, op := _, type := _, pos := _, after := _, guard := _ } (.slice A0 p0.length c0) rfl (hS101.pick [] rfl rfl) (fun w hSw => by kernel_rfl) ?_
         refine gd1 1 { dst := some 66, op := _, type := _, pos := _, after := _, guard := _ } (.int .i64 x33) rfl (hS101.pick [] rfl rfl) (fun w hSw => by kernel_rfl) ?_
         refine gd1 2 { dst := some 67, op := _, type := _, pos := _, after := _, guard := _ } (.slice A0 p0.length c0) rfl (hS101.pick [] rfl rfl) (fun w hSw => by kernel_rfl) ?_
         refine gd1 3 { dst := some 68, op := _, type := _, pos := _, after := _, guard := _ } (.int .i64 x64) rfl (hS101.pick [] rfl rfl) (fun w hSw => by kernel_rfl) ?_
         refine gd1 4 { dst := some 69, op := _, type := _, pos := _, after := _, guard := _ } (.slice A0 p0.length c0) rfl (hS101.pick [] rfl rfl) (fun w hSw => by kernel_rfl) ?_
         refine gd1 5 { dst := some 70, op := _, type := _, pos := _, after := _, guard := _ } (.int .i64 x64) rfl (hS101.pick [] rfl rfl) (fun w hSw => by kernel_rfl) ?_
         refine gd1 6 { dst := some 71, op := _, type := _, pos := _, after := _, guard := _ } (.pointer (Option.map (fun (p : Addr) => p.add (Int.toNat x64 * 1)) A0)) rfl (hS101.pick [] rfl rfl) (fun w hSw => run_ixaddr (E := 45) (s := 1) (k := .i64) (c := c0) rfl (by kernel_rfl) (by kernel_rfl) (by kernel_rfl) (fun _ => by kernel_rfl) (ix_in hxz8_98o6_2).1 (lt_len hn24 (ix_in hxz8_98o6_2).2.1) (nil_len hn24 (num_nil (hS101.row 0 rfl).1))) ?_
         refine gd1 8 { dst := some 73, op := _, type := _, pos := _, after := _, guard := _ } (.slice A0 p0.length c0) rfl (hS101.pick [] rfl rfl) (fun w hSw => by kernel_rfl) ?_
         refine gd1 9 { dst := some 74, op := _, type := _, pos := _, after := _, guard := _ } (.int .i64 x33) rfl (hS101.pick [] rfl rfl) (fun w hSw => by kernel_rfl) ?_
         refine gd1 10 { dst := some 75, op := _, type := _, pos := _, after := _, guard := _ } (.pointer (Option.map (fun (p : Addr) => p.add (Int.toNat x33 * 1)) A0)) rfl (hS101.pick [] rfl rfl) (fun w hSw => run_ixaddr (E := 45) (s := 1) (k := .i64) (c := c0) rfl (by kernel_rfl) (by kernel_rfl) (by kernel_rfl) (fun _ => by kernel_rfl) (ix_in hxz8_98o10_2).1 (lt_len hn24 (ix_in hxz8_98o10_2).2.1) (nil_len hn24 (num_nil (hS101.row 0 rfl).1))) ?_
         refine gd_fork2 7 11 { dst := some 72, op := _, type := _, pos := _, after := _, guard := _ } { dst := some 76, op := _, type := _, pos := _, after := _, guard := _ } rfl rfl ?_ ?_
         ·refine gfR 7 { dst := some 72, op := _, type := _, pos := _, after := _, guard := _ } (R := fun v w => v = .int .u16 xz8_98o6_1 ∧ w100 = w) rfl ⟨_, _, run_loadix rfl (by kernel_rfl) (fun _ => by kernel_rfl) (hS101.row 0 rfl).1 hxz8_98o6_2, rfl, rfl⟩ ?_
          rintro _ _ ⟨rfl, rfl⟩
          refine ⟨(hS101.pick [] rfl rfl), ?_⟩
          refine gdR 11 { dst := some 76, op := _, type := _, pos := _, after := _, guard := _ } (R := fun v w => v = .int .u16 xz8_98o10_1 ∧ w100 = w) rfl ⟨_, _, run_loadix rfl (by kernel_rfl) (fun _ => by kernel_rfl) (hS101.row 0 rfl).1 hxz8_98o10_2, rfl, rfl⟩ ?_
          rintro _ _ ⟨rfl, rfl⟩
          refine ⟨(hS101.pick [] rfl rfl), ?_⟩
          refine gd1 12 { dst := some 77, op := _, type := _, pos := _, after := _, guard := _ } (.pointer (Option.map (fun (p : Addr) => p.add (Int.toNat x33 * 1)) A0)) rfl (hS101.pick [] rfl rfl) (fun w hSw => run_ixaddr (E := 45) (s := 1) (k := .i64) (c := c0) rfl (by kernel_rfl) (by kernel_rfl) (by kernel_rfl) (fun _ => by kernel_rfl) (ix_in hxz8_98o12_2).1 (lt_len hn24 (ix_in hxz8_98o12_2).2.1) (nil_len hn24 (num_nil (hS101.row 0 rfl).1))) ?_
          refine gdS 13 { dst := none, op := _, type := _, pos := _, after := _, guard := _ } rfl (st_storeix rfl (by kernel_rfl) (by kernel_rfl) (fun _ => by kernel_rfl) hS101 0 rfl hxz8_98o13_4) ?_
          rintro wz8_98o13_1 hSz8_98o13_2
          have hSz8_98o13_2 : St _ _ wz8_98o13_1 [rowE .u16 45 A0 c0 lz8_98o13_3] := hSz8_98o13_2
          refine ⟨(hSz8_98o13_2.pick [] rfl rfl), ?_⟩
          refine gd1 14 { dst := some 78, op := _, type := _, pos := _, after := _, guard := _ } (.pointer (Option.map (fun (p : Addr) => p.add (Int.toNat x64 * 1)) A0)) rfl (hSz8_98o13_2.pick [] rfl rfl) (fun w hSw => run_ixaddr (E := 45) (s := 1) (k := .i64) (c := c0) rfl (by kernel_rfl) (by kernel_rfl) (by kernel_rfl) (fun _ => by kernel_rfl) (ix_in hxz8_98o14_2).1 (lt_len (hn24.trans (setx_len hxz8_98o13_4).symm) (ix_in hxz8_98o14_2).2.1) (nil_len (hn24.trans (setx_len hxz8_98o13_4).symm) (num_nil (hSz8_98o13_2.row 0 rfl).1))) ?_
          refine gdS 15 { dst := none, op := _, type := _, pos := _, after := _, guard := _ } rfl (st_storeix rfl (by kernel_rfl) (by kernel_rfl) (fun _ => by kernel_rfl) hSz8_98o13_2 0 rfl hxz8_98o15_4) ?_
          rintro wz8_98o15_1 hSz8_98o15_2
          have hSz8_98o15_2 : St _ _ wz8_98o15_1 [rowE .u16 45 A0 c0 lz8_98o15_3] := hSz8_98o15_2
          refine ⟨(hSz8_98o15_2.pick [] rfl rfl), ?_⟩
          exact gd_meet (by kernel_rfl) (by kernel_rfl) (K106 () _ hSz8_98o15_2)
         ·refine gfR 11 { dst := some 76, op := _, type := _, pos := _, after := _, guard := _ } (R := fun v w => v = .int .u16 xz8_98o10_1 ∧ w100 = w) rfl ⟨_, _, run_loadix rfl (by kernel_rfl) (fun _ => by kernel_rfl) (hS101.row 0 rfl).1 hxz8_98o10_2, rfl, rfl⟩ ?_
          rintro _ _ ⟨rfl, rfl⟩
          refine ⟨(hS101.pick [] rfl rfl), ?_⟩
          refine gdR 7 { dst := some 72, op := _, type := _, pos := _, after := _, guard := _ } (R := fun v w => v = .int .u16 xz8_98o6_1 ∧ w100 = w) rfl ⟨_, _, run_loadix rfl (by kernel_rfl) (fun _ => by kernel_rfl) (hS101.row 0 rfl).1 hxz8_98o6_2, rfl, rfl⟩ ?_
          rintro _ _ ⟨rfl, rfl⟩
          refine ⟨(hS101.pick [] rfl rfl), ?_⟩
          refine gd1 12 { dst := some 77, op := _, type := _, pos := _, after := _, guard := _ } (.pointer (Option.map (fun (p : Addr) => p.add (Int.toNat x33 * 1)) A0)) rfl (hS101.pick [] rfl rfl) (fun w hSw => run_ixaddr (E := 45) (s := 1) (k := .i64) (c := c0) rfl (by kernel_rfl) (by kernel_rfl) (by kernel_rfl) (fun _ => by kernel_rfl) (ix_in hxz8_98o12_2).1 (lt_len hn24 (ix_in hxz8_98o12_2).2.1) (nil_len hn24 (num_nil (hS101.row 0 rfl).1))) ?_
          refine gdS 13 { dst := none, op := _, type := _, pos := _, after := _, guard := _ } rfl (st_storeix rfl (by kernel_rfl) (by kernel_rfl) (fun _ => by kernel_rfl) hS101 0 rfl hxz8_98o13_4) ?_
          rintro wz8_98o13_1 hSz8_98o13_2
          have hSz8_98o13_2 : St _ _ wz8_98o13_1 [rowE .u16 45 A0 c0 lz8_98o13_3] := hSz8_98o13_2
          refine ⟨(hSz8_98o13_2.pick [] rfl rfl), ?_⟩
          refine gd1 14 { dst := some 78, op := _, type := _, pos := _, after := _, guard := _ } (.pointer (Option.map (fun (p : Addr) => p.add (Int.toNat x64 * 1)) A0)) rfl (hSz8_98o13_2.pick [] rfl rfl) (fun w hSw => run_ixaddr (E := 45) (s := 1) (k := .i64) (c := c0) rfl (by kernel_rfl) (by kernel_rfl) (by kernel_rfl) (fun _ => by kernel_rfl) (ix_in hxz8_98o14_2).1 (lt_len (hn24.trans (setx_len hxz8_98o13_4).symm) (ix_in hxz8_98o14_2).2.1) (nil_len (hn24.trans (setx_len hxz8_98o13_4).symm) (num_nil (hSz8_98o13_2.row 0 rfl).1))) ?_
          refine gdS 15 { dst := none, op := _, type := _, pos := _, after := _, guard := _ } rfl (st_storeix rfl (by kernel_rfl) (by kernel_rfl) (fun _ => by kernel_rfl) hSz8_98o13_2 0 rfl hxz8_98o15_4) ?_
          rintro wz8_98o15_1 hSz8_98o15_2
          have hSz8_98o15_2 : St _ _ wz8_98o15_1 [rowE .u16 45 A0 c0 lz8_98o15_3] := hSz8_98o15_2
          refine ⟨(hSz8_98o15_2.pick [] rfl rfl), ?_⟩
          exact gd_meet (by kernel_rfl) (by kernel_rfl) (K106 () _ hSz8_98o15_2)
  ·rintro _ w12 ⟨l16, x17, hq112, rfl, hS13, hn15⟩
   obtain ⟨u14, rfl⟩ := selfA_u hq112
   try dsimp only at hO20
   refine gx_seq (fun K110 hK111 => ?_)
   refine gx_region ?_
   refine gx_k (.int .i64 x17) w12 (gx_k (.int .i64 x17) w12 ?_)
   refine gx_nil ?_
   refine gx_thenN ?_
   refine hK111 _ _ ?_
   refine gx_ret ?_
   obtain rfl := Option.some.inj hO20
   exact gx_fin (.int .i64 x17) (by kernel_rfl) (by kernel_rfl) ⟨_, rfl, rfl, hS13, (hn15).symm⟩
 ·intro K113
  refine gd1 0 { dst := some 11, op := _, type := _, pos := _, after := _, guard := _ } (.slice A0 p0.length c0) rfl (hS7.pick [] rfl rfl) (fun w hSw => by kernel_rfl) ?_
  refine gd1 1 { dst := some 12, op := _, type := _, pos := _, after := _, guard := _ } (.int .i64 p1) rfl (hS7.pick [] rfl rfl) (fun w hSw => by kernel_rfl) ?_
  refine gd1 2 { dst := some 13, op := _, type := _, pos := _, after := _, guard := _ } (.slice A0 p0.length c0) rfl (hS7.pick [] rfl rfl) (fun w hSw => by kernel_rfl) ?_
  refine gd1 3 { dst := some 14, op := _, type := _, pos := _, after := _, guard := _ } (.int .i64 p3) rfl (hS7.pick [] rfl rfl) (fun w hSw => by kernel_rfl) ?_
  refine gd1 4 { dst := some 15, op := _, type := _, pos := _, after := _, guard := _ } (.slice A0 p0.length c0) rfl (hS7.pick [] rfl rfl) (fun w hSw => by kernel_rfl) ?_
  refine gd1 5 { dst := some 16, op := _, type := _, pos := _, after := _, guard := _ } (.int .i64 p3) rfl (hS7.pick [] rfl rfl) (fun w hSw => by kernel_rfl) ?_
  refine gd1 6 { dst := some 17, op := _, type := _, pos := _, after := _, guard := _ } (.pointer (Option.map (fun (p : Addr) => p.add (Int.toNat p3 * 1)) A0)) rfl (hS7.pick [] rfl rfl) (fun w hSw => run_ixaddr (E := 45) (s := 1) (k := .i64) (c := c0) rfl (by kernel_rfl) (by kernel_rfl) (by kernel_rfl) (fun _ => by kernel_rfl) (ix_in hxz1_4o6_2).1 (ix_in hxz1_4o6_2).2.1 (num_nil (hS7.row 0 rfl).1)) ?_
  refine gd1 8 { dst := some 19, op := _, type := _, pos := _, after := _, guard := _ } (.slice A0 p0.length c0) rfl (hS7.pick [] rfl rfl) (fun w hSw => by kernel_rfl) ?_
  refine gd1 9 { dst := some 20, op := _, type := _, pos := _, after := _, guard := _ } (.int .i64 p1) rfl (hS7.pick [] rfl rfl) (fun w hSw => by kernel_rfl) ?_
  refine gd1 10 { dst := some 21, op := _, type := _, pos := _, after := _, guard := _ } (.pointer (Option.map (fun (p : Addr) => p.add (Int.toNat p1 * 1)) A0)) rfl (hS7.pick [] rfl rfl) (fun w hSw => run_ixaddr (E := 45) (s := 1) (k := .i64) (c := c0) rfl (by kernel_rfl) (by kernel_rfl) (by kernel_rfl) (fun _ => by kernel_rfl) (ix_in hxz1_4o10_2).1 (ix_in hxz1_4o10_2).2.1 (num_nil (hS7.row 0 rfl).1)) ?_
  refine gd_fork2 7 11 { dst := some 18, op := _, type := _, pos := _, after := _, guard := _ } { dst := some 22, op := _, type := _, pos := _, after := _, guard := _ } rfl rfl ?_ ?_
  ·refine gfR 7 { dst := some 18, op := _, type := _, pos := _, after := _, guard := _ } (R := fun v w => v = .int .u16 xz1_4o6_1 ∧ w6 = w) rfl ⟨_, _, run_loadix rfl (by kernel_rfl) (fun _ => by kernel_rfl) (hS7.row 0 rfl).1 hxz1_4o6_2, rfl, rfl⟩ ?_
   rintro _ _ ⟨rfl, rfl⟩
   refine ⟨(hS7.pick [] rfl rfl), ?_⟩
   refine gdR 11 { dst := some 22, op := _, type := _, pos := _, after := _, guard := _ } (R := fun v w => v = .int .u16 xz1_4o10_1 ∧ w6 = w) rfl ⟨_, _, run_loadix rfl (by kernel_rfl) (fun _ => by kernel_rfl) (hS7.row 0 rfl).1 hxz1_4o10_2, rfl, rfl⟩ ?_
   rintro _ _ ⟨rfl, rfl⟩
   refine ⟨(hS7.pick [] rfl rfl), ?_⟩
   refine gd1 12 { dst := some 23, op := _, type := _, pos := _, after := _, guard := _ } (.pointer (Option.map (fun (p : Addr) => p.add (Int.toNat p1 * 1)) A0)) rfl (hS7.pick [] rfl rfl) (fun w hSw => run_ixaddr (E := 45) (s := 1) (k := .i64) (c := c0) rfl (by kernel_rfl) (by kernel_rfl) (by kernel_rfl) (fun _ => by kernel_rfl) (ix_in hxz1_4o12_2).1 (ix_in hxz1_4o12_2).2.1 (num_nil (hS7.row 0 rfl).1)) ?_
   refine gdS 13 { dst := none, op := _, type := _, pos := _, after := _, guard := _ } rfl (st_storeix rfl (by kernel_rfl) (by kernel_rfl) (fun _ => by kernel_rfl) hS7 0 rfl hxz1_4o13_4) ?_
   rintro wz1_4o13_1 hSz1_4o13_2
   have hSz1_4o13_2 : St _ _ wz1_4o13_1 [rowE .u16 45 A0 c0 lz1_4o13_3] := hSz1_4o13_2
   refine ⟨(hSz1_4o13_2.pick [] rfl rfl), ?_⟩
   refine gd1 14 { dst := some 24, op := _, type := _, pos := _, after := _, guard := _ } (.pointer (Option.map (fun (p : Addr) => p.add (Int.toNat p3 * 1)) A0)) rfl (hSz1_4o13_2.pick [] rfl rfl) (fun w hSw => run_ixaddr (E := 45) (s := 1) (k := .i64) (c := c0) rfl (by kernel_rfl) (by kernel_rfl) (by kernel_rfl) (fun _ => by kernel_rfl) (ix_in hxz1_4o14_2).1 (lt_len (setx_len hxz1_4o13_4).symm (ix_in hxz1_4o14_2).2.1) (nil_len (setx_len hxz1_4o13_4).symm (num_nil (hSz1_4o13_2.row 0 rfl).1))) ?_
   refine gdS 15 { dst := none, op := _, type := _, pos := _, after := _, guard := _ } rfl (st_storeix rfl (by kernel_rfl) (by kernel_rfl) (fun _ => by kernel_rfl) hSz1_4o13_2 0 rfl hxz1_4o15_4) ?_
   rintro wz1_4o15_1 hSz1_4o15_2
   have hSz1_4o15_2 : St _ _ wz1_4o15_1 [rowE .u16 45 A0 c0 lz1_4o15_3] := hSz1_4o15_2
   refine ⟨(hSz1_4o15_2.pick [] rfl rfl), ?_⟩
   exact gd_meet (by kernel_rfl) (by kernel_rfl) (K113 () _ hSz1_4o15_2)
  ·refine gfR 11 { dst := some 22, op := _, type := _, pos := _, after := _, guard := _ } (R := fun v w => v = .int .u16 xz1_4o10_1 ∧ w6 = w) rfl ⟨_, _, run_loadix rfl (by kernel_rfl) (fun _ => by kernel_rfl) (hS7.row 0 rfl).1 hxz1_4o10_2, rfl, rfl⟩ ?_
   rintro _ _ ⟨rfl, rfl⟩
   refine ⟨(hS7.pick [] rfl rfl), ?_⟩
   refine gdR 7 { dst := some 18, op := _, type := _, pos := _, after := _, guard := _ } (R := fun v w => v = .int .u16 xz1_4o6_1 ∧ w6 = w) rfl ⟨_, _, run_loadix rfl (by kernel_rfl) (fun _ => by kernel_rfl) (hS7.row 0 rfl).1 hxz1_4o6_2, rfl, rfl⟩ ?_
   rintro _ _ ⟨rfl, rfl⟩
   refine ⟨(hS7.pick [] rfl rfl), ?_⟩
   refine gd1 12 { dst := some 23, op := _, type := _, pos := _, after := _, guard := _ } (.pointer (Option.map (fun (p : Addr) => p.add (Int.toNat p1 * 1)) A0)) rfl (hS7.pick [] rfl rfl) (fun w hSw => run_ixaddr (E := 45) (s := 1) (k := .i64) (c := c0) rfl (by kernel_rfl) (by kernel_rfl) (by kernel_rfl) (fun _ => by kernel_rfl) (ix_in hxz1_4o12_2).1 (ix_in hxz1_4o12_2).2.1 (num_nil (hS7.row 0 rfl).1)) ?_
   refine gdS 13 { dst := none, op := _, type := _, pos := _, after := _, guard := _ } rfl (st_storeix rfl (by kernel_rfl) (by kernel_rfl) (fun _ => by kernel_rfl) hS7 0 rfl hxz1_4o13_4) ?_
   rintro wz1_4o13_1 hSz1_4o13_2
   have hSz1_4o13_2 : St _ _ wz1_4o13_1 [rowE .u16 45 A0 c0 lz1_4o13_3] := hSz1_4o13_2
   refine ⟨(hSz1_4o13_2.pick [] rfl rfl), ?_⟩
   refine gd1 14 { dst := some 24, op := _, type := _, pos := _, after := _, guard := _ } (.pointer (Option.map (fun (p : Addr) => p.add (Int.toNat p3 * 1)) A0)) rfl (hSz1_4o13_2.pick [] rfl rfl) (fun w hSw => run_ixaddr (E := 45) (s := 1) (k := .i64) (c := c0) rfl (by kernel_rfl) (by kernel_rfl) (by kernel_rfl) (fun _ => by kernel_rfl) (ix_in hxz1_4o14_2).1 (lt_len (setx_len hxz1_4o13_4).symm (ix_in hxz1_4o14_2).2.1) (nil_len (setx_len hxz1_4o13_4).symm (num_nil (hSz1_4o13_2.row 0 rfl).1))) ?_
   refine gdS 15 { dst := none, op := _, type := _, pos := _, after := _, guard := _ } rfl (st_storeix rfl (by kernel_rfl) (by kernel_rfl) (fun _ => by kernel_rfl) hSz1_4o13_2 0 rfl hxz1_4o15_4) ?_
   rintro wz1_4o15_1 hSz1_4o15_2
   have hSz1_4o15_2 : St _ _ wz1_4o15_1 [rowE .u16 45 A0 c0 lz1_4o15_3] := hSz1_4o15_2
   refine ⟨(hSz1_4o15_2.pick [] rfl rfl), ?_⟩
   exact gd_meet (by kernel_rfl) (by kernel_rfl) (K113 () _ hSz1_4o15_2)

def zCut_L1 (N : Nat) (p1 : Int) (p2 : Int) (lz1_4o15_3 : List Int) : Nat → Int → Option (Int)
 | 0, _ => none
 | k23+1, x22 => (if x22 ≤ (IntKind.i64.wrap (p2 - 1)) then ((ix lz1_4o15_3 x22).bind fun x32 => ((ix lz1_4o15_3 p1).bind fun x34 => ((zLess N x32 x34).bind fun b38 => (match b38 with | true => zCut_L1 N p1 p2 lz1_4o15_3 k23 (IntKind.i64.wrap (x22 + 1)) | false => some (x22))))) else some (x22))
def zCut_L2 (N : Nat) (p1 : Int) (lz1_4o15_3 : List Int) (x15 : Int) : Nat → Int → Option (Int)
 | 0, _ => none
 | k54+1, x53 => (if x15 ≤ x53 then ((ix lz1_4o15_3 x53).bind fun x63 => ((ix lz1_4o15_3 p1).bind fun x65 => ((zLess N x63 x65).bind fun b69 => (match b69 with | true => some (x53) | false => zCut_L2 N p1 lz1_4o15_3 x15 k54 (IntKind.i64.wrap (x53 - 1)))))) else some (x53))
def zCut_L4 (N : Nat) (p1 : Int) (l113 : List Int) (x115 : Int) : Nat → Int → Option (Int)
 | 0, _ => none
 | k129+1, x128 => (if x128 ≤ x115 then ((ix l113 x128).bind fun x138 => ((ix l113 p1).bind fun x140 => ((zLess N x138 x140).bind fun b144 => (match b144 with | true => zCut_L4 N p1 l113 x115 k129 (IntKind.i64.wrap (x128 + 1)) | false => some (x128))))) else some (x128))
def zCut_L5 (N : Nat) (p1 : Int) (l113 : List Int) (x121 : Int) : Nat → Int → Option (Int)
 | 0, _ => none
 | k160+1, x159 => (if x121 ≤ x159 then ((ix l113 x159).bind fun x169 => ((ix l113 p1).bind fun x171 => ((zLess N x169 x171).bind fun b175 => (match b175 with | true => some (x159) | false => zCut_L5 N p1 l113 x121 k160 (IntKind.i64.wrap (x159 - 1)))))) else some (x159))
def zCut_L3 (N : Nat) (p1 : Int) : Nat → (List Int) → Int → Int → Option (List Int × Int)
 | 0, _, _, _ => none
 | k116+1, l113, x114, x115 => ((zCut_L4 N p1 l113 x115 N x114 : Option (Int)).bind fun x121 => ((zCut_L5 N p1 l113 x121 N x115 : Option (Int)).bind fun x152 => (if x121 > x152 then some ((l113, x152)) else ((ix l113 x152).bind fun xz18_186o6_1 => ((ix l113 x121).bind fun xz18_186o10_1 => ((ix l113 x121).bind fun _xz18_186o12_1 => ((setx l113 x121 xz18_186o6_1).bind fun lz18_186o13_3 => ((ix lz18_186o13_3 x152).bind fun _xz18_186o14_1 => ((setx lz18_186o13_3 x152 xz18_186o10_1).bind fun lz18_186o15_3 => zCut_L3 N p1 k116 lz18_186o15_3 (IntKind.i64.wrap (x121 + 1)) (IntKind.i64.wrap (x152 - 1)))))))))))
def zCut (N : Nat) (p0 : List Int) (p1 : Int) (p2 : Int) (p3 : Int) : Option (Int × Bool × List Int) :=
 ((ix p0 p3).bind fun xz1_4o6_1 => ((ix p0 p1).bind fun xz1_4o10_1 => ((ix p0 p1).bind fun _xz1_4o12_1 => ((setx p0 p1 xz1_4o6_1).bind fun lz1_4o13_3 => ((ix lz1_4o13_3 p3).bind fun _xz1_4o14_1 => ((setx lz1_4o13_3 p3 xz1_4o10_1).bind fun lz1_4o15_3 => ((zCut_L1 N p1 p2 lz1_4o15_3 N (IntKind.i64.wrap (p1 + 1)) : Option (Int)).bind fun x15 => ((zCut_L2 N p1 lz1_4o15_3 x15 N (IntKind.i64.wrap (p2 - 1)) : Option (Int)).bind fun x46 => (if x15 > x46 then ((ix lz1_4o15_3 p1).bind fun xz8_80o6_1 => ((ix lz1_4o15_3 x46).bind fun xz8_80o10_1 => ((ix lz1_4o15_3 x46).bind fun _xz8_80o12_1 => ((setx lz1_4o15_3 x46 xz8_80o6_1).bind fun lz8_80o13_3 => ((ix lz8_80o13_3 p1).bind fun _xz8_80o14_1 => ((setx lz8_80o13_3 p1 xz8_80o10_1).bind fun lz8_80o15_3 => some (x46, true, lz8_80o15_3))))))) else ((ix lz1_4o15_3 x46).bind fun xz10_90o6_1 => ((ix lz1_4o15_3 x15).bind fun xz10_90o10_1 => ((ix lz1_4o15_3 x15).bind fun _xz10_90o12_1 => ((setx lz1_4o15_3 x15 xz10_90o6_1).bind fun lz10_90o13_3 => ((ix lz10_90o13_3 x46).bind fun _xz10_90o14_1 => ((setx lz10_90o13_3 x46 xz10_90o10_1).bind fun lz10_90o15_3 => ((zCut_L3 N p1 N lz10_90o15_3 (IntKind.i64.wrap (x15 + 1)) (IntKind.i64.wrap (x46 - 1)) : Option (List Int × Int)).bind fun (l104, x105) => ((ix l104 p1).bind fun xz21_199o6_1 => ((ix l104 x105).bind fun xz21_199o10_1 => ((ix l104 x105).bind fun _xz21_199o12_1 => ((setx l104 x105 xz21_199o6_1).bind fun lz21_199o13_3 => ((ix lz21_199o13_3 p1).bind fun _xz21_199o14_1 => ((setx lz21_199o13_3 p1 xz21_199o10_1).bind fun lz21_199o15_3 => some (x105, false, lz21_199o15_3)))))))))))))))))))))))

set_option linter.unusedVariables false in
def zCut_R (p0 : List Int) (p1 : Int) (p2 : Int) (p3 : Int) (A0 : Option Addr) (c0 : Nat) (r : Int × Bool × List Int) (w0 : World) (v : Value) (w : World) : Prop := v = .tuple #[.int .i64 r.1, .bool r.2.1] ∧ St (foots [rowE .u16 45 A0 c0 p0]) w0 w [rowE .u16 45 A0 c0 r.2.2] ∧ r.2.2.length = p0.length

set_option maxRecDepth 100000 in
set_option maxHeartbeats 4000000 in
theorem zCut_ok (N : Nat) (p0 : List Int) (p1 : Int) (p2 : Int) (p3 : Int) (A0 : Option Addr) (c0 : Nat) (r : Int × Bool × List Int) (hF : zCut N p0 p1 p2 p3 = some r) (w0 : World) (hl : St (foots [rowE .u16 45 A0 c0 p0]) w0 w0 [rowE .u16 45 A0 c0 p0]) :
  Calls Try.prog 62 #[.slice A0 p0.length c0, .int .i64 p1, .int .i64 p2, .int .i64 p3] w0 fun e w => ∃ v, e = .returned v ∧ zCut_R p0 p1 p2 p3 A0 c0 r w0 v w := by
 have hS0 := hl
 unfold zCut at hF
 refine calls_of Try.func62 rfl ⟨((.slice A0 p0.length c0) :: (.int .i64 p1) :: (.int .i64 p2) :: (.int .i64 p3) :: un 164 ([])).toArray, []⟩ (by kernel_rfl) ?_
 refine gx_seq (fun K1 hK2 => ?_)
 refine gx_region ?_
 refine gx_k (.int .i64 0) w0 (gx_k (.bool false) w0 ?_)
 refine gx_nil ?_
 refine gx_thenN ?_
 refine hK2 _ _ ?_
 refine gx_seq (fun K3 hK4 => ?_)
 refine gd_start (fun w => St (foots [rowE .u16 45 A0 c0 p0]) w0 w []) 16 #[false, false, false, false, false, false, false, false, false, false, false, false, false, false, false, false] (by kernel_rfl) (by kernel_rfl) ?_
 have hS7 := hS0.drew
 generalize w0.drew = w6 at hS7 ⊢
 obtain ⟨xz1_4o6_1, hxz1_4o6_2, hF⟩ := bind_in hF
 obtain ⟨xz1_4o10_1, hxz1_4o10_2, hF⟩ := bind_in hF
 obtain ⟨xz1_4o12_1, hxz1_4o12_2, hF⟩ := bind_in hF
 obtain ⟨lz1_4o13_3, hxz1_4o13_4, hF⟩ := bind_in hF
 obtain ⟨xz1_4o14_1, hxz1_4o14_2, hF⟩ := bind_in hF
 obtain ⟨lz1_4o15_3, hxz1_4o15_4, hF⟩ := bind_in hF
 refine gd_share (X := Unit) (fun _ => ⟨((.slice A0 p0.length c0) :: (.int .i64 p1) :: (.int .i64 p2) :: (.int .i64 p3) :: un 4 ((.int .i64 0) :: (.bool false) :: undef :: undef :: (.slice A0 p0.length c0) :: (.int .i64 p1) :: (.slice A0 p0.length c0) :: (.int .i64 p3) :: (.slice A0 p0.length c0) :: (.int .i64 p3) :: (.pointer (Option.map (fun (p : Addr) => p.add (Int.toNat p3 * 1)) A0)) :: (.int .u16 xz1_4o6_1) :: (.slice A0 p0.length c0) :: (.int .i64 p1) :: (.pointer (Option.map (fun (p : Addr) => p.add (Int.toNat p1 * 1)) A0)) :: (.int .u16 xz1_4o10_1) :: (.pointer (Option.map (fun (p : Addr) => p.add (Int.toNat p1 * 1)) A0)) :: (.pointer (Option.map (fun (p : Addr) => p.add (Int.toNat p3 * 1)) A0)) :: un 142 ([]))).toArray, []⟩) (fun _ w => St (foots [rowE .u16 45 A0 c0 p0]) w0 w [rowE .u16 45 A0 c0 lz1_4o15_3]) ?_ ?_
 ·rintro _ w8 hS9
  have hS9 : St _ _ w8 [rowE .u16 45 A0 c0 lz1_4o15_3] := hS9
  show WQ _ _ ⟨((.slice A0 p0.length c0) :: (.int .i64 p1) :: (.int .i64 p2) :: (.int .i64 p3) :: un 4 ((.int .i64 0) :: (.bool false) :: undef :: undef :: (.slice A0 p0.length c0) :: (.int .i64 p1) :: (.slice A0 p0.length c0) :: (.int .i64 p3) :: (.slice A0 p0.length c0) :: (.int .i64 p3) :: (.pointer (Option.map (fun (p : Addr) => p.add (Int.toNat p3 * 1)) A0)) :: (.int .u16 xz1_4o6_1) :: (.slice A0 p0.length c0) :: (.int .i64 p1) :: (.pointer (Option.map (fun (p : Addr) => p.add (Int.toNat p1 * 1)) A0)) :: (.int .u16 xz1_4o10_1) :: (.pointer (Option.map (fun (p : Addr) => p.add (Int.toNat p1 * 1)) A0)) :: (.pointer (Option.map (fun (p : Addr) => p.add (Int.toNat p3 * 1)) A0)) :: un 142 ([]))).toArray, []⟩ _
  refine gx_thenN ?_
  refine hK4 _ _ ?_
  refine gx_seq (fun K10 hK11 => ?_)
  refine gx_region ?_
  refine gx_k (.int .i64 p1) w8 (gx_k (.int .i64 (IntKind.i64.wrap (p1 + 1))) w8 (gx_k (.int .i64 p2) w8 (gx_k (.int .i64 (IntKind.i64.wrap (p2 - 1))) w8 (gx_k (.int .i64 (IntKind.i64.wrap (p1 + 1))) w8 (gx_k (.int .i64 (IntKind.i64.wrap (p2 - 1))) w8 ?_)))))
  refine gx_nil ?_
  refine gx_thenN ?_
  refine hK11 _ _ ?_
  obtain ⟨c16, hE17, hO18⟩ := bind_in hF
  refine gx_cut (fun a w => ∃ (x15 : Int), selfA (fun u14 => ⟨((.slice A0 p0.length c0) :: (.int .i64 p1) :: (.int .i64 p2) :: (.int .i64 p3) :: un 4 ((.int .i64 0) :: (.bool false) :: (.int .i64 x15) :: (.int .i64 (IntKind.i64.wrap (p2 - 1))) :: (u14 12) :: (.int .i64 p1) :: (u14 14) :: (.int .i64 p3) :: (u14 16) :: (.int .i64 p3) :: (.pointer (Option.map (fun (p : Addr) => p.add (Int.toNat p3 * 1)) A0)) :: (.int .u16 xz1_4o6_1) :: (u14 20) :: (.int .i64 p1) :: (.pointer (Option.map (fun (p : Addr) => p.add (Int.toNat p1 * 1)) A0)) :: (.int .u16 xz1_4o10_1) :: (.pointer (Option.map (fun (p : Addr) => p.add (Int.toNat p1 * 1)) A0)) :: (.pointer (Option.map (fun (p : Addr) => p.add (Int.toNat p3 * 1)) A0)) :: (.int .i64 p1) :: (.int .i64 (IntKind.i64.wrap (p1 + 1))) :: (.int .i64 p2) :: (.int .i64 (IntKind.i64.wrap (p2 - 1))) :: dd u14 30 16 (un 122 ([])))).toArray, []⟩) a ∧ x15 = c16 ∧ St (foots [rowE .u16 45 A0 c0 p0]) w0 w [rowE .u16 45 A0 c0 lz1_4o15_3]) ?_ ?_
  ·refine gx_block ?_
   refine gx_loop (fun k a w => ∃ (x22 : Int), selfA (fun u21 => ⟨((.slice A0 p0.length c0) :: (.int .i64 p1) :: (.int .i64 p2) :: (.int .i64 p3) :: un 4 ((.int .i64 0) :: (.bool false) :: (.int .i64 x22) :: (.int .i64 (IntKind.i64.wrap (p2 - 1))) :: (u21 12) :: (.int .i64 p1) :: (u21 14) :: (.int .i64 p3) :: (u21 16) :: (.int .i64 p3) :: (.pointer (Option.map (fun (p : Addr) => p.add (Int.toNat p3 * 1)) A0)) :: (.int .u16 xz1_4o6_1) :: (u21 20) :: (.int .i64 p1) :: (.pointer (Option.map (fun (p : Addr) => p.add (Int.toNat p1 * 1)) A0)) :: (.int .u16 xz1_4o10_1) :: (.pointer (Option.map (fun (p : Addr) => p.add (Int.toNat p1 * 1)) A0)) :: (.pointer (Option.map (fun (p : Addr) => p.add (Int.toNat p3 * 1)) A0)) :: (.int .i64 p1) :: (.int .i64 (IntKind.i64.wrap (p1 + 1))) :: (.int .i64 p2) :: (.int .i64 (IntKind.i64.wrap (p2 - 1))) :: dd u21 30 16 (un 122 ([])))).toArray, []⟩) a ∧ zCut_L1 N p1 p2 lz1_4o15_3 k x22 = some c16 ∧ St (foots [rowE .u16 45 A0 c0 p0]) w0 w [rowE .u16 45 A0 c0 lz1_4o15_3]) N ?_ ?_
   ·exact ⟨(IntKind.i64.wrap (p1 + 1)), selfA_i (by kernel_rfl), hE17, hS9⟩
   ·rintro k23 _ w19 ⟨x22, hq42, hL24, hS20⟩
    obtain ⟨u21, rfl⟩ := selfA_u hq42
    cases k23 with
    | zero => cases hL24
    | succ k23 =>
     first | rw [zCut_L1] at hL24 | unfold zCut_L1 at hL24
     refine gx_seq (fun K25 hK26 => ?_)
     refine gx_seq (fun K27 hK28 => ?_)
     refine gd_start (fun w => St (foots [rowE .u16 45 A0 c0 p0]) w0 w [rowE .u16 45 A0 c0 lz1_4o15_3]) 14 #[false, false, false, false, false, false, false, false, false, false, false, false, false, false] (by kernel_rfl) (by kernel_rfl) ?_
     have hS30 := hS20.drew
     generalize w19.drew = w29 at hS30 ⊢
     refine gd1 0 { dst := some 30, op := _, type := _, pos := _, after := _, guard := _ } (.int .i64 x22) rfl hS30 (fun w hSw => by kernel_rfl) ?_
     refine gd1 1 { dst := some 31, op := _, type := _, pos := _, after := _, guard := _ } (.int .i64 (IntKind.i64.wrap (p2 - 1))) rfl hS30 (fun w hSw => by kernel_rfl) ?_
     rcases if_in hL24 with ⟨h31, hL24⟩ | ⟨h31, hL24⟩
     ·refine gd1 2 { dst := some 32, op := _, type := _, pos := _, after := _, guard := _ } (.bool true) rfl hS30 (fun w hSw => run_boolE (decide_eq_true h31) (by kernel_rfl)) ?_
      refine gd1 3 { dst := some 33, op := _, type := _, pos := _, after := _, guard := _ } (.bool true) rfl hS30 (fun w hSw => by kernel_rfl) ?_
      refine gd1 4 { dst := some 34, op := _, type := _, pos := _, after := _, guard := _ } (.slice A0 p0.length c0) rfl hS30 (fun w hSw => by kernel_rfl) ?_
      refine gd1 5 { dst := some 35, op := _, type := _, pos := _, after := _, guard := _ } (.int .i64 x22) rfl hS30 (fun w hSw => by kernel_rfl) ?_
      obtain ⟨x32, hx33, hL24⟩ := bind_in hL24
      refine gd1 6 { dst := some 36, op := _, type := _, pos := _, after := _, guard := _ } (.pointer (Option.map (fun (p : Addr) => p.add (Int.toNat x22 * 1)) A0)) rfl hS30 (fun w hSw => run_ixaddr (E := 45) (s := 1) (k := .i64) (c := c0) rfl (by kernel_rfl) (by kernel_rfl) (by kernel_rfl) (fun _ => by kernel_rfl) (ix_in hx33).1 (lt_len ((setx_len hxz1_4o13_4).symm.trans (setx_len hxz1_4o15_4).symm) (ix_in hx33).2.1) (nil_len ((setx_len hxz1_4o13_4).symm.trans (setx_len hxz1_4o15_4).symm) (num_nil (hS30.row 0 rfl).1))) ?_
      refine gd1 7 { dst := some 37, op := _, type := _, pos := _, after := _, guard := _ } (.int .u16 x32) rfl hS30 (fun w hSw => run_loadix rfl (by kernel_rfl) (fun _ => by kernel_rfl) (hSw.row 0 rfl).1 hx33) ?_
      refine gd1 8 { dst := some 38, op := _, type := _, pos := _, after := _, guard := _ } (.slice A0 p0.length c0) rfl hS30 (fun w hSw => by kernel_rfl) ?_
      refine gd1 9 { dst := some 39, op := _, type := _, pos := _, after := _, guard := _ } (.int .i64 p1) rfl hS30 (fun w hSw => by kernel_rfl) ?_
      obtain ⟨x34, hx35, hL24⟩ := bind_in hL24
      refine gd1 10 { dst := some 40, op := _, type := _, pos := _, after := _, guard := _ } (.pointer (Option.map (fun (p : Addr) => p.add (Int.toNat p1 * 1)) A0)) rfl hS30 (fun w hSw => run_ixaddr (E := 45) (s := 1) (k := .i64) (c := c0) rfl (by kernel_rfl) (by kernel_rfl) (by kernel_rfl) (fun _ => by kernel_rfl) (ix_in hx35).1 (lt_len ((setx_len hxz1_4o13_4).symm.trans (setx_len hxz1_4o15_4).symm) (ix_in hx35).2.1) (nil_len ((setx_len hxz1_4o13_4).symm.trans (setx_len hxz1_4o15_4).symm) (num_nil (hS30.row 0 rfl).1))) ?_
      refine gd1 11 { dst := some 41, op := _, type := _, pos := _, after := _, guard := _ } (.int .u16 x34) rfl hS30 (fun w hSw => run_loadix rfl (by kernel_rfl) (fun _ => by kernel_rfl) (hSw.row 0 rfl).1 hx35) ?_
      have hP36 : St _ _ w29 ([] ++ [rowE .u16 45 A0 c0 lz1_4o15_3]) := hS30
      obtain ⟨b38, hc37, hL24⟩ := bind_in hL24
      try dsimp only at hL24
      refine gdC 12 { dst := some 42, op := _, type := _, pos := _, after := _, guard := _ } (zLess_R b38 w29) rfl (by kernel_rfl) (zLess_ok N x32 x34 _ hc37 w29 ) ?_
      rintro _ w39 ⟨rfl, hT41⟩
      have hS40 : St _ _ w39 [rowE .u16 45 A0 c0 lz1_4o15_3] := hS30.take _ hT41
      refine ⟨hS40, ?_⟩
      refine gd1 13 { dst := some 43, op := _, type := _, pos := _, after := _, guard := _ } (.bool b38) rfl hS40 (fun w hSw => by kernel_rfl) ?_
      refine gd_done (by kernel_rfl) ?_
      refine gx_thenN ?_
      refine hK28 _ _ ?_
      cases b38 with
      | true =>
       try dsimp only at hL24
       refine gx_yes (by kernel_rfl) ?_
       refine gx_pass ?_
       refine gx_thenN ?_
       refine hK26 _ _ ?_
       refine gx_block ?_
       refine gx_region ?_
       refine gx_k (.int .i64 x22) w39 (gx_k (.int .i64 (IntKind.i64.wrap (x22 + 1))) w39 (gx_k (.int .i64 (IntKind.i64.wrap (x22 + 1))) w39 ?_))
       refine gx_nil ?_
       refine gx_blkN ?_
       refine gx_thenN ?_
       exact ⟨k23, Nat.lt_succ_self k23, (IntKind.i64.wrap (x22 + 1)), selfA_i (by kernel_rfl), hL24, hS40⟩
      | false =>
       try dsimp only at hL24
       refine gx_no (by kernel_rfl) ?_
       refine gx_exit ?_
       refine gx_thenE ?_
       refine gx_thenE ?_
       refine gx_blkE ?_
       refine gx_thenN ?_
       exact ⟨x22, selfA_i (by kernel_rfl), (Option.some.inj hL24), hS40⟩
     ·refine gd1 2 { dst := some 32, op := _, type := _, pos := _, after := _, guard := _ } (.bool false) rfl hS30 (fun w hSw => run_boolE (decide_eq_false h31) (by kernel_rfl)) ?_
      refine gd1 3 { dst := some 33, op := _, type := _, pos := _, after := _, guard := _ } (.bool false) rfl hS30 (fun w hSw => by kernel_rfl) ?_
      refine gd0 4 { dst := some 34, op := _, type := _, pos := _, after := _, guard := _ } rfl hS30 ?_
      refine gd0 5 { dst := some 35, op := _, type := _, pos := _, after := _, guard := _ } rfl hS30 ?_
      refine gd0 6 { dst := some 36, op := _, type := _, pos := _, after := _, guard := _ } rfl hS30 ?_
      refine gd0 7 { dst := some 37, op := _, type := _, pos := _, after := _, guard := _ } rfl hS30 ?_
      refine gd0 8 { dst := some 38, op := _, type := _, pos := _, after := _, guard := _ } rfl hS30 ?_
      refine gd0 9 { dst := some 39, op := _, type := _, pos := _, after := _, guard := _ } rfl hS30 ?_
      refine gd0 10 { dst := some 40, op := _, type := _, pos := _, after := _, guard := _ } rfl hS30 ?_
      refine gd0 11 { dst := some 41, op := _, type := _, pos := _, after := _, guard := _ } rfl hS30 ?_
      refine gd0 12 { dst := some 42, op := _, type := _, pos := _, after := _, guard := _ } rfl hS30 ?_
      refine gd1 13 { dst := some 43, op := _, type := _, pos := _, after := _, guard := _ } (.bool false) rfl hS30 (fun w hSw => by kernel_rfl) ?_
      refine gd_done (by kernel_rfl) ?_
      refine gx_thenN ?_
      refine hK28 _ _ ?_
      refine gx_no (by kernel_rfl) ?_
      refine gx_exit ?_
      refine gx_thenE ?_
      refine gx_thenE ?_
      refine gx_blkE ?_
      refine gx_thenN ?_
      exact ⟨x22, selfA_i (by kernel_rfl), (Option.some.inj hL24), hS30⟩
  ·rintro _ w12 ⟨x15, hq211, rfl, hS13⟩
   obtain ⟨u14, rfl⟩ := selfA_u hq211
   try dsimp only at hO18
   obtain ⟨c47, hE48, hO49⟩ := bind_in hO18
   refine gx_cut (fun a w => ∃ (x46 : Int), selfA (fun u45 => ⟨((.slice A0 p0.length c0) :: (.int .i64 p1) :: (.int .i64 p2) :: (.int .i64 p3) :: un 4 ((.int .i64 0) :: (.bool false) :: (.int .i64 x15) :: (.int .i64 x46) :: (u14 12) :: (.int .i64 p1) :: (u14 14) :: (.int .i64 p3) :: (u14 16) :: (.int .i64 p3) :: (.pointer (Option.map (fun (p : Addr) => p.add (Int.toNat p3 * 1)) A0)) :: (.int .u16 xz1_4o6_1) :: (u14 20) :: (.int .i64 p1) :: (.pointer (Option.map (fun (p : Addr) => p.add (Int.toNat p1 * 1)) A0)) :: (.int .u16 xz1_4o10_1) :: (.pointer (Option.map (fun (p : Addr) => p.add (Int.toNat p1 * 1)) A0)) :: (.pointer (Option.map (fun (p : Addr) => p.add (Int.toNat p3 * 1)) A0)) :: (.int .i64 p1) :: (.int .i64 (IntKind.i64.wrap (p1 + 1))) :: (.int .i64 p2) :: (.int .i64 (IntKind.i64.wrap (p2 - 1))) :: dd u14 30 16 (dd u45 46 17 (un 105 ([]))))).toArray, []⟩) a ∧ x46 = c47 ∧ St (foots [rowE .u16 45 A0 c0 p0]) w0 w [rowE .u16 45 A0 c0 lz1_4o15_3]) ?_ ?_
   ·refine gx_block ?_
    refine gx_loop (fun k a w => ∃ (x53 : Int), selfA (fun u52 => ⟨((.slice A0 p0.length c0) :: (.int .i64 p1) :: (.int .i64 p2) :: (.int .i64 p3) :: un 4 ((.int .i64 0) :: (.bool false) :: (.int .i64 x15) :: (.int .i64 x53) :: (u14 12) :: (.int .i64 p1) :: (u14 14) :: (.int .i64 p3) :: (u14 16) :: (.int .i64 p3) :: (.pointer (Option.map (fun (p : Addr) => p.add (Int.toNat p3 * 1)) A0)) :: (.int .u16 xz1_4o6_1) :: (u14 20) :: (.int .i64 p1) :: (.pointer (Option.map (fun (p : Addr) => p.add (Int.toNat p1 * 1)) A0)) :: (.int .u16 xz1_4o10_1) :: (.pointer (Option.map (fun (p : Addr) => p.add (Int.toNat p1 * 1)) A0)) :: (.pointer (Option.map (fun (p : Addr) => p.add (Int.toNat p3 * 1)) A0)) :: (.int .i64 p1) :: (.int .i64 (IntKind.i64.wrap (p1 + 1))) :: (.int .i64 p2) :: (.int .i64 (IntKind.i64.wrap (p2 - 1))) :: dd u14 30 16 (dd u52 46 17 (un 105 ([]))))).toArray, []⟩) a ∧ zCut_L2 N p1 lz1_4o15_3 x15 k x53 = some c47 ∧ St (foots [rowE .u16 45 A0 c0 p0]) w0 w [rowE .u16 45 A0 c0 lz1_4o15_3]) N ?_ ?_
    ·exact ⟨(IntKind.i64.wrap (p2 - 1)), selfA_i (by kernel_rfl), hE48, hS13⟩
    ·rintro k54 _ w50 ⟨x53, hq73, hL55, hS51⟩
     obtain ⟨u52, rfl⟩ := selfA_u hq73
     cases k54 with
     | zero => cases hL55
     | succ k54 =>
      first | rw [zCut_L2] at hL55 | unfold zCut_L2 at hL55
      refine gx_seq (fun K56 hK57 => ?_)
      refine gx_seq (fun K58 hK59 => ?_)
      refine gd_start (fun w => St (foots [rowE .u16 45 A0 c0 p0]) w0 w [rowE .u16 45 A0 c0 lz1_4o15_3]) 15 #[false, false, false, false, false, false, false, false, false, false, false, false, false, false, false] (by kernel_rfl) (by kernel_rfl) ?_
      have hS61 := hS51.drew
      generalize w50.drew = w60 at hS61 ⊢
      refine gd1 0 { dst := some 46, op := _, type := _, pos := _, after := _, guard := _ } (.int .i64 x15) rfl hS61 (fun w hSw => by kernel_rfl) ?_
      refine gd1 1 { dst := some 47, op := _, type := _, pos := _, after := _, guard := _ } (.int .i64 x53) rfl hS61 (fun w hSw => by kernel_rfl) ?_
      rcases if_in hL55 with ⟨h62, hL55⟩ | ⟨h62, hL55⟩
      ·refine gd1 2 { dst := some 48, op := _, type := _, pos := _, after := _, guard := _ } (.bool true) rfl hS61 (fun w hSw => run_boolE (decide_eq_true h62) (by kernel_rfl)) ?_
       refine gd1 3 { dst := some 49, op := _, type := _, pos := _, after := _, guard := _ } (.bool true) rfl hS61 (fun w hSw => by kernel_rfl) ?_
       refine gd1 4 { dst := some 50, op := _, type := _, pos := _, after := _, guard := _ } (.slice A0 p0.length c0) rfl hS61 (fun w hSw => by kernel_rfl) ?_
       refine gd1 5 { dst := some 51, op := _, type := _, pos := _, after := _, guard := _ } (.int .i64 x53) rfl hS61 (fun w hSw => by kernel_rfl) ?_
       obtain ⟨x63, hx64, hL55⟩ := bind_in hL55
       refine gd1 6 { dst := some 52, op := _, type := _, pos := _, after := _, guard := _ } (.pointer (Option.map (fun (p : Addr) => p.add (Int.toNat x53 * 1)) A0)) rfl hS61 (fun w hSw => run_ixaddr (E := 45) (s := 1) (k := .i64) (c := c0) rfl (by kernel_rfl) (by kernel_rfl) (by kernel_rfl) (fun _ => by kernel_rfl) (ix_in hx64).1 (lt_len ((setx_len hxz1_4o13_4).symm.trans (setx_len hxz1_4o15_4).symm) (ix_in hx64).2.1) (nil_len ((setx_len hxz1_4o13_4).symm.trans (setx_len hxz1_4o15_4).symm) (num_nil (hS61.row 0 rfl).1))) ?_
       refine gd1 7 { dst := some 53, op := _, type := _, pos := _, after := _, guard := _ } (.int .u16 x63) rfl hS61 (fun w hSw => run_loadix rfl (by kernel_rfl) (fun _ => by kernel_rfl) (hSw.row 0 rfl).1 hx64) ?_
       refine gd1 8 { dst := some 54, op := _, type := _, pos := _, after := _, guard := _ } (.slice A0 p0.length c0) rfl hS61 (fun w hSw => by kernel_rfl) ?_
       refine gd1 9 { dst := some 55, op := _, type := _, pos := _, after := _, guard := _ } (.int .i64 p1) rfl hS61 (fun w hSw => by kernel_rfl) ?_
       obtain ⟨x65, hx66, hL55⟩ := bind_in hL55
       refine gd1 10 { dst := some 56, op := _, type := _, pos := _, after := _, guard := _ } (.pointer (Option.map (fun (p : Addr) => p.add (Int.toNat p1 * 1)) A0)) rfl hS61 (fun w hSw => run_ixaddr (E := 45) (s := 1) (k := .i64) (c := c0) rfl (by kernel_rfl) (by kernel_rfl) (by kernel_rfl) (fun _ => by kernel_rfl) (ix_in hx66).1 (lt_len ((setx_len hxz1_4o13_4).symm.trans (setx_len hxz1_4o15_4).symm) (ix_in hx66).2.1) (nil_len ((setx_len hxz1_4o13_4).symm.trans (setx_len hxz1_4o15_4).symm) (num_nil (hS61.row 0 rfl).1))) ?_
       refine gd1 11 { dst := some 57, op := _, type := _, pos := _, after := _, guard := _ } (.int .u16 x65) rfl hS61 (fun w hSw => run_loadix rfl (by kernel_rfl) (fun _ => by kernel_rfl) (hSw.row 0 rfl).1 hx66) ?_
       have hP67 : St _ _ w60 ([] ++ [rowE .u16 45 A0 c0 lz1_4o15_3]) := hS61
       obtain ⟨b69, hc68, hL55⟩ := bind_in hL55
       try dsimp only at hL55
       refine gdC 12 { dst := some 58, op := _, type := _, pos := _, after := _, guard := _ } (zLess_R b69 w60) rfl (by kernel_rfl) (zLess_ok N x63 x65 _ hc68 w60 ) ?_
       rintro _ w70 ⟨rfl, hT72⟩
       have hS71 : St _ _ w70 [rowE .u16 45 A0 c0 lz1_4o15_3] := hS61.take _ hT72
       refine ⟨hS71, ?_⟩
       cases b69 with
       | true =>
        try dsimp only at hL55
        refine gd1 13 { dst := some 59, op := _, type := _, pos := _, after := _, guard := _ } (.bool false) rfl hS71 (fun w hSw => by kernel_rfl) ?_
        refine gd1 14 { dst := some 60, op := _, type := _, pos := _, after := _, guard := _ } (.bool false) rfl hS71 (fun w hSw => by kernel_rfl) ?_
        refine gd_done (by kernel_rfl) ?_
        refine gx_thenN ?_
        refine hK59 _ _ ?_
        refine gx_no (by kernel_rfl) ?_
        refine gx_exit ?_
        refine gx_thenE ?_
        refine gx_thenE ?_
        refine gx_blkE ?_
        refine gx_thenN ?_
        exact ⟨x53, selfA_i (by kernel_rfl), (Option.some.inj hL55), hS71⟩
       | false =>
        try dsimp only at hL55
        refine gd1 13 { dst := some 59, op := _, type := _, pos := _, after := _, guard := _ } (.bool true) rfl hS71 (fun w hSw => by kernel_rfl) ?_
        refine gd1 14 { dst := some 60, op := _, type := _, pos := _, after := _, guard := _ } (.bool true) rfl hS71 (fun w hSw => by kernel_rfl) ?_
        refine gd_done (by kernel_rfl) ?_
        refine gx_thenN ?_
        refine hK59 _ _ ?_
        refine gx_yes (by kernel_rfl) ?_
        refine gx_pass ?_
        refine gx_thenN ?_
        refine hK57 _ _ ?_
        refine gx_block ?_
        refine gx_region ?_
        refine gx_k (.int .i64 x53) w70 (gx_k (.int .i64 (IntKind.i64.wrap (x53 - 1))) w70 (gx_k (.int .i64 (IntKind.i64.wrap (x53 - 1))) w70 ?_))
        refine gx_nil ?_
        refine gx_blkN ?_
        refine gx_thenN ?_
        exact ⟨k54, Nat.lt_succ_self k54, (IntKind.i64.wrap (x53 - 1)), selfA_i (by kernel_rfl), hL55, hS71⟩
      ·refine gd1 2 { dst := some 48, op := _, type := _, pos := _, after := _, guard := _ } (.bool false) rfl hS61 (fun w hSw => run_boolE (decide_eq_false h62) (by kernel_rfl)) ?_
       refine gd1 3 { dst := some 49, op := _, type := _, pos := _, after := _, guard := _ } (.bool false) rfl hS61 (fun w hSw => by kernel_rfl) ?_
       refine gd0 4 { dst := some 50, op := _, type := _, pos := _, after := _, guard := _ } rfl hS61 ?_
       refine gd0 5 { dst := some 51, op := _, type := _, pos := _, after := _, guard := _ } rfl hS61 ?_
       refine gd0 6 { dst := some 52, op := _, type := _, pos := _, after := _, guard := _ } rfl hS61 ?_
       refine gd0 7 { dst := some 53, op := _, type := _, pos := _, after := _, guard := _ } rfl hS61 ?_
       refine gd0 8 { dst := some 54, op := _, type := _, pos := _, after := _, guard := _ } rfl hS61 ?_
       refine gd0 9 { dst := some 55, op := _, type := _, pos := _, after := _, guard := _ } rfl hS61 ?_
       refine gd0 10 { dst := some 56, op := _, type := _, pos := _, after := _, guard := _ } rfl hS61 ?_
       refine gd0 11 { dst := some 57, op := _, type := _, pos := _, after := _, guard := _ } rfl hS61 ?_
       refine gd0 12 { dst := some 58, op := _, type := _, pos := _, after := _, guard := _ } rfl hS61 ?_
       refine gd0 13 { dst := some 59, op := _, type := _, pos := _, after := _, guard := _ } rfl hS61 ?_
       refine gd1 14 { dst := some 60, op := _, type := _, pos := _, after := _, guard := _ } (.bool false) rfl hS61 (fun w hSw => by kernel_rfl) ?_
       refine gd_done (by kernel_rfl) ?_
       refine gx_thenN ?_
       refine hK59 _ _ ?_
       refine gx_no (by kernel_rfl) ?_
       refine gx_exit ?_
       refine gx_thenE ?_
       refine gx_thenE ?_
       refine gx_blkE ?_
       refine gx_thenN ?_
       exact ⟨x53, selfA_i (by kernel_rfl), (Option.some.inj hL55), hS61⟩
   ·rintro _ w43 ⟨x46, hq210, rfl, hS44⟩
    obtain ⟨u45, rfl⟩ := selfA_u hq210
    try dsimp only at hO49
    refine gx_seq (fun K74 hK75 => ?_)
    refine gx_seq (fun K76 hK77 => ?_)
    refine gx_region ?_
    refine gx_k (.int .i64 x15) w43 (gx_k (.int .i64 x46) w43 ?_)
    rcases if_in hO49 with ⟨h78, hO49⟩ | ⟨h78, hO49⟩
    ·refine gx_v (.bool true) w43 (run_boolE (decide_eq_true h78) (by kernel_rfl)) ?_
     refine gx_nil ?_
     refine gx_thenN ?_
     refine hK77 _ _ ?_
     refine gx_yes (by kernel_rfl) ?_
     refine gx_seq (fun K79 hK80 => ?_)
     refine gd_start (fun w => St (foots [rowE .u16 45 A0 c0 p0]) w0 w []) 16 #[false, false, false, false, false, false, false, false, false, false, false, false, false, false, false, false] (by kernel_rfl) (by kernel_rfl) ?_
     have hS83 := hS44.drew
     generalize w43.drew = w82 at hS83 ⊢
     obtain ⟨xz8_80o6_1, hxz8_80o6_2, hO49⟩ := bind_in hO49
     obtain ⟨xz8_80o10_1, hxz8_80o10_2, hO49⟩ := bind_in hO49
     obtain ⟨xz8_80o12_1, hxz8_80o12_2, hO49⟩ := bind_in hO49
     obtain ⟨lz8_80o13_3, hxz8_80o13_4, hO49⟩ := bind_in hO49
     obtain ⟨xz8_80o14_1, hxz8_80o14_2, hO49⟩ := bind_in hO49
     obtain ⟨lz8_80o15_3, hxz8_80o15_4, hO49⟩ := bind_in hO49
     refine gd_share (X := Unit) (fun _ => ⟨((.slice A0 p0.length c0) :: (.int .i64 p1) :: (.int .i64 p2) :: (.int .i64 p3) :: un 4 ((.int .i64 0) :: (.bool false) :: (.int .i64 x15) :: (.int .i64 x46) :: (u14 12) :: (.int .i64 p1) :: (u14 14) :: (.int .i64 p3) :: (u14 16) :: (.int .i64 p3) :: (.pointer (Option.map (fun (p : Addr) => p.add (Int.toNat p3 * 1)) A0)) :: (.int .u16 xz1_4o6_1) :: (u14 20) :: (.int .i64 p1) :: (.pointer (Option.map (fun (p : Addr) => p.add (Int.toNat p1 * 1)) A0)) :: (.int .u16 xz1_4o10_1) :: (.pointer (Option.map (fun (p : Addr) => p.add (Int.toNat p1 * 1)) A0)) :: (.pointer (Option.map (fun (p : Addr) => p.add (Int.toNat p3 * 1)) A0)) :: (.int .i64 p1) :: (.int .i64 (IntKind.i64.wrap (p1 + 1))) :: (.int .i64 p2) :: (.int .i64 (IntKind.i64.wrap (p2 - 1))) :: dd u14 30 16 (dd u45 46 17 ((.int .i64 x15) :: (.int .i64 x46) :: (.bool true) :: (.slice A0 p0.length c0) :: (.int .i64 x46) :: (.slice A0 p0.length c0) :: (.int .i64 p1) :: (.slice A0 p0.length c0) :: (.int .i64 p1) :: (.pointer (Option.map (fun (p : Addr) => p.add (Int.toNat p1 * 1)) A0)) :: (.int .u16 xz8_80o6_1) :: (.slice A0 p0.length c0) :: (.int .i64 x46) :: (.pointer (Option.map (fun (p : Addr) => p.add (Int.toNat x46 * 1)) A0)) :: (.int .u16 xz8_80o10_1) :: (.pointer (Option.map (fun (p : Addr) => p.add (Int.toNat x46 * 1)) A0)) :: (.pointer (Option.map (fun (p : Addr) => p.add (Int.toNat p1 * 1)) A0)) :: un 88 ([]))))).toArray, []⟩) (fun _ w => St (foots [rowE .u16 45 A0 c0 p0]) w0 w [rowE .u16 45 A0 c0 lz8_80o15_3]) ?_ ?_
     ·rintro _ w84 hS85
      have hS85 : St _ _ w84 [rowE .u16 45 A0 c0 lz8_80o15_3] := hS85
      show WQ _ _ ⟨((.slice A0 p0.length c0) :: (.int .i64 p1) :: (.int .i64 p2) :: (.int .i64 p3) :: un 4 ((.int .i64 0) :: (.bool false) :: (.int .i64 x15) :: (.int .i64 x46) :: (u14 12) :: (.int .i64 p1) :: (u14 14) :: (.int .i64 p3) :: (u14 16) :: (.int .i64 p3) :: (.pointer (Option.map (fun (p : Addr) => p.add (Int.toNat p3 * 1)) A0)) :: (.int .u16 xz1_4o6_1) :: (u14 20) :: (.int .i64 p1) :: (.pointer (Option.map (fun (p : Addr) => p.add (Int.toNat p1 * 1)) A0)) :: (.int .u16 xz1_4o10_1) :: (.pointer (Option.map (fun (p : Addr) => p.add (Int.toNat p1 * 1)) A0)) :: (.pointer (Option.map (fun (p : Addr) => p.add (Int.toNat p3 * 1)) A0)) :: (.int .i64 p1) :: (.int .i64 (IntKind.i64.wrap (p1 + 1))) :: (.int .i64 p2) :: (.int .i64 (IntKind.i64.wrap (p2 - 1))) :: dd u14 30 16 (dd u45 46 17 ((.int .i64 x15) :: (.int .i64 x46) :: (.bool true) :: (.slice A0 p0.length c0) :: (.int .i64 x46) :: (.slice A0 p0.length c0) :: (.int .i64 p1) :: (.slice A0 p0.length c0) :: (.int .i64 p1) :: (.pointer (Option.map (fun (p : Addr) => p.add (Int.toNat p1 * 1)) A0)) :: (.int .u16 xz8_80o6_1) :: (.slice A0 p0.length c0) :: (.int .i64 x46) :: (.pointer (Option.map (fun (p : Addr) => p.add (Int.toNat x46 * 1)) A0)) :: (.int .u16 xz8_80o10_1) :: (.pointer (Option.map (fun (p : Addr) => p.add (Int.toNat x46 * 1)) A0)) :: (.pointer (Option.map (fun (p : Addr) => p.add (Int.toNat p1 * 1)) A0)) :: un 88 ([]))))).toArray, []⟩ _
      refine gx_thenN ?_
      refine hK80 _ _ ?_
      refine gx_seq (fun K86 hK87 => ?_)
      refine gx_region ?_
      refine gx_k (.int .i64 x46) w84 (gx_k (.int .i64 x46) w84 (gx_k (.bool true) w84 ?_))
      refine gx_nil ?_
      refine gx_thenN ?_
      refine hK87 _ _ ?_
      refine gx_ret ?_
      refine gx_thenR ?_
      obtain rfl := Option.some.inj hO49
      exact gx_fin (.tuple #[.int .i64 x46, .bool true]) (by kernel_rfl) (by kernel_rfl) ⟨_, rfl, rfl, hS85, (((((setx_len hxz1_4o13_4).symm.trans (setx_len hxz1_4o15_4).symm).trans (setx_len hxz8_80o13_4).symm).trans (setx_len hxz8_80o15_4).symm)).symm⟩
     ·intro K88
      refine gd1 0 { dst := some 66, op := _, type := _, pos := _, after := _, guard := _ } (.slice A0 p0.length c0) rfl (hS83.pick [] rfl rfl) (fun w hSw => by kernel_rfl) ?_
      refine gd1 1 { dst := some 67, op := _, type := _, pos := _, after := _, guard := _ } (.int .i64 x46) rfl (hS83.pick [] rfl rfl) (fun w hSw => by kernel_rfl) ?_
      refine gd1 2 { dst := some 68, op := _, type := _, pos := _, after := _, guard := _ } (.slice A0 p0.length c0) rfl (hS83.pick [] rfl rfl) (fun w hSw => by kernel_rfl) ?_
      refine gd1 3 { dst := some 69, op := _, type := _, pos := _, after := _, guard := _ } (.int .i64 p1) rfl (hS83.pick [] rfl rfl) (fun w hSw => by kernel_rfl) ?_
      refine gd1 4 { dst := some 70, op := _, type := _, pos := _, after := _, guard := _ } (.slice A0 p0.length c0) rfl (hS83.pick [] rfl rfl) (fun w hSw => by kernel_rfl) ?_
      refine gd1 5 { dst := some 71, op := _, type := _, pos := _, after := _, guard := _ } (.int .i64 p1) rfl (hS83.pick [] rfl rfl) (fun w hSw => by kernel_rfl) ?_
      refine gd1 6 { dst := some 72, op := _, type := _, pos := _, after := _, guard := _ } (.pointer (Option.map (fun (p : Addr) => p.add (Int.toNat p1 * 1)) A0)) rfl (hS83.pick [] rfl rfl) (fun w hSw => run_ixaddr (E := 45) (s := 1) (k := .i64) (c := c0) rfl (by kernel_rfl) (by kernel_rfl) (by kernel_rfl) (fun _ => by kernel_rfl) (ix_in hxz8_80o6_2).1 (lt_len ((setx_len hxz1_4o13_4).symm.trans (setx_len hxz1_4o15_4).symm) (ix_in hxz8_80o6_2).2.1) (nil_len ((setx_len hxz1_4o13_4).symm.trans (setx_len hxz1_4o15_4).symm) (num_nil (hS83.row 0 rfl).1))) ?_
      refine gd1 8 { dst := some 74, op := _, type := _, pos := _, after := _, guard := _ } (.slice A0 p0.length c0) rfl (hS83.pick [] rfl rfl) (fun w hSw => by kernel_rfl) ?_
      refine gd1 9 { dst := some 75, op := _, type := _, pos := _, after := _, guard := _ } (.int .i64 x46) rfl (hS83.pick [] rfl rfl) (fun w hSw => by kernel_rfl) ?_
      refine gd1 10 { dst := some 76, op := _, type := _, pos := _, after := _, guard := _ } (.pointer (Option.map (fun (p : Addr) => p.add (Int.toNat x46 * 1)) A0)) rfl (hS83.pick [] rfl rfl) (fun w hSw => run_ixaddr (E := 45) (s := 1) (k := .i64) (c := c0) rfl (by kernel_rfl) (by kernel_rfl) (by kernel_rfl) (fun _ => by kernel_rfl) (ix_in hxz8_80o10_2).1 (lt_len ((setx_len hxz1_4o13_4).symm.trans (setx_len hxz1_4o15_4).symm) (ix_in hxz8_80o10_2).2.1) (nil_len ((setx_len hxz1_4o13_4).symm.trans (setx_len hxz1_4o15_4).symm) (num_nil (hS83.row 0 rfl).1))) ?_
      refine gd_fork2 7 11 { dst := some 73, op := _, type := _, pos := _, after := _, guard := _ } { dst := some 77, op := _, type := _, pos := _, after := _, guard := _ } rfl rfl ?_ ?_
      ·refine gfR 7 { dst := some 73, op := _, type := _, pos := _, after := _, guard := _ } (R := fun v w => v = .int .u16 xz8_80o6_1 ∧ w82 = w) rfl ⟨_, _, run_loadix rfl (by kernel_rfl) (fun _ => by kernel_rfl) (hS83.row 0 rfl).1 hxz8_80o6_2, rfl, rfl⟩ ?_
       rintro _ _ ⟨rfl, rfl⟩
       refine ⟨(hS83.pick [] rfl rfl), ?_⟩
       refine gdR 11 { dst := some 77, op := _, type := _, pos := _, after := _, guard := _ } (R := fun v w => v = .int .u16 xz8_80o10_1 ∧ w82 = w) rfl ⟨_, _, run_loadix rfl (by kernel_rfl) (fun _ => by kernel_rfl) (hS83.row 0 rfl).1 hxz8_80o10_2, rfl, rfl⟩ ?_
       rintro _ _ ⟨rfl, rfl⟩
       refine ⟨(hS83.pick [] rfl rfl), ?_⟩
       refine gd1 12 { dst := some 78, op := _, type := _, pos := _, after := _, guard := _ } (.pointer (Option.map (fun (p : Addr) => p.add (Int.toNat x46 * 1)) A0)) rfl (hS83.pick [] rfl rfl) (fun w hSw => run_ixaddr (E := 45) (s := 1) (k := .i64) (c := c0) rfl (by kernel_rfl) (by kernel_rfl) (by kernel_rfl) (fun _ => by kernel_rfl) (ix_in hxz8_80o12_2).1 (lt_len ((setx_len hxz1_4o13_4).symm.trans (setx_len hxz1_4o15_4).symm) (ix_in hxz8_80o12_2).2.1) (nil_len ((setx_len hxz1_4o13_4).symm.trans (setx_len hxz1_4o15_4).symm) (num_nil (hS83.row 0 rfl).1))) ?_
       refine gdS 13 { dst := none, op := _, type := _, pos := _, after := _, guard := _ } rfl (st_storeix rfl (by kernel_rfl) (by kernel_rfl) (fun _ => by kernel_rfl) hS83 0 rfl hxz8_80o13_4) ?_
       rintro wz8_80o13_1 hSz8_80o13_2
       have hSz8_80o13_2 : St _ _ wz8_80o13_1 [rowE .u16 45 A0 c0 lz8_80o13_3] := hSz8_80o13_2
       refine ⟨(hSz8_80o13_2.pick [] rfl rfl), ?_⟩
       refine gd1 14 { dst := some 79, op := _, type := _, pos := _, after := _, guard := _ } (.pointer (Option.map (fun (p : Addr) => p.add (Int.toNat p1 * 1)) A0)) rfl (hSz8_80o13_2.pick [] rfl rfl) (fun w hSw => run_ixaddr (E := 45) (s := 1) (k := .i64) (c := c0) rfl (by kernel_rfl) (by kernel_rfl) (by kernel_rfl) (fun _ => by kernel_rfl) (ix_in hxz8_80o14_2).1 (lt_len (((setx_len hxz1_4o13_4).symm.trans (setx_len hxz1_4o15_4).symm).trans (setx_len hxz8_80o13_4).symm) (ix_in hxz8_80o14_2).2.1) (nil_len (((setx_len hxz1_4o13_4).symm.trans (setx_len hxz1_4o15_4).symm).trans (setx_len hxz8_80o13_4).symm) (num_nil (hSz8_80o13_2.row 0 rfl).1))) ?_
       refine gdS 15 { dst := none, op := _, type := _, pos := _, after := _, guard := _ } rfl (st_storeix rfl (by kernel_rfl) (by kernel_rfl) (fun _ => by kernel_rfl) hSz8_80o13_2 0 rfl hxz8_80o15_4) ?_
       rintro wz8_80o15_1 hSz8_80o15_2
       have hSz8_80o15_2 : St _ _ wz8_80o15_1 [rowE .u16 45 A0 c0 lz8_80o15_3] := hSz8_80o15_2
       refine ⟨(hSz8_80o15_2.pick [] rfl rfl), ?_⟩
       exact gd_meet (by kernel_rfl) (by kernel_rfl) (K88 () _ hSz8_80o15_2)
      ·refine gfR 11 { dst := some 77, op := _, type := _, pos := _, after := _, guard := _ } (R := fun v w => v = .int .u16 xz8_80o10_1 ∧ w82 = w) rfl ⟨_, _, run_loadix rfl (by kernel_rfl) (fun _ => by kernel_rfl) (hS83.row 0 rfl).1 hxz8_80o10_2, rfl, rfl⟩ ?_
       rintro _ _ ⟨rfl, rfl⟩
       refine ⟨(hS83.pick [] rfl rfl), ?_⟩
       refine gdR 7 { dst := some 73, op := _, type := _, pos := _, after := _, guard := _ } (R := fun v w => v = .int .u16 xz8_80o6_1 ∧ w82 = w) rfl ⟨_, _, run_loadix rfl (by kernel_rfl) (fun _ => by kernel_rfl) (hS83.row 0 rfl).1 hxz8_80o6_2, rfl, rfl⟩ ?_
       rintro _ _ ⟨rfl, rfl⟩
       refine ⟨(hS83.pick [] rfl rfl), ?_⟩
       refine gd1 12 { dst := some 78, op := _, type := _, pos := _, after := _, guard := _ } (.pointer (Option.map (fun (p : Addr) => p.add (Int.toNat x46 * 1)) A0)) rfl (hS83.pick [] rfl rfl) (fun w hSw => run_ixaddr (E := 45) (s := 1) (k := .i64) (c := c0) rfl (by kernel_rfl) (by kernel_rfl) (by kernel_rfl) (fun _ => by kernel_rfl) (ix_in hxz8_80o12_2).1 (lt_len ((setx_len hxz1_4o13_4).symm.trans (setx_len hxz1_4o15_4).symm) (ix_in hxz8_80o12_2).2.1) (nil_len ((setx_len hxz1_4o13_4).symm.trans (setx_len hxz1_4o15_4).symm) (num_nil (hS83.row 0 rfl).1))) ?_
       refine gdS 13 { dst := none, op := _, type := _, pos := _, after := _, guard := _ } rfl (st_storeix rfl (by kernel_rfl) (by kernel_rfl) (fun _ => by kernel_rfl) hS83 0 rfl hxz8_80o13_4) ?_
       rintro wz8_80o13_1 hSz8_80o13_2
       have hSz8_80o13_2 : St _ _ wz8_80o13_1 [rowE .u16 45 A0 c0 lz8_80o13_3] := hSz8_80o13_2
       refine ⟨(hSz8_80o13_2.pick [] rfl rfl), ?_⟩
       refine gd1 14 { dst := some 79, op := _, type := _, pos := _, after := _, guard := _ } (.pointer (Option.map (fun (p : Addr) => p.add (Int.toNat p1 * 1)) A0)) rfl (hSz8_80o13_2.pick [] rfl rfl) (fun w hSw => run_ixaddr (E := 45) (s := 1) (k := .i64) (c := c0) rfl (by kernel_rfl) (by kernel_rfl) (by kernel_rfl) (fun _ => by kernel_rfl) (ix_in hxz8_80o14_2).1 (lt_len (((setx_len hxz1_4o13_4).symm.trans (setx_len hxz1_4o15_4).symm).trans (setx_len hxz8_80o13_4).symm) (ix_in hxz8_80o14_2).2.1) (nil_len (((setx_len hxz1_4o13_4).symm.trans (setx_len hxz1_4o15_4).symm).trans (setx_len hxz8_80o13_4).symm) (num_nil (hSz8_80o13_2.row 0 rfl).1))) ?_
       refine gdS 15 { dst := none, op := _, type := _, pos := _, after := _, guard := _ } rfl (st_storeix rfl (by kernel_rfl) (by kernel_rfl) (fun _ => by kernel_rfl) hSz8_80o13_2 0 rfl hxz8_80o15_4) ?_
       rintro wz8_80o15_1 hSz8_80o15_2
       have hSz8_80o15_2 : St _ _ wz8_80o15_1 [rowE .u16 45 A0 c0 lz8_80o15_3] := hSz8_80o15_2
       refine ⟨(hSz8_80o15_2.pick [] rfl rfl), ?_⟩
       exact gd_meet (by kernel_rfl) (by kernel_rfl) (K88 () _ hSz8_80o15_2)
    ·refine gx_v (.bool false) w43 (run_boolE (decide_eq_false h78) (by kernel_rfl)) ?_
     refine gx_nil ?_
     refine gx_thenN ?_
     refine hK77 _ _ ?_
     refine gx_no (by kernel_rfl) ?_
     refine gx_pass ?_
     refine gx_thenN ?_
     refine hK75 _ _ ?_
     refine gx_seq (fun K89 hK90 => ?_)
     refine gd_start (fun w => St (foots [rowE .u16 45 A0 c0 p0]) w0 w []) 16 #[false, false, false, false, false, false, false, false, false, false, false, false, false, false, false, false] (by kernel_rfl) (by kernel_rfl) ?_
     have hS93 := hS44.drew
     generalize w43.drew = w92 at hS93 ⊢
     obtain ⟨xz10_90o6_1, hxz10_90o6_2, hO49⟩ := bind_in hO49
     obtain ⟨xz10_90o10_1, hxz10_90o10_2, hO49⟩ := bind_in hO49
     obtain ⟨xz10_90o12_1, hxz10_90o12_2, hO49⟩ := bind_in hO49
     obtain ⟨lz10_90o13_3, hxz10_90o13_4, hO49⟩ := bind_in hO49
     obtain ⟨xz10_90o14_1, hxz10_90o14_2, hO49⟩ := bind_in hO49
     obtain ⟨lz10_90o15_3, hxz10_90o15_4, hO49⟩ := bind_in hO49
     refine gd_share (X := Unit) (fun _ => ⟨((.slice A0 p0.length c0) :: (.int .i64 p1) :: (.int .i64 p2) :: (.int .i64 p3) :: un 4 ((.int .i64 0) :: (.bool false) :: (.int .i64 x15) :: (.int .i64 x46) :: (u14 12) :: (.int .i64 p1) :: (u14 14) :: (.int .i64 p3) :: (u14 16) :: (.int .i64 p3) :: (.pointer (Option.map (fun (p : Addr) => p.add (Int.toNat p3 * 1)) A0)) :: (.int .u16 xz1_4o6_1) :: (u14 20) :: (.int .i64 p1) :: (.pointer (Option.map (fun (p : Addr) => p.add (Int.toNat p1 * 1)) A0)) :: (.int .u16 xz1_4o10_1) :: (.pointer (Option.map (fun (p : Addr) => p.add (Int.toNat p1 * 1)) A0)) :: (.pointer (Option.map (fun (p : Addr) => p.add (Int.toNat p3 * 1)) A0)) :: (.int .i64 p1) :: (.int .i64 (IntKind.i64.wrap (p1 + 1))) :: (.int .i64 p2) :: (.int .i64 (IntKind.i64.wrap (p2 - 1))) :: dd u14 30 16 (dd u45 46 17 ((.int .i64 x15) :: (.int .i64 x46) :: (.bool false) :: un 15 ((.slice A0 p0.length c0) :: (.int .i64 x15) :: (.slice A0 p0.length c0) :: (.int .i64 x46) :: (.slice A0 p0.length c0) :: (.int .i64 x46) :: (.pointer (Option.map (fun (p : Addr) => p.add (Int.toNat x46 * 1)) A0)) :: (.int .u16 xz10_90o6_1) :: (.slice A0 p0.length c0) :: (.int .i64 x15) :: (.pointer (Option.map (fun (p : Addr) => p.add (Int.toNat x15 * 1)) A0)) :: (.int .u16 xz10_90o10_1) :: (.pointer (Option.map (fun (p : Addr) => p.add (Int.toNat x15 * 1)) A0)) :: (.pointer (Option.map (fun (p : Addr) => p.add (Int.toNat x46 * 1)) A0)) :: un 73 ([])))))).toArray, []⟩) (fun _ w => St (foots [rowE .u16 45 A0 c0 p0]) w0 w [rowE .u16 45 A0 c0 lz10_90o15_3]) ?_ ?_
     ·rintro _ w94 hS95
      have hS95 : St _ _ w94 [rowE .u16 45 A0 c0 lz10_90o15_3] := hS95
      show WQ _ _ ⟨((.slice A0 p0.length c0) :: (.int .i64 p1) :: (.int .i64 p2) :: (.int .i64 p3) :: un 4 ((.int .i64 0) :: (.bool false) :: (.int .i64 x15) :: (.int .i64 x46) :: (u14 12) :: (.int .i64 p1) :: (u14 14) :: (.int .i64 p3) :: (u14 16) :: (.int .i64 p3) :: (.pointer (Option.map (fun (p : Addr) => p.add (Int.toNat p3 * 1)) A0)) :: (.int .u16 xz1_4o6_1) :: (u14 20) :: (.int .i64 p1) :: (.pointer (Option.map (fun (p : Addr) => p.add (Int.toNat p1 * 1)) A0)) :: (.int .u16 xz1_4o10_1) :: (.pointer (Option.map (fun (p : Addr) => p.add (Int.toNat p1 * 1)) A0)) :: (.pointer (Option.map (fun (p : Addr) => p.add (Int.toNat p3 * 1)) A0)) :: (.int .i64 p1) :: (.int .i64 (IntKind.i64.wrap (p1 + 1))) :: (.int .i64 p2) :: (.int .i64 (IntKind.i64.wrap (p2 - 1))) :: dd u14 30 16 (dd u45 46 17 ((.int .i64 x15) :: (.int .i64 x46) :: (.bool false) :: un 15 ((.slice A0 p0.length c0) :: (.int .i64 x15) :: (.slice A0 p0.length c0) :: (.int .i64 x46) :: (.slice A0 p0.length c0) :: (.int .i64 x46) :: (.pointer (Option.map (fun (p : Addr) => p.add (Int.toNat x46 * 1)) A0)) :: (.int .u16 xz10_90o6_1) :: (.slice A0 p0.length c0) :: (.int .i64 x15) :: (.pointer (Option.map (fun (p : Addr) => p.add (Int.toNat x15 * 1)) A0)) :: (.int .u16 xz10_90o10_1) :: (.pointer (Option.map (fun (p : Addr) => p.add (Int.toNat x15 * 1)) A0)) :: (.pointer (Option.map (fun (p : Addr) => p.add (Int.toNat x46 * 1)) A0)) :: un 73 ([])))))).toArray, []⟩ _
      refine gx_thenN ?_
      refine hK90 _ _ ?_
      refine gx_seq (fun K96 hK97 => ?_)
      refine gx_region ?_
      refine gx_k (.int .i64 x15) w94 (gx_k (.int .i64 (IntKind.i64.wrap (x15 + 1))) w94 (gx_k (.int .i64 (IntKind.i64.wrap (x15 + 1))) w94 ?_))
      refine gx_nil ?_
      refine gx_thenN ?_
      refine hK97 _ _ ?_
      refine gx_seq (fun K98 hK99 => ?_)
      refine gx_region ?_
      refine gx_k (.int .i64 x46) w94 (gx_k (.int .i64 (IntKind.i64.wrap (x46 - 1))) w94 (gx_k (.int .i64 (IntKind.i64.wrap (x46 - 1))) w94 ?_))
      refine gx_nil ?_
      refine gx_thenN ?_
      refine hK99 _ _ ?_
      obtain ⟨c106, hE107, hO108⟩ := bind_in hO49
      refine gx_cut (fun a w => ∃ (l104 : List Int) (x105 : Int), selfA (fun u102 => ⟨((.slice A0 p0.length c0) :: (.int .i64 p1) :: (.int .i64 p2) :: (.int .i64 p3) :: un 4 ((.int .i64 0) :: (.bool false) :: (u102 10) :: (.int .i64 x105) :: (u14 12) :: (.int .i64 p1) :: (u14 14) :: (.int .i64 p3) :: (u14 16) :: (.int .i64 p3) :: (.pointer (Option.map (fun (p : Addr) => p.add (Int.toNat p3 * 1)) A0)) :: (.int .u16 xz1_4o6_1) :: (u14 20) :: (.int .i64 p1) :: (.pointer (Option.map (fun (p : Addr) => p.add (Int.toNat p1 * 1)) A0)) :: (.int .u16 xz1_4o10_1) :: (.pointer (Option.map (fun (p : Addr) => p.add (Int.toNat p1 * 1)) A0)) :: (.pointer (Option.map (fun (p : Addr) => p.add (Int.toNat p3 * 1)) A0)) :: (.int .i64 p1) :: (.int .i64 (IntKind.i64.wrap (p1 + 1))) :: (.int .i64 p2) :: (.int .i64 (IntKind.i64.wrap (p2 - 1))) :: dd u14 30 16 (dd u45 46 17 ((.int .i64 x15) :: (.int .i64 x46) :: (.bool false) :: un 15 ((u102 81) :: (.int .i64 x15) :: (u102 83) :: (.int .i64 x46) :: (u102 85) :: (.int .i64 x46) :: (.pointer (Option.map (fun (p : Addr) => p.add (Int.toNat x46 * 1)) A0)) :: (.int .u16 xz10_90o6_1) :: (u102 89) :: (.int .i64 x15) :: (.pointer (Option.map (fun (p : Addr) => p.add (Int.toNat x15 * 1)) A0)) :: (.int .u16 xz10_90o10_1) :: (.pointer (Option.map (fun (p : Addr) => p.add (Int.toNat x15 * 1)) A0)) :: (.pointer (Option.map (fun (p : Addr) => p.add (Int.toNat x46 * 1)) A0)) :: (.int .i64 x15) :: (.int .i64 (IntKind.i64.wrap (x15 + 1))) :: (.int .i64 x46) :: (.int .i64 (IntKind.i64.wrap (x46 - 1))) :: dd u102 99 54 (un 15 ([]))))))).toArray, []⟩) a ∧ (l104, x105) = c106 ∧ St (foots [rowE .u16 45 A0 c0 p0]) w0 w [rowE .u16 45 A0 c0 l104] ∧ p0.length = l104.length) ?_ ?_
      ·refine gx_block ?_
       refine gx_loop (fun k a w => ∃ (l113 : List Int) (x114 : Int) (x115 : Int), selfA (fun u111 => ⟨((.slice A0 p0.length c0) :: (.int .i64 p1) :: (.int .i64 p2) :: (.int .i64 p3) :: un 4 ((.int .i64 0) :: (.bool false) :: (.int .i64 x114) :: (.int .i64 x115) :: (u14 12) :: (.int .i64 p1) :: (u14 14) :: (.int .i64 p3) :: (u14 16) :: (.int .i64 p3) :: (.pointer (Option.map (fun (p : Addr) => p.add (Int.toNat p3 * 1)) A0)) :: (.int .u16 xz1_4o6_1) :: (u14 20) :: (.int .i64 p1) :: (.pointer (Option.map (fun (p : Addr) => p.add (Int.toNat p1 * 1)) A0)) :: (.int .u16 xz1_4o10_1) :: (.pointer (Option.map (fun (p : Addr) => p.add (Int.toNat p1 * 1)) A0)) :: (.pointer (Option.map (fun (p : Addr) => p.add (Int.toNat p3 * 1)) A0)) :: (.int .i64 p1) :: (.int .i64 (IntKind.i64.wrap (p1 + 1))) :: (.int .i64 p2) :: (.int .i64 (IntKind.i64.wrap (p2 - 1))) :: dd u14 30 16 (dd u45 46 17 ((.int .i64 x15) :: (.int .i64 x46) :: (.bool false) :: un 15 ((u111 81) :: (.int .i64 x15) :: (u111 83) :: (.int .i64 x46) :: (u111 85) :: (.int .i64 x46) :: (.pointer (Option.map (fun (p : Addr) => p.add (Int.toNat x46 * 1)) A0)) :: (.int .u16 xz10_90o6_1) :: (u111 89) :: (.int .i64 x15) :: (.pointer (Option.map (fun (p : Addr) => p.add (Int.toNat x15 * 1)) A0)) :: (.int .u16 xz10_90o10_1) :: (.pointer (Option.map (fun (p : Addr) => p.add (Int.toNat x15 * 1)) A0)) :: (.pointer (Option.map (fun (p : Addr) => p.add (Int.toNat x46 * 1)) A0)) :: (.int .i64 x15) :: (.int .i64 (IntKind.i64.wrap (x15 + 1))) :: (.int .i64 x46) :: (.int .i64 (IntKind.i64.wrap (x46 - 1))) :: dd u111 99 54 (un 15 ([]))))))).toArray, []⟩) a ∧ zCut_L3 N p1 k l113 x114 x115 = some c106 ∧ St (foots [rowE .u16 45 A0 c0 p0]) w0 w [rowE .u16 45 A0 c0 l113] ∧ p0.length = l113.length) N ?_ ?_
       ·exact ⟨lz10_90o15_3, (IntKind.i64.wrap (x15 + 1)), (IntKind.i64.wrap (x46 - 1)), selfA_i (by kernel_rfl), hE107, hS95, ((((setx_len hxz1_4o13_4).symm.trans (setx_len hxz1_4o15_4).symm).trans (setx_len hxz10_90o13_4).symm).trans (setx_len hxz10_90o15_4).symm)⟩
       ·rintro k116 _ w109 ⟨l113, x114, x115, hq197, hL117, hS110, hn112⟩
        obtain ⟨u111, rfl⟩ := selfA_u hq197
        cases k116 with
        | zero => cases hL117
        | succ k116 =>
         first | rw [zCut_L3] at hL117 | unfold zCut_L3 at hL117
         refine gx_block ?_
         obtain ⟨c122, hE123, hO124⟩ := bind_in hL117
         refine gx_cut (fun a w => ∃ (x121 : Int), selfA (fun u120 => ⟨((.slice A0 p0.length c0) :: (.int .i64 p1) :: (.int .i64 p2) :: (.int .i64 p3) :: un 4 ((.int .i64 0) :: (.bool false) :: (.int .i64 x121) :: (.int .i64 x115) :: (u14 12) :: (.int .i64 p1) :: (u14 14) :: (.int .i64 p3) :: (u14 16) :: (.int .i64 p3) :: (.pointer (Option.map (fun (p : Addr) => p.add (Int.toNat p3 * 1)) A0)) :: (.int .u16 xz1_4o6_1) :: (u14 20) :: (.int .i64 p1) :: (.pointer (Option.map (fun (p : Addr) => p.add (Int.toNat p1 * 1)) A0)) :: (.int .u16 xz1_4o10_1) :: (.pointer (Option.map (fun (p : Addr) => p.add (Int.toNat p1 * 1)) A0)) :: (.pointer (Option.map (fun (p : Addr) => p.add (Int.toNat p3 * 1)) A0)) :: (.int .i64 p1) :: (.int .i64 (IntKind.i64.wrap (p1 + 1))) :: (.int .i64 p2) :: (.int .i64 (IntKind.i64.wrap (p2 - 1))) :: dd u14 30 16 (dd u45 46 17 ((.int .i64 x15) :: (.int .i64 x46) :: (.bool false) :: un 15 ((u111 81) :: (.int .i64 x15) :: (u111 83) :: (.int .i64 x46) :: (u111 85) :: (.int .i64 x46) :: (.pointer (Option.map (fun (p : Addr) => p.add (Int.toNat x46 * 1)) A0)) :: (.int .u16 xz10_90o6_1) :: (u111 89) :: (.int .i64 x15) :: (.pointer (Option.map (fun (p : Addr) => p.add (Int.toNat x15 * 1)) A0)) :: (.int .u16 xz10_90o10_1) :: (.pointer (Option.map (fun (p : Addr) => p.add (Int.toNat x15 * 1)) A0)) :: (.pointer (Option.map (fun (p : Addr) => p.add (Int.toNat x46 * 1)) A0)) :: (.int .i64 x15) :: (.int .i64 (IntKind.i64.wrap (x15 + 1))) :: (.int .i64 x46) :: (.int .i64 (IntKind.i64.wrap (x46 - 1))) :: dd u120 99 16 (dd u111 115 38 (un 15 ([])))))))).toArray, []⟩) a ∧ x121 = c122 ∧ St (foots [rowE .u16 45 A0 c0 p0]) w0 w [rowE .u16 45 A0 c0 l113]) ?_ ?_
         ·refine gx_block ?_
          refine gx_loop (fun k a w => ∃ (x128 : Int), selfA (fun u127 => ⟨((.slice A0 p0.length c0) :: (.int .i64 p1) :: (.int .i64 p2) :: (.int .i64 p3) :: un 4 ((.int .i64 0) :: (.bool false) :: (.int .i64 x128) :: (.int .i64 x115) :: (u14 12) :: (.int .i64 p1) :: (u14 14) :: (.int .i64 p3) :: (u14 16) :: (.int .i64 p3) :: (.pointer (Option.map (fun (p : Addr) => p.add (Int.toNat p3 * 1)) A0)) :: (.int .u16 xz1_4o6_1) :: (u14 20) :: (.int .i64 p1) :: (.pointer (Option.map (fun (p : Addr) => p.add (Int.toNat p1 * 1)) A0)) :: (.int .u16 xz1_4o10_1) :: (.pointer (Option.map (fun (p : Addr) => p.add (Int.toNat p1 * 1)) A0)) :: (.pointer (Option.map (fun (p : Addr) => p.add (Int.toNat p3 * 1)) A0)) :: (.int .i64 p1) :: (.int .i64 (IntKind.i64.wrap (p1 + 1))) :: (.int .i64 p2) :: (.int .i64 (IntKind.i64.wrap (p2 - 1))) :: dd u14 30 16 (dd u45 46 17 ((.int .i64 x15) :: (.int .i64 x46) :: (.bool false) :: un 15 ((u111 81) :: (.int .i64 x15) :: (u111 83) :: (.int .i64 x46) :: (u111 85) :: (.int .i64 x46) :: (.pointer (Option.map (fun (p : Addr) => p.add (Int.toNat x46 * 1)) A0)) :: (.int .u16 xz10_90o6_1) :: (u111 89) :: (.int .i64 x15) :: (.pointer (Option.map (fun (p : Addr) => p.add (Int.toNat x15 * 1)) A0)) :: (.int .u16 xz10_90o10_1) :: (.pointer (Option.map (fun (p : Addr) => p.add (Int.toNat x15 * 1)) A0)) :: (.pointer (Option.map (fun (p : Addr) => p.add (Int.toNat x46 * 1)) A0)) :: (.int .i64 x15) :: (.int .i64 (IntKind.i64.wrap (x15 + 1))) :: (.int .i64 x46) :: (.int .i64 (IntKind.i64.wrap (x46 - 1))) :: dd u127 99 16 (dd u111 115 38 (un 15 ([])))))))).toArray, []⟩) a ∧ zCut_L4 N p1 l113 x115 k x128 = some c122 ∧ St (foots [rowE .u16 45 A0 c0 p0]) w0 w [rowE .u16 45 A0 c0 l113]) N ?_ ?_
          ·exact ⟨x114, selfA_i (by kernel_rfl), hE123, hS110⟩
          ·rintro k129 _ w125 ⟨x128, hq148, hL130, hS126⟩
           obtain ⟨u127, rfl⟩ := selfA_u hq148
           cases k129 with
           | zero => cases hL130
           | succ k129 =>
            first | rw [zCut_L4] at hL130 | unfold zCut_L4 at hL130
            refine gx_seq (fun K131 hK132 => ?_)
            refine gx_seq (fun K133 hK134 => ?_)
            refine gd_start (fun w => St (foots [rowE .u16 45 A0 c0 p0]) w0 w [rowE .u16 45 A0 c0 l113]) 14 #[false, false, false, false, false, false, false, false, false, false, false, false, false, false] (by kernel_rfl) (by kernel_rfl) ?_
            have hS136 := hS126.drew
            generalize w125.drew = w135 at hS136 ⊢
            refine gd1 0 { dst := some 99, op := _, type := _, pos := _, after := _, guard := _ } (.int .i64 x128) rfl hS136 (fun w hSw => by kernel_rfl) ?_
            refine gd1 1 { dst := some 100, op := _, type := _, pos := _, after := _, guard := _ } (.int .i64 x115) rfl hS136 (fun w hSw => by kernel_rfl) ?_
            rcases if_in hL130 with ⟨h137, hL130⟩ | ⟨h137, hL130⟩
            ·refine gd1 2 { dst := some 101, op := _, type := _, pos := _, after := _, guard := _ } (.bool true) rfl hS136 (fun w hSw => run_boolE (decide_eq_true h137) (by kernel_rfl)) ?_
             refine gd1 3 { dst := some 102, op := _, type := _, pos := _, after := _, guard := _ } (.bool true) rfl hS136 (fun w hSw => by kernel_rfl) ?_
             refine gd1 4 { dst := some 103, op := _, type := _, pos := _, after := _, guard := _ } (.slice A0 p0.length c0) rfl hS136 (fun w hSw => by kernel_rfl) ?_
             refine gd1 5 { dst := some 104, op := _, type := _, pos := _, after := _, guard := _ } (.int .i64 x128) rfl hS136 (fun w hSw => by kernel_rfl) ?_
             obtain ⟨x138, hx139, hL130⟩ := bind_in hL130
             refine gd1 6 { dst := some 105, op := _, type := _, pos := _, after := _, guard := _ } (.pointer (Option.map (fun (p : Addr) => p.add (Int.toNat x128 * 1)) A0)) rfl hS136 (fun w hSw => run_ixaddr (E := 45) (s := 1) (k := .i64) (c := c0) rfl (by kernel_rfl) (by kernel_rfl) (by kernel_rfl) (fun _ => by kernel_rfl) (ix_in hx139).1 (lt_len hn112 (ix_in hx139).2.1) (nil_len hn112 (num_nil (hS136.row 0 rfl).1))) ?_
             refine gd1 7 { dst := some 106, op := _, type := _, pos := _, after := _, guard := _ } (.int .u16 x138) rfl hS136 (fun w hSw => run_loadix rfl (by kernel_rfl) (fun _ => by kernel_rfl) (hSw.row 0 rfl).1 hx139) ?_
             refine gd1 8 { dst := some 107, op := _, type := _, pos := _, after := _, guard := _ } (.slice A0 p0.length c0) rfl hS136 (fun w hSw => by kernel_rfl) ?_
             refine gd1 9 { dst := some 108, op := _, type := _, pos := _, after := _, guard := _ } (.int .i64 p1) rfl hS136 (fun w hSw => by kernel_rfl) ?_
             obtain ⟨x140, hx141, hL130⟩ := bind_in hL130
             refine gd1 10 { dst := some 109, op := _, type := _, pos := _, after := _, guard := _ } (.pointer (Option.map (fun (p : Addr) => p.add (Int.toNat p1 * 1)) A0)) rfl hS136 (fun w hSw => run_ixaddr (E := 45) (s := 1) (k := .i64) (c := c0) rfl (by kernel_rfl) (by kernel_rfl) (by kernel_rfl) (fun _ => by kernel_rfl) (ix_in hx141).1 (lt_len hn112 (ix_in hx141).2.1) (nil_len hn112 (num_nil (hS136.row 0 rfl).1))) ?_
             refine gd1 11 { dst := some 110, op := _, type := _, pos := _, after := _, guard := _ } (.int .u16 x140) rfl hS136 (fun w hSw => run_loadix rfl (by kernel_rfl) (fun _ => by kernel_rfl) (hSw.row 0 rfl).1 hx141) ?_
             have hP142 : St _ _ w135 ([] ++ [rowE .u16 45 A0 c0 l113]) := hS136
             obtain ⟨b144, hc143, hL130⟩ := bind_in hL130
             try dsimp only at hL130
             refine gdC 12 { dst := some 111, op := _, type := _, pos := _, after := _, guard := _ } (zLess_R b144 w135) rfl (by kernel_rfl) (zLess_ok N x138 x140 _ hc143 w135 ) ?_
             rintro _ w145 ⟨rfl, hT147⟩
             have hS146 : St _ _ w145 [rowE .u16 45 A0 c0 l113] := hS136.take _ hT147
             refine ⟨hS146, ?_⟩
             refine gd1 13 { dst := some 112, op := _, type := _, pos := _, after := _, guard := _ } (.bool b144) rfl hS146 (fun w hSw => by kernel_rfl) ?_
             refine gd_done (by kernel_rfl) ?_
             refine gx_thenN ?_
             refine hK134 _ _ ?_
             cases b144 with
             | true =>
              try dsimp only at hL130
              refine gx_yes (by kernel_rfl) ?_
              refine gx_pass ?_
              refine gx_thenN ?_
              refine hK132 _ _ ?_
              refine gx_block ?_
              refine gx_region ?_
              refine gx_k (.int .i64 x128) w145 (gx_k (.int .i64 (IntKind.i64.wrap (x128 + 1))) w145 (gx_k (.int .i64 (IntKind.i64.wrap (x128 + 1))) w145 ?_))
              refine gx_nil ?_
              refine gx_blkN ?_
              refine gx_thenN ?_
              exact ⟨k129, Nat.lt_succ_self k129, (IntKind.i64.wrap (x128 + 1)), selfA_i (by kernel_rfl), hL130, hS146⟩
             | false =>
              try dsimp only at hL130
              refine gx_no (by kernel_rfl) ?_
              refine gx_exit ?_
              refine gx_thenE ?_
              refine gx_thenE ?_
              refine gx_blkE ?_
              refine gx_thenN ?_
              exact ⟨x128, selfA_i (by kernel_rfl), (Option.some.inj hL130), hS146⟩
            ·refine gd1 2 { dst := some 101, op := _, type := _, pos := _, after := _, guard := _ } (.bool false) rfl hS136 (fun w hSw => run_boolE (decide_eq_false h137) (by kernel_rfl)) ?_
             refine gd1 3 { dst := some 102, op := _, type := _, pos := _, after := _, guard := _ } (.bool false) rfl hS136 (fun w hSw => by kernel_rfl) ?_
             refine gd0 4 { dst := some 103, op := _, type := _, pos := _, after := _, guard := _ } rfl hS136 ?_
             refine gd0 5 { dst := some 104, op := _, type := _, pos := _, after := _, guard := _ } rfl hS136 ?_
             refine gd0 6 { dst := some 105, op := _, type := _, pos := _, after := _, guard := _ } rfl hS136 ?_
             refine gd0 7 { dst := some 106, op := _, type := _, pos := _, after := _, guard := _ } rfl hS136 ?_
             refine gd0 8 { dst := some 107, op := _, type := _, pos := _, after := _, guard := _ } rfl hS136 ?_
             refine gd0 9 { dst := some 108, op := _, type := _, pos := _, after := _, guard := _ } rfl hS136 ?_
             refine gd0 10 { dst := some 109, op := _, type := _, pos := _, after := _, guard := _ } rfl hS136 ?_
             refine gd0 11 { dst := some 110, op := _, type := _, pos := _, after := _, guard := _ } rfl hS136 ?_
             refine gd0 12 { dst := some 111, op := _, type := _, pos := _, after := _, guard := _ } rfl hS136 ?_
             refine gd1 13 { dst := some 112, op := _, type := _, pos := _, after := _, guard := _ } (.bool false) rfl hS136 (fun w hSw => by kernel_rfl) ?_
             refine gd_done (by kernel_rfl) ?_
             refine gx_thenN ?_
             refine hK134 _ _ ?_
             refine gx_no (by kernel_rfl) ?_
             refine gx_exit ?_
             refine gx_thenE ?_
             refine gx_thenE ?_
             refine gx_blkE ?_
             refine gx_thenN ?_
             exact ⟨x128, selfA_i (by kernel_rfl), (Option.some.inj hL130), hS136⟩
         ·rintro _ w118 ⟨x121, hq196, rfl, hS119⟩
          obtain ⟨u120, rfl⟩ := selfA_u hq196
          try dsimp only at hO124
          obtain ⟨c153, hE154, hO155⟩ := bind_in hO124
          refine gx_cut (fun a w => ∃ (x152 : Int), selfA (fun u151 => ⟨((.slice A0 p0.length c0) :: (.int .i64 p1) :: (.int .i64 p2) :: (.int .i64 p3) :: un 4 ((.int .i64 0) :: (.bool false) :: (.int .i64 x121) :: (.int .i64 x152) :: (u14 12) :: (.int .i64 p1) :: (u14 14) :: (.int .i64 p3) :: (u14 16) :: (.int .i64 p3) :: (.pointer (Option.map (fun (p : Addr) => p.add (Int.toNat p3 * 1)) A0)) :: (.int .u16 xz1_4o6_1) :: (u14 20) :: (.int .i64 p1) :: (.pointer (Option.map (fun (p : Addr) => p.add (Int.toNat p1 * 1)) A0)) :: (.int .u16 xz1_4o10_1) :: (.pointer (Option.map (fun (p : Addr) => p.add (Int.toNat p1 * 1)) A0)) :: (.pointer (Option.map (fun (p : Addr) => p.add (Int.toNat p3 * 1)) A0)) :: (.int .i64 p1) :: (.int .i64 (IntKind.i64.wrap (p1 + 1))) :: (.int .i64 p2) :: (.int .i64 (IntKind.i64.wrap (p2 - 1))) :: dd u14 30 16 (dd u45 46 17 ((.int .i64 x15) :: (.int .i64 x46) :: (.bool false) :: un 15 ((u111 81) :: (.int .i64 x15) :: (u111 83) :: (.int .i64 x46) :: (u111 85) :: (.int .i64 x46) :: (.pointer (Option.map (fun (p : Addr) => p.add (Int.toNat x46 * 1)) A0)) :: (.int .u16 xz10_90o6_1) :: (u111 89) :: (.int .i64 x15) :: (.pointer (Option.map (fun (p : Addr) => p.add (Int.toNat x15 * 1)) A0)) :: (.int .u16 xz10_90o10_1) :: (.pointer (Option.map (fun (p : Addr) => p.add (Int.toNat x15 * 1)) A0)) :: (.pointer (Option.map (fun (p : Addr) => p.add (Int.toNat x46 * 1)) A0)) :: (.int .i64 x15) :: (.int .i64 (IntKind.i64.wrap (x15 + 1))) :: (.int .i64 x46) :: (.int .i64 (IntKind.i64.wrap (x46 - 1))) :: dd u120 99 16 (dd u151 115 17 (dd u111 132 21 (un 15 ([]))))))))).toArray, []⟩) a ∧ x152 = c153 ∧ St (foots [rowE .u16 45 A0 c0 p0]) w0 w [rowE .u16 45 A0 c0 l113]) ?_ ?_
          ·refine gx_block ?_
           refine gx_loop (fun k a w => ∃ (x159 : Int), selfA (fun u158 => ⟨((.slice A0 p0.length c0) :: (.int .i64 p1) :: (.int .i64 p2) :: (.int .i64 p3) :: un 4 ((.int .i64 0) :: (.bool false) :: (.int .i64 x121) :: (.int .i64 x159) :: (u14 12) :: (.int .i64 p1) :: (u14 14) :: (.int .i64 p3) :: (u14 16) :: (.int .i64 p3) :: (.pointer (Option.map (fun (p : Addr) => p.add (Int.toNat p3 * 1)) A0)) :: (.int .u16 xz1_4o6_1) :: (u14 20) :: (.int .i64 p1) :: (.pointer (Option.map (fun (p : Addr) => p.add (Int.toNat p1 * 1)) A0)) :: (.int .u16 xz1_4o10_1) :: (.pointer (Option.map (fun (p : Addr) => p.add (Int.toNat p1 * 1)) A0)) :: (.pointer (Option.map (fun (p : Addr) => p.add (Int.toNat p3 * 1)) A0)) :: (.int .i64 p1) :: (.int .i64 (IntKind.i64.wrap (p1 + 1))) :: (.int .i64 p2) :: (.int .i64 (IntKind.i64.wrap (p2 - 1))) :: dd u14 30 16 (dd u45 46 17 ((.int .i64 x15) :: (.int .i64 x46) :: (.bool false) :: un 15 ((u111 81) :: (.int .i64 x15) :: (u111 83) :: (.int .i64 x46) :: (u111 85) :: (.int .i64 x46) :: (.pointer (Option.map (fun (p : Addr) => p.add (Int.toNat x46 * 1)) A0)) :: (.int .u16 xz10_90o6_1) :: (u111 89) :: (.int .i64 x15) :: (.pointer (Option.map (fun (p : Addr) => p.add (Int.toNat x15 * 1)) A0)) :: (.int .u16 xz10_90o10_1) :: (.pointer (Option.map (fun (p : Addr) => p.add (Int.toNat x15 * 1)) A0)) :: (.pointer (Option.map (fun (p : Addr) => p.add (Int.toNat x46 * 1)) A0)) :: (.int .i64 x15) :: (.int .i64 (IntKind.i64.wrap (x15 + 1))) :: (.int .i64 x46) :: (.int .i64 (IntKind.i64.wrap (x46 - 1))) :: dd u120 99 16 (dd u158 115 17 (dd u111 132 21 (un 15 ([]))))))))).toArray, []⟩) a ∧ zCut_L5 N p1 l113 x121 k x159 = some c153 ∧ St (foots [rowE .u16 45 A0 c0 p0]) w0 w [rowE .u16 45 A0 c0 l113]) N ?_ ?_
           ·exact ⟨x115, selfA_i (by kernel_rfl), hE154, hS119⟩
           ·rintro k160 _ w156 ⟨x159, hq179, hL161, hS157⟩
            obtain ⟨u158, rfl⟩ := selfA_u hq179
            cases k160 with
            | zero => cases hL161
            | succ k160 =>
             first | rw [zCut_L5] at hL161 | unfold zCut_L5 at hL161
             refine gx_seq (fun K162 hK163 => ?_)
             refine gx_seq (fun K164 hK165 => ?_)
             refine gd_start (fun w => St (foots [rowE .u16 45 A0 c0 p0]) w0 w [rowE .u16 45 A0 c0 l113]) 15 #[false, false, false, false, false, false, false, false, false, false, false, false, false, false, false] (by kernel_rfl) (by kernel_rfl) ?_
             have hS167 := hS157.drew
             generalize w156.drew = w166 at hS167 ⊢
             refine gd1 0 { dst := some 115, op := _, type := _, pos := _, after := _, guard := _ } (.int .i64 x121) rfl hS167 (fun w hSw => by kernel_rfl) ?_
             refine gd1 1 { dst := some 116, op := _, type := _, pos := _, after := _, guard := _ } (.int .i64 x159) rfl hS167 (fun w hSw => by kernel_rfl) ?_
             rcases if_in hL161 with ⟨h168, hL161⟩ | ⟨h168, hL161⟩
             ·refine gd1 2 { dst := some 117, op := _, type := _, pos := _, after := _, guard := _ } (.bool true) rfl hS167 (fun w hSw => run_boolE (decide_eq_true h168) (by kernel_rfl)) ?_
              refine gd1 3 { dst := some 118, op := _, type := _, pos := _, after := _, guard := _ } (.bool true) rfl hS167 (fun w hSw => by kernel_rfl) ?_
              refine gd1 4 { dst := some 119, op := _, type := _, pos := _, after := _, guard := _ } (.slice A0 p0.length c0) rfl hS167 (fun w hSw => by kernel_rfl) ?_
              refine gd1 5 { dst := some 120, op := _, type := _, pos := _, after := _, guard := _ } (.int .i64 x159) rfl hS167 (fun w hSw => by kernel_rfl) ?_
              obtain ⟨x169, hx170, hL161⟩ := bind_in hL161
              refine gd1 6 { dst := some 121, op := _, type := _, pos := _, after := _, guard := _ } (.pointer (Option.map (fun (p : Addr) => p.add (Int.toNat x159 * 1)) A0)) rfl hS167 (fun w hSw => run_ixaddr (E := 45) (s := 1) (k := .i64) (c := c0) rfl (by kernel_rfl) (by kernel_rfl) (by kernel_rfl) (fun _ => by kernel_rfl) (ix_in hx170).1 (lt_len hn112 (ix_in hx170).2.1) (nil_len hn112 (num_nil (hS167.row 0 rfl).1))) ?_
              refine gd1 7 { dst := some 122, op := _, type := _, pos := _, after := _, guard := _ } (.int .u16 x169) rfl hS167 (fun w hSw => run_loadix rfl (by kernel_rfl) (fun _ => by kernel_rfl) (hSw.row 0 rfl).1 hx170) ?_
              refine gd1 8 { dst := some 123, op := _, type := _, pos := _, after := _, guard := _ } (.slice A0 p0.length c0) rfl hS167 (fun w hSw => by kernel_rfl) ?_
              refine gd1 9 { dst := some 124, op := _, type := _, pos := _, after := _, guard := _ } (.int .i64 p1) rfl hS167 (fun w hSw => by kernel_rfl) ?_
              obtain ⟨x171, hx172, hL161⟩ := bind_in hL161
              refine gd1 10 { dst := some 125, op := _, type := _, pos := _, after := _, guard := _ } (.pointer (Option.map (fun (p : Addr) => p.add (Int.toNat p1 * 1)) A0)) rfl hS167 (fun w hSw => run_ixaddr (E := 45) (s := 1) (k := .i64) (c := c0) rfl (by kernel_rfl) (by kernel_rfl) (by kernel_rfl) (fun _ => by kernel_rfl) (ix_in hx172).1 (lt_len hn112 (ix_in hx172).2.1) (nil_len hn112 (num_nil (hS167.row 0 rfl).1))) ?_
              refine gd1 11 { dst := some 126, op := _, type := _, pos := _, after := _, guard := _ } (.int .u16 x171) rfl hS167 (fun w hSw => run_loadix rfl (by kernel_rfl) (fun _ => by kernel_rfl) (hSw.row 0 rfl).1 hx172) ?_
              have hP173 : St _ _ w166 ([] ++ [rowE .u16 45 A0 c0 l113]) := hS167
              obtain ⟨b175, hc174, hL161⟩ := bind_in hL161
              try dsimp only at hL161
              refine gdC 12 { dst := some 127, op := _, type := _, pos := _, after := _, guard := _ } (zLess_R b175 w166) rfl (by kernel_rfl) (zLess_ok N x169 x171 _ hc174 w166 ) ?_
              rintro _ w176 ⟨rfl, hT178⟩
              have hS177 : St _ _ w176 [rowE .u16 45 A0 c0 l113] := hS167.take _ hT178
              refine ⟨hS177, ?_⟩
              cases b175 with
              | true =>
               try dsimp only at hL161
               refine gd1 13 { dst := some 128, op := _, type := _, pos := _, after := _, guard := _ } (.bool false) rfl hS177 (fun w hSw => by kernel_rfl) ?_
               refine gd1 14 { dst := some 129, op := _, type := _, pos := _, after := _, guard := _ } (.bool false) rfl hS177 (fun w hSw => by kernel_rfl) ?_
               refine gd_done (by kernel_rfl) ?_
               refine gx_thenN ?_
               refine hK165 _ _ ?_
               refine gx_no (by kernel_rfl) ?_
               refine gx_exit ?_
               refine gx_thenE ?_
               refine gx_thenE ?_
               refine gx_blkE ?_
               refine gx_thenN ?_
               exact ⟨x159, selfA_i (by kernel_rfl), (Option.some.inj hL161), hS177⟩
              | false =>
               try dsimp only at hL161
               refine gd1 13 { dst := some 128, op := _, type := _, pos := _, after := _, guard := _ } (.bool true) rfl hS177 (fun w hSw => by kernel_rfl) ?_
               refine gd1 14 { dst := some 129, op := _, type := _, pos := _, after := _, guard := _ } (.bool true) rfl hS177 (fun w hSw => by kernel_rfl) ?_
               refine gd_done (by kernel_rfl) ?_
               refine gx_thenN ?_
               refine hK165 _ _ ?_
               refine gx_yes (by kernel_rfl) ?_
               refine gx_pass ?_
               refine gx_thenN ?_
               refine hK163 _ _ ?_
               refine gx_block ?_
               refine gx_region ?_
               refine gx_k (.int .i64 x159) w176 (gx_k (.int .i64 (IntKind.i64.wrap (x159 - 1))) w176 (gx_k (.int .i64 (IntKind.i64.wrap (x159 - 1))) w176 ?_))
               refine gx_nil ?_
               refine gx_blkN ?_
               refine gx_thenN ?_
               exact ⟨k160, Nat.lt_succ_self k160, (IntKind.i64.wrap (x159 - 1)), selfA_i (by kernel_rfl), hL161, hS177⟩
             ·refine gd1 2 { dst := some 117, op := _, type := _, pos := _, after := _, guard := _ } (.bool false) rfl hS167 (fun w hSw => run_boolE (decide_eq_false h168) (by kernel_rfl)) ?_
              refine gd1 3 { dst := some 118, op := _, type := _, pos := _, after := _, guard := _ } (.bool false) rfl hS167 (fun w hSw => by kernel_rfl) ?_
              refine gd0 4 { dst := some 119, op := _, type := _, pos := _, after := _, guard := _ } rfl hS167 ?_
              refine gd0 5 { dst := some 120, op := _, type := _, pos := _, after := _, guard := _ } rfl hS167 ?_
              refine gd0 6 { dst := some 121, op := _, type := _, pos := _, after := _, guard := _ } rfl hS167 ?_
              refine gd0 7 { dst := some 122, op := _, type := _, pos := _, after := _, guard := _ } rfl hS167 ?_
              refine gd0 8 { dst := some 123, op := _, type := _, pos := _, after := _, guard := _ } rfl hS167 ?_
              refine gd0 9 { dst := some 124, op := _, type := _, pos := _, after := _, guard := _ } rfl hS167 ?_
              refine gd0 10 { dst := some 125, op := _, type := _, pos := _, after := _, guard := _ } rfl hS167 ?_
              refine gd0 11 { dst := some 126, op := _, type := _, pos := _, after := _, guard := _ } rfl hS167 ?_
              refine gd0 12 { dst := some 127, op := _, type := _, pos := _, after := _, guard := _ } rfl hS167 ?_
              refine gd0 13 { dst := some 128, op := _, type := _, pos := _, after := _, guard := _ } rfl hS167 ?_
              refine gd1 14 { dst := some 129, op := _, type := _, pos := _, after := _, guard := _ } (.bool false) rfl hS167 (fun w hSw => by kernel_rfl) ?_
              refine gd_done (by kernel_rfl) ?_
              refine gx_thenN ?_
              refine hK165 _ _ ?_
              refine gx_no (by kernel_rfl) ?_
              refine gx_exit ?_
              refine gx_thenE ?_
              refine gx_thenE ?_
              refine gx_blkE ?_
              refine gx_thenN ?_
              exact ⟨x159, selfA_i (by kernel_rfl), (Option.some.inj hL161), hS167⟩
          ·rintro _ w149 ⟨x152, hq195, rfl, hS150⟩
           obtain ⟨u151, rfl⟩ := selfA_u hq195
           try dsimp only at hO155
           refine gx_seq (fun K180 hK181 => ?_)
           refine gx_seq (fun K182 hK183 => ?_)
           refine gx_region ?_
           refine gx_k (.int .i64 x121) w149 (gx_k (.int .i64 x152) w149 ?_)
           rcases if_in hO155 with ⟨h184, hO155⟩ | ⟨h184, hO155⟩
           ·refine gx_v (.bool true) w149 (run_boolE (decide_eq_true h184) (by kernel_rfl)) ?_
            refine gx_nil ?_
            refine gx_thenN ?_
            refine hK183 _ _ ?_
            refine gx_yes (by kernel_rfl) ?_
            refine gx_exit ?_
            refine gx_thenE ?_
            refine gx_blkO (by decide) ?_
            refine gx_thenE ?_
            refine gx_blkE ?_
            refine gx_thenN ?_
            exact ⟨l113, x152, selfA_i (by kernel_rfl), (Option.some.inj hO155), hS150, hn112⟩
           ·refine gx_v (.bool false) w149 (run_boolE (decide_eq_false h184) (by kernel_rfl)) ?_
            refine gx_nil ?_
            refine gx_thenN ?_
            refine hK183 _ _ ?_
            refine gx_no (by kernel_rfl) ?_
            refine gx_pass ?_
            refine gx_thenN ?_
            refine hK181 _ _ ?_
            refine gx_seq (fun K185 hK186 => ?_)
            refine gd_start (fun w => St (foots [rowE .u16 45 A0 c0 p0]) w0 w []) 16 #[false, false, false, false, false, false, false, false, false, false, false, false, false, false, false, false] (by kernel_rfl) (by kernel_rfl) ?_
            have hS189 := hS150.drew
            generalize w149.drew = w188 at hS189 ⊢
            obtain ⟨xz18_186o6_1, hxz18_186o6_2, hO155⟩ := bind_in hO155
            obtain ⟨xz18_186o10_1, hxz18_186o10_2, hO155⟩ := bind_in hO155
            obtain ⟨xz18_186o12_1, hxz18_186o12_2, hO155⟩ := bind_in hO155
            obtain ⟨lz18_186o13_3, hxz18_186o13_4, hO155⟩ := bind_in hO155
            obtain ⟨xz18_186o14_1, hxz18_186o14_2, hO155⟩ := bind_in hO155
            obtain ⟨lz18_186o15_3, hxz18_186o15_4, hO155⟩ := bind_in hO155
            refine gd_share (X := Unit) (fun _ => ⟨((.slice A0 p0.length c0) :: (.int .i64 p1) :: (.int .i64 p2) :: (.int .i64 p3) :: un 4 ((.int .i64 0) :: (.bool false) :: (.int .i64 x121) :: (.int .i64 x152) :: (u14 12) :: (.int .i64 p1) :: (u14 14) :: (.int .i64 p3) :: (u14 16) :: (.int .i64 p3) :: (.pointer (Option.map (fun (p : Addr) => p.add (Int.toNat p3 * 1)) A0)) :: (.int .u16 xz1_4o6_1) :: (u14 20) :: (.int .i64 p1) :: (.pointer (Option.map (fun (p : Addr) => p.add (Int.toNat p1 * 1)) A0)) :: (.int .u16 xz1_4o10_1) :: (.pointer (Option.map (fun (p : Addr) => p.add (Int.toNat p1 * 1)) A0)) :: (.pointer (Option.map (fun (p : Addr) => p.add (Int.toNat p3 * 1)) A0)) :: (.int .i64 p1) :: (.int .i64 (IntKind.i64.wrap (p1 + 1))) :: (.int .i64 p2) :: (.int .i64 (IntKind.i64.wrap (p2 - 1))) :: dd u14 30 16 (dd u45 46 17 ((.int .i64 x15) :: (.int .i64 x46) :: (.bool false) :: un 15 ((u111 81) :: (.int .i64 x15) :: (u111 83) :: (.int .i64 x46) :: (u111 85) :: (.int .i64 x46) :: (.pointer (Option.map (fun (p : Addr) => p.add (Int.toNat x46 * 1)) A0)) :: (.int .u16 xz10_90o6_1) :: (u111 89) :: (.int .i64 x15) :: (.pointer (Option.map (fun (p : Addr) => p.add (Int.toNat x15 * 1)) A0)) :: (.int .u16 xz10_90o10_1) :: (.pointer (Option.map (fun (p : Addr) => p.add (Int.toNat x15 * 1)) A0)) :: (.pointer (Option.map (fun (p : Addr) => p.add (Int.toNat x46 * 1)) A0)) :: (.int .i64 x15) :: (.int .i64 (IntKind.i64.wrap (x15 + 1))) :: (.int .i64 x46) :: (.int .i64 (IntKind.i64.wrap (x46 - 1))) :: dd u120 99 16 (dd u151 115 17 ((.int .i64 x121) :: (.int .i64 x152) :: (.bool false) :: (.slice A0 p0.length c0) :: (.int .i64 x121) :: (.slice A0 p0.length c0) :: (.int .i64 x152) :: (.slice A0 p0.length c0) :: (.int .i64 x152) :: (.pointer (Option.map (fun (p : Addr) => p.add (Int.toNat x152 * 1)) A0)) :: (.int .u16 xz18_186o6_1) :: (.slice A0 p0.length c0) :: (.int .i64 x121) :: (.pointer (Option.map (fun (p : Addr) => p.add (Int.toNat x121 * 1)) A0)) :: (.int .u16 xz18_186o10_1) :: (.pointer (Option.map (fun (p : Addr) => p.add (Int.toNat x121 * 1)) A0)) :: (.pointer (Option.map (fun (p : Addr) => p.add (Int.toNat x152 * 1)) A0)) :: dd u111 149 4 (un 15 ([]))))))))).toArray, []⟩) (fun _ w => St (foots [rowE .u16 45 A0 c0 p0]) w0 w [rowE .u16 45 A0 c0 lz18_186o15_3]) ?_ ?_
            ·rintro _ w190 hS191
             have hS191 : St _ _ w190 [rowE .u16 45 A0 c0 lz18_186o15_3] := hS191
             show WQ _ _ ⟨((.slice A0 p0.length c0) :: (.int .i64 p1) :: (.int .i64 p2) :: (.int .i64 p3) :: un 4 ((.int .i64 0) :: (.bool false) :: (.int .i64 x121) :: (.int .i64 x152) :: (u14 12) :: (.int .i64 p1) :: (u14 14) :: (.int .i64 p3) :: (u14 16) :: (.int .i64 p3) :: (.pointer (Option.map (fun (p : Addr) => p.add (Int.toNat p3 * 1)) A0)) :: (.int .u16 xz1_4o6_1) :: (u14 20) :: (.int .i64 p1) :: (.pointer (Option.map (fun (p : Addr) => p.add (Int.toNat p1 * 1)) A0)) :: (.int .u16 xz1_4o10_1) :: (.pointer (Option.map (fun (p : Addr) => p.add (Int.toNat p1 * 1)) A0)) :: (.pointer (Option.map (fun (p : Addr) => p.add (Int.toNat p3 * 1)) A0)) :: (.int .i64 p1) :: (.int .i64 (IntKind.i64.wrap (p1 + 1))) :: (.int .i64 p2) :: (.int .i64 (IntKind.i64.wrap (p2 - 1))) :: dd u14 30 16 (dd u45 46 17 ((.int .i64 x15) :: (.int .i64 x46) :: (.bool false) :: un 15 ((u111 81) :: (.int .i64 x15) :: (u111 83) :: (.int .i64 x46) :: (u111 85) :: (.int .i64 x46) :: (.pointer (Option.map (fun (p : Addr) => p.add (Int.toNat x46 * 1)) A0)) :: (.int .u16 xz10_90o6_1) :: (u111 89) :: (.int .i64 x15) :: (.pointer (Option.map (fun (p : Addr) => p.add (Int.toNat x15 * 1)) A0)) :: (.int .u16 xz10_90o10_1) :: (.pointer (Option.map (fun (p : Addr) => p.add (Int.toNat x15 * 1)) A0)) :: (.pointer (Option.map (fun (p : Addr) => p.add (Int.toNat x46 * 1)) A0)) :: (.int .i64 x15) :: (.int .i64 (IntKind.i64.wrap (x15 + 1))) :: (.int .i64 x46) :: (.int .i64 (IntKind.i64.wrap (x46 - 1))) :: dd u120 99 16 (dd u151 115 17 ((.int .i64 x121) :: (.int .i64 x152) :: (.bool false) :: (.slice A0 p0.length c0) :: (.int .i64 x121) :: (.slice A0 p0.length c0) :: (.int .i64 x152) :: (.slice A0 p0.length c0) :: (.int .i64 x152) :: (.pointer (Option.map (fun (p : Addr) => p.add (Int.toNat x152 * 1)) A0)) :: (.int .u16 xz18_186o6_1) :: (.slice A0 p0.length c0) :: (.int .i64 x121) :: (.pointer (Option.map (fun (p : Addr) => p.add (Int.toNat x121 * 1)) A0)) :: (.int .u16 xz18_186o10_1) :: (.pointer (Option.map (fun (p : Addr) => p.add (Int.toNat x121 * 1)) A0)) :: (.pointer (Option.map (fun (p : Addr) => p.add (Int.toNat x152 * 1)) A0)) :: dd u111 149 4 (un 15 ([]))))))))).toArray, []⟩ _
             refine gx_thenN ?_
             refine hK186 _ _ ?_
             refine gx_seq (fun K192 hK193 => ?_)
             refine gx_region ?_
             refine gx_k (.int .i64 x121) w190 (gx_k (.int .i64 (IntKind.i64.wrap (x121 + 1))) w190 (gx_k (.int .i64 (IntKind.i64.wrap (x121 + 1))) w190 ?_))
             refine gx_nil ?_
             refine gx_thenN ?_
             refine hK193 _ _ ?_
             refine gx_region ?_
             refine gx_k (.int .i64 x152) w190 (gx_k (.int .i64 (IntKind.i64.wrap (x152 - 1))) w190 (gx_k (.int .i64 (IntKind.i64.wrap (x152 - 1))) w190 ?_))
             refine gx_nil ?_
             refine gx_blkN ?_
             refine gx_thenN ?_
             exact ⟨k116, Nat.lt_succ_self k116, lz18_186o15_3, (IntKind.i64.wrap (x121 + 1)), (IntKind.i64.wrap (x152 - 1)), selfA_i (by kernel_rfl), hO155, hS191, ((hn112.trans (setx_len hxz18_186o13_4).symm).trans (setx_len hxz18_186o15_4).symm)⟩
            ·intro K194
             refine gd1 0 { dst := some 135, op := _, type := _, pos := _, after := _, guard := _ } (.slice A0 p0.length c0) rfl (hS189.pick [] rfl rfl) (fun w hSw => by kernel_rfl) ?_
             refine gd1 1 { dst := some 136, op := _, type := _, pos := _, after := _, guard := _ } (.int .i64 x121) rfl (hS189.pick [] rfl rfl) (fun w hSw => by kernel_rfl) ?_
             refine gd1 2 { dst := some 137, op := _, type := _, pos := _, after := _, guard := _ } (.slice A0 p0.length c0) rfl (hS189.pick [] rfl rfl) (fun w hSw => by kernel_rfl) ?_
             refine gd1 3 { dst := some 138, op := _, type := _, pos := _, after := _, guard := _ } (.int .i64 x152) rfl (hS189.pick [] rfl rfl) (fun w hSw => by kernel_rfl) ?_
             refine gd1 4 { dst := some 139, op := _, type := _, pos := _, after := _, guard := _ } (.slice A0 p0.length c0) rfl (hS189.pick [] rfl rfl) (fun w hSw => by kernel_rfl) ?_
             refine gd1 5 { dst := some 140, op := _, type := _, pos := _, after := _, guard := _ } (.int .i64 x152) rfl (hS189.pick [] rfl rfl) (fun w hSw => by kernel_rfl) ?_
             refine gd1 6 { dst := some 141, op := _, type := _, pos := _, after := _, guard := _ } (.pointer (Option.map (fun (p : Addr) => p.add (Int.toNat x152 * 1)) A0)) rfl (hS189.pick [] rfl rfl) (fun w hSw => run_ixaddr (E := 45) (s := 1) (k := .i64) (c := c0) rfl (by kernel_rfl) (by kernel_rfl) (by kernel_rfl) (fun _ => by kernel_rfl) (ix_in hxz18_186o6_2).1 (lt_len hn112 (ix_in hxz18_186o6_2).2.1) (nil_len hn112 (num_nil (hS189.row 0 rfl).1))) ?_
             refine gd1 8 { dst := some 143, op := _, type := _, pos := _, after := _, guard := _ } (.slice A0 p0.length c0) rfl (hS189.pick [] rfl rfl) (fun w hSw => by kernel_rfl) ?_
             refine gd1 9 { dst := some 144, op := _, type := _, pos := _, after := _, guard := _ } (.int .i64 x121) rfl (hS189.pick [] rfl rfl) (fun w hSw => by kernel_rfl) ?_
             refine gd1 10 { dst := some 145, op := _, type := _, pos := _, after := _, guard := _ } (.pointer (Option.map (fun (p : Addr) => p.add (Int.toNat x121 * 1)) A0)) rfl (hS189.pick [] rfl rfl) (fun w hSw => run_ixaddr (E := 45) (s := 1) (k := .i64) (c := c0) rfl (by kernel_rfl) (by kernel_rfl) (by kernel_rfl) (fun _ => by kernel_rfl) (ix_in hxz18_186o10_2).1 (lt_len hn112 (ix_in hxz18_186o10_2).2.1) (nil_len hn112 (num_nil (hS189.row 0 rfl).1))) ?_
             refine gd_fork2 7 11 { dst := some 142, op := _, type := _, pos := _, after := _, guard := _ } { dst := some 146, op := _, type := _, pos := _, after := _, guard := _ } rfl rfl ?_ ?_
             ·refine gfR 7 { dst := some 142, op := _, type := _, pos := _, after := _, guard := _ } (R := fun v w => v = .int .u16 xz18_186o6_1 ∧ w188 = w) rfl ⟨_, _, run_loadix rfl (by kernel_rfl) (fun _ => by kernel_rfl) (hS189.row 0 rfl).1 hxz18_186o6_2, rfl, rfl⟩ ?_
              rintro _ _ ⟨rfl, rfl⟩
              refine ⟨(hS189.pick [] rfl rfl), ?_⟩
              refine gdR 11 { dst := some 146, op := _, type := _, pos := _, after := _, guard := _ } (R := fun v w => v = .int .u16 xz18_186o10_1 ∧ w188 = w) rfl ⟨_, _, run_loadix rfl (by kernel_rfl) (fun _ => by kernel_rfl) (hS189.row 0 rfl).1 hxz18_186o10_2, rfl, rfl⟩ ?_
              rintro _ _ ⟨rfl, rfl⟩
              refine ⟨(hS189.pick [] rfl rfl), ?_⟩
              refine gd1 12 { dst := some 147, op := _, type := _, pos := _, after := _, guard := _ } (.pointer (Option.map (fun (p : Addr) => p.add (Int.toNat x121 * 1)) A0)) rfl (hS189.pick [] rfl rfl) (fun w hSw => run_ixaddr (E := 45) (s := 1) (k := .i64) (c := c0) rfl (by kernel_rfl) (by kernel_rfl) (by kernel_rfl) (fun _ => by kernel_rfl) (ix_in hxz18_186o12_2).1 (lt_len hn112 (ix_in hxz18_186o12_2).2.1) (nil_len hn112 (num_nil (hS189.row 0 rfl).1))) ?_
              refine gdS 13 { dst := none, op := _, type := _, pos := _, after := _, guard := _ } rfl (st_storeix rfl (by kernel_rfl) (by kernel_rfl) (fun _ => by kernel_rfl) hS189 0 rfl hxz18_186o13_4) ?_
              rintro wz18_186o13_1 hSz18_186o13_2
              have hSz18_186o13_2 : St _ _ wz18_186o13_1 [rowE .u16 45 A0 c0 lz18_186o13_3] := hSz18_186o13_2
              refine ⟨(hSz18_186o13_2.pick [] rfl rfl), ?_⟩
              refine gd1 14 { dst := some 148, op := _, type := _, pos := _, after := _, guard := _ } (.pointer (Option.map (fun (p : Addr) => p.add (Int.toNat x152 * 1)) A0)) rfl (hSz18_186o13_2.pick [] rfl rfl) (fun w hSw => run_ixaddr (E := 45) (s := 1) (k := .i64) (c := c0) rfl (by kernel_rfl) (by kernel_rfl) (by kernel_rfl) (fun _ => by kernel_rfl) (ix_in hxz18_186o14_2).1 (lt_len (hn112.trans (setx_len hxz18_186o13_4).symm) (ix_in hxz18_186o14_2).2.1) (nil_len (hn112.trans (setx_len hxz18_186o13_4).symm) (num_nil (hSz18_186o13_2.row 0 rfl).1))) ?_
              refine gdS 15 { dst := none, op := _, type := _, pos := _, after := _, guard := _ } rfl (st_storeix rfl (by kernel_rfl) (by kernel_rfl) (fun _ => by kernel_rfl) hSz18_186o13_2 0 rfl hxz18_186o15_4) ?_
              rintro wz18_186o15_1 hSz18_186o15_2
              have hSz18_186o15_2 : St _ _ wz18_186o15_1 [rowE .u16 45 A0 c0 lz18_186o15_3] := hSz18_186o15_2
              refine ⟨(hSz18_186o15_2.pick [] rfl rfl), ?_⟩
              exact gd_meet (by kernel_rfl) (by kernel_rfl) (K194 () _ hSz18_186o15_2)
             ·refine gfR 11 { dst := some 146, op := _, type := _, pos := _, after := _, guard := _ } (R := fun v w => v = .int .u16 xz18_186o10_1 ∧ w188 = w) rfl ⟨_, _, run_loadix rfl (by kernel_rfl) (fun _ => by kernel_rfl) (hS189.row 0 rfl).1 hxz18_186o10_2, rfl, rfl⟩ ?_
              rintro _ _ ⟨rfl, rfl⟩
              refine ⟨(hS189.pick [] rfl rfl), ?_⟩
              refine gdR 7 { dst := some 142, op := _, type := _, pos := _, after := _, guard := _ } (R := fun v w => v = .int .u16 xz18_186o6_1 ∧ w188 = w) rfl ⟨_, _, run_loadix rfl (by kernel_rfl) (fun _ => by kernel_rfl) (hS189.row 0 rfl).1 hxz18_186o6_2, rfl, rfl⟩ ?_
              rintro _ _ ⟨rfl, rfl⟩
              refine ⟨(hS189.pick [] rfl rfl), ?_⟩
              refine gd1 12 { dst := some 147, op := _, type := _, pos := _, after := _, guard := _ } (.pointer (Option.map (fun (p : Addr) => p.add (Int.toNat x121 * 1)) A0)) rfl (hS189.pick [] rfl rfl) (fun w hSw => run_ixaddr (E := 45) (s := 1) (k := .i64) (c := c0) rfl (by kernel_rfl) (by kernel_rfl) (by kernel_rfl) (fun _ => by kernel_rfl) (ix_in hxz18_186o12_2).1 (lt_len hn112 (ix_in hxz18_186o12_2).2.1) (nil_len hn112 (num_nil (hS189.row 0 rfl).1))) ?_
              refine gdS 13 { dst := none, op := _, type := _, pos := _, after := _, guard := _ } rfl (st_storeix rfl (by kernel_rfl) (by kernel_rfl) (fun _ => by kernel_rfl) hS189 0 rfl hxz18_186o13_4) ?_
              rintro wz18_186o13_1 hSz18_186o13_2
              have hSz18_186o13_2 : St _ _ wz18_186o13_1 [rowE .u16 45 A0 c0 lz18_186o13_3] := hSz18_186o13_2
              refine ⟨(hSz18_186o13_2.pick [] rfl rfl), ?_⟩
              refine gd1 14 { dst := some 148, op := _, type := _, pos := _, after := _, guard := _ } (.pointer (Option.map (fun (p : Addr) => p.add (Int.toNat x152 * 1)) A0)) rfl (hSz18_186o13_2.pick [] rfl rfl) (fun w hSw => run_ixaddr (E := 45) (s := 1) (k := .i64) (c := c0) rfl (by kernel_rfl) (by kernel_rfl) (by kernel_rfl) (fun _ => by kernel_rfl) (ix_in hxz18_186o14_2).1 (lt_len (hn112.trans (setx_len hxz18_186o13_4).symm) (ix_in hxz18_186o14_2).2.1) (nil_len (hn112.trans (setx_len hxz18_186o13_4).symm) (num_nil (hSz18_186o13_2.row 0 rfl).1))) ?_
              refine gdS 15 { dst := none, op := _, type := _, pos := _, after := _, guard := _ } rfl (st_storeix rfl (by kernel_rfl) (by kernel_rfl) (fun _ => by kernel_rfl) hSz18_186o13_2 0 rfl hxz18_186o15_4) ?_
              rintro wz18_186o15_1 hSz18_186o15_2
              have hSz18_186o15_2 : St _ _ wz18_186o15_1 [rowE .u16 45 A0 c0 lz18_186o15_3] := hSz18_186o15_2
              refine ⟨(hSz18_186o15_2.pick [] rfl rfl), ?_⟩
              exact gd_meet (by kernel_rfl) (by kernel_rfl) (K194 () _ hSz18_186o15_2)
      ·rintro _ w100 ⟨l104, x105, hq208, rfl, hS101, hn103⟩
       obtain ⟨u102, rfl⟩ := selfA_u hq208
       try dsimp only at hO108
       refine gx_seq (fun K198 hK199 => ?_)
       refine gd_start (fun w => St (foots [rowE .u16 45 A0 c0 p0]) w0 w []) 16 #[false, false, false, false, false, false, false, false, false, false, false, false, false, false, false, false] (by kernel_rfl) (by kernel_rfl) ?_
       have hS202 := hS101.drew
       generalize w100.drew = w201 at hS202 ⊢
       obtain ⟨xz21_199o6_1, hxz21_199o6_2, hO108⟩ := bind_in hO108
       obtain ⟨xz21_199o10_1, hxz21_199o10_2, hO108⟩ := bind_in hO108
       obtain ⟨xz21_199o12_1, hxz21_199o12_2, hO108⟩ := bind_in hO108
       obtain ⟨lz21_199o13_3, hxz21_199o13_4, hO108⟩ := bind_in hO108
       obtain ⟨xz21_199o14_1, hxz21_199o14_2, hO108⟩ := bind_in hO108
       obtain ⟨lz21_199o15_3, hxz21_199o15_4, hO108⟩ := bind_in hO108
       refine gd_share (X := Unit) (fun _ => ⟨((.slice A0 p0.length c0) :: (.int .i64 p1) :: (.int .i64 p2) :: (.int .i64 p3) :: un 4 ((.int .i64 0) :: (.bool false) :: (u102 10) :: (.int .i64 x105) :: (u14 12) :: (.int .i64 p1) :: (u14 14) :: (.int .i64 p3) :: (u14 16) :: (.int .i64 p3) :: (.pointer (Option.map (fun (p : Addr) => p.add (Int.toNat p3 * 1)) A0)) :: (.int .u16 xz1_4o6_1) :: (u14 20) :: (.int .i64 p1) :: (.pointer (Option.map (fun (p : Addr) => p.add (Int.toNat p1 * 1)) A0)) :: (.int .u16 xz1_4o10_1) :: (.pointer (Option.map (fun (p : Addr) => p.add (Int.toNat p1 * 1)) A0)) :: (.pointer (Option.map (fun (p : Addr) => p.add (Int.toNat p3 * 1)) A0)) :: (.int .i64 p1) :: (.int .i64 (IntKind.i64.wrap (p1 + 1))) :: (.int .i64 p2) :: (.int .i64 (IntKind.i64.wrap (p2 - 1))) :: dd u14 30 16 (dd u45 46 17 ((.int .i64 x15) :: (.int .i64 x46) :: (.bool false) :: un 15 ((u102 81) :: (.int .i64 x15) :: (u102 83) :: (.int .i64 x46) :: (u102 85) :: (.int .i64 x46) :: (.pointer (Option.map (fun (p : Addr) => p.add (Int.toNat x46 * 1)) A0)) :: (.int .u16 xz10_90o6_1) :: (u102 89) :: (.int .i64 x15) :: (.pointer (Option.map (fun (p : Addr) => p.add (Int.toNat x15 * 1)) A0)) :: (.int .u16 xz10_90o10_1) :: (.pointer (Option.map (fun (p : Addr) => p.add (Int.toNat x15 * 1)) A0)) :: (.pointer (Option.map (fun (p : Addr) => p.add (Int.toNat x46 * 1)) A0)) :: (.int .i64 x15) :: (.int .i64 (IntKind.i64.wrap (x15 + 1))) :: (.int .i64 x46) :: (.int .i64 (IntKind.i64.wrap (x46 - 1))) :: dd u102 99 54 ((.slice A0 p0.length c0) :: (.int .i64 x105) :: (.slice A0 p0.length c0) :: (.int .i64 p1) :: (.slice A0 p0.length c0) :: (.int .i64 p1) :: (.pointer (Option.map (fun (p : Addr) => p.add (Int.toNat p1 * 1)) A0)) :: (.int .u16 xz21_199o6_1) :: (.slice A0 p0.length c0) :: (.int .i64 x105) :: (.pointer (Option.map (fun (p : Addr) => p.add (Int.toNat x105 * 1)) A0)) :: (.int .u16 xz21_199o10_1) :: (.pointer (Option.map (fun (p : Addr) => p.add (Int.toNat x105 * 1)) A0)) :: (.pointer (Option.map (fun (p : Addr) => p.add (Int.toNat p1 * 1)) A0)) :: undef :: [])))))).toArray, []⟩) (fun _ w => St (foots [rowE .u16 45 A0 c0 p0]) w0 w [rowE .u16 45 A0 c0 lz21_199o15_3]) ?_ ?_
       ·rintro _ w203 hS204
        have hS204 : St _ _ w203 [rowE .u16 45 A0 c0 lz21_199o15_3] := hS204
        show WQ _ _ ⟨((.slice A0 p0.length c0) :: (.int .i64 p1) :: (.int .i64 p2) :: (.int .i64 p3) :: un 4 ((.int .i64 0) :: (.bool false) :: (u102 10) :: (.int .i64 x105) :: (u14 12) :: (.int .i64 p1) :: (u14 14) :: (.int .i64 p3) :: (u14 16) :: (.int .i64 p3) :: (.pointer (Option.map (fun (p : Addr) => p.add (Int.toNat p3 * 1)) A0)) :: (.int .u16 xz1_4o6_1) :: (u14 20) :: (.int .i64 p1) :: (.pointer (Option.map (fun (p : Addr) => p.add (Int.toNat p1 * 1)) A0)) :: (.int .u16 xz1_4o10_1) :: (.pointer (Option.map (fun (p : Addr) => p.add (Int.toNat p1 * 1)) A0)) :: (.pointer (Option.map (fun (p : Addr) => p.add (Int.toNat p3 * 1)) A0)) :: (.int .i64 p1) :: (.int .i64 (IntKind.i64.wrap (p1 + 1))) :: (.int .i64 p2) :: (.int .i64 (IntKind.i64.wrap (p2 - 1))) :: dd u14 30 16 (dd u45 46 17 ((.int .i64 x15) :: (.int .i64 x46) :: (.bool false) :: un 15 ((u102 81) :: (.int .i64 x15) :: (u102 83) :: (.int .i64 x46) :: (u102 85) :: (.int .i64 x46) :: (.pointer (Option.map (fun (p : Addr) => p.add (Int.toNat x46 * 1)) A0)) :: (.int .u16 xz10_90o6_1) :: (u102 89) :: (.int .i64 x15) :: (.pointer (Option.map (fun (p : Addr) => p.add (Int.toNat x15 * 1)) A0)) :: (.int .u16 xz10_90o10_1) :: (.pointer (Option.map (fun (p : Addr) => p.add (Int.toNat x15 * 1)) A0)) :: (.pointer (Option.map (fun (p : Addr) => p.add (Int.toNat x46 * 1)) A0)) :: (.int .i64 x15) :: (.int .i64 (IntKind.i64.wrap (x15 + 1))) :: (.int .i64 x46) :: (.int .i64 (IntKind.i64.wrap (x46 - 1))) :: dd u102 99 54 ((.slice A0 p0.length c0) :: (.int .i64 x105) :: (.slice A0 p0.length c0) :: (.int .i64 p1) :: (.slice A0 p0.length c0) :: (.int .i64 p1) :: (.pointer (Option.map (fun (p : Addr) => p.add (Int.toNat p1 * 1)) A0)) :: (.int .u16 xz21_199o6_1) :: (.slice A0 p0.length c0) :: (.int .i64 x105) :: (.pointer (Option.map (fun (p : Addr) => p.add (Int.toNat x105 * 1)) A0)) :: (.int .u16 xz21_199o10_1) :: (.pointer (Option.map (fun (p : Addr) => p.add (Int.toNat x105 * 1)) A0)) :: (.pointer (Option.map (fun (p : Addr) => p.add (Int.toNat p1 * 1)) A0)) :: undef :: [])))))).toArray, []⟩ _
        refine gx_thenN ?_
        refine hK199 _ _ ?_
        refine gx_seq (fun K205 hK206 => ?_)
        refine gx_region ?_
        refine gx_k (.int .i64 x105) w203 (gx_k (.int .i64 x105) w203 (gx_k (.bool false) w203 ?_))
        refine gx_nil ?_
        refine gx_thenN ?_
        refine hK206 _ _ ?_
        refine gx_ret ?_
        obtain rfl := Option.some.inj hO108
        exact gx_fin (.tuple #[.int .i64 x105, .bool false]) (by kernel_rfl) (by kernel_rfl) ⟨_, rfl, rfl, hS204, (((hn103.trans (setx_len hxz21_199o13_4).symm).trans (setx_len hxz21_199o15_4).symm)).symm⟩
       ·intro K207
        refine gd1 0 { dst := some 153, op := _, type := _, pos := _, after := _, guard := _ } (.slice A0 p0.length c0) rfl (hS202.pick [] rfl rfl) (fun w hSw => by kernel_rfl) ?_
        refine gd1 1 { dst := some 154, op := _, type := _, pos := _, after := _, guard := _ } (.int .i64 x105) rfl (hS202.pick [] rfl rfl) (fun w hSw => by kernel_rfl) ?_
        refine gd1 2 { dst := some 155, op := _, type := _, pos := _, after := _, guard := _ } (.slice A0 p0.length c0) rfl (hS202.pick [] rfl rfl) (fun w hSw => by kernel_rfl) ?_
        refine gd1 3 { dst := some 156, op := _, type := _, pos := _, after := _, guard := _ } (.int .i64 p1) rfl (hS202.pick [] rfl rfl) (fun w hSw => by kernel_rfl) ?_
        refine gd1 4 { dst := some 157, op := _, type := _, pos := _, after := _, guard := _ } (.slice A0 p0.length c0) rfl (hS202.pick [] rfl rfl) (fun w hSw => by kernel_rfl) ?_
        refine gd1 5 { dst := some 158, op := _, type := _, pos := _, after := _, guard := _ } (.int .i64 p1) rfl (hS202.pick [] rfl rfl) (fun w hSw => by kernel_rfl) ?_
        refine gd1 6 { dst := some 159, op := _, type := _, pos := _, after := _, guard := _ } (.pointer (Option.map (fun (p : Addr) => p.add (Int.toNat p1 * 1)) A0)) rfl (hS202.pick [] rfl rfl) (fun w hSw => run_ixaddr (E := 45) (s := 1) (k := .i64) (c := c0) rfl (by kernel_rfl) (by kernel_rfl) (by kernel_rfl) (fun _ => by kernel_rfl) (ix_in hxz21_199o6_2).1 (lt_len hn103 (ix_in hxz21_199o6_2).2.1) (nil_len hn103 (num_nil (hS202.row 0 rfl).1))) ?_
        refine gd1 8 { dst := some 161, op := _, type := _, pos := _, after := _, guard := _ } (.slice A0 p0.length c0) rfl (hS202.pick [] rfl rfl) (fun w hSw => by kernel_rfl) ?_
        refine gd1 9 { dst := some 162, op := _, type := _, pos := _, after := _, guard := _ } (.int .i64 x105) rfl (hS202.pick [] rfl rfl) (fun w hSw => by kernel_rfl) ?_
        refine gd1 10 { dst := some 163, op := _, type := _, pos := _, after := _, guard := _ } (.pointer (Option.map (fun (p : Addr) => p.add (Int.toNat x105 * 1)) A0)) rfl (hS202.pick [] rfl rfl) (fun w hSw => run_ixaddr (E := 45) (s := 1) (k := .i64) (c := c0) rfl (by kernel_rfl) (by kernel_rfl) (by kernel_rfl) (fun _ => by kernel_rfl) (ix_in hxz21_199o10_2).1 (lt_len hn103 (ix_in hxz21_199o10_2).2.1) (nil_len hn103 (num_nil (hS202.row 0 rfl).1))) ?_
        refine gd_fork2 7 11 { dst := some 160, op := _, type := _, pos := _, after := _, guard := _ } { dst := some 164, op := _, type := _, pos := _, after := _, guard := _ } rfl rfl ?_ ?_
        ·refine gfR 7 { dst := some 160, op := _, type := _, pos := _, after := _, guard := _ } (R := fun v w => v = .int .u16 xz21_199o6_1 ∧ w201 = w) rfl ⟨_, _, run_loadix rfl (by kernel_rfl) (fun _ => by kernel_rfl) (hS202.row 0 rfl).1 hxz21_199o6_2, rfl, rfl⟩ ?_
         rintro _ _ ⟨rfl, rfl⟩
         refine ⟨(hS202.pick [] rfl rfl), ?_⟩
         refine gdR 11 { dst := some 164, op := _, type := _, pos := _, after := _, guard := _ } (R := fun v w => v = .int .u16 xz21_199o10_1 ∧ w201 = w) rfl ⟨_, _, run_loadix rfl (by kernel_rfl) (fun _ => by kernel_rfl) (hS202.row 0 rfl).1 hxz21_199o10_2, rfl, rfl⟩ ?_
         rintro _ _ ⟨rfl, rfl⟩
         refine ⟨(hS202.pick [] rfl rfl), ?_⟩
         refine gd1 12 { dst := some 165, op := _, type := _, pos := _, after := _, guard := _ } (.pointer (Option.map (fun (p : Addr) => p.add (Int.toNat x105 * 1)) A0)) rfl (hS202.pick [] rfl rfl) (fun w hSw => run_ixaddr (E := 45) (s := 1) (k := .i64) (c := c0) rfl (by kernel_rfl) (by kernel_rfl) (by kernel_rfl) (fun _ => by kernel_rfl) (ix_in hxz21_199o12_2).1 (lt_len hn103 (ix_in hxz21_199o12_2).2.1) (nil_len hn103 (num_nil (hS202.row 0 rfl).1))) ?_
         refine gdS 13 { dst := none, op := _, type := _, pos := _, after := _, guard := _ } rfl (st_storeix rfl (by kernel_rfl) (by kernel_rfl) (fun _ => by kernel_rfl) hS202 0 rfl hxz21_199o13_4) ?_
         rintro wz21_199o13_1 hSz21_199o13_2
         have hSz21_199o13_2 : St _ _ wz21_199o13_1 [rowE .u16 45 A0 c0 lz21_199o13_3] := hSz21_199o13_2
         refine ⟨(hSz21_199o13_2.pick [] rfl rfl), ?_⟩
         refine gd1 14 { dst := some 166, op := _, type := _, pos := _, after := _, guard := _ } (.pointer (Option.map (fun (p : Addr) => p.add (Int.toNat p1 * 1)) A0)) rfl (hSz21_199o13_2.pick [] rfl rfl) (fun w hSw => run_ixaddr (E := 45) (s := 1) (k := .i64) (c := c0) rfl (by kernel_rfl) (by kernel_rfl) (by kernel_rfl) (fun _ => by kernel_rfl) (ix_in hxz21_199o14_2).1 (lt_len (hn103.trans (setx_len hxz21_199o13_4).symm) (ix_in hxz21_199o14_2).2.1) (nil_len (hn103.trans (setx_len hxz21_199o13_4).symm) (num_nil (hSz21_199o13_2.row 0 rfl).1))) ?_
         refine gdS 15 { dst := none, op := _, type := _, pos := _, after := _, guard := _ } rfl (st_storeix rfl (by kernel_rfl) (by kernel_rfl) (fun _ => by kernel_rfl) hSz21_199o13_2 0 rfl hxz21_199o15_4) ?_
         rintro wz21_199o15_1 hSz21_199o15_2
         have hSz21_199o15_2 : St _ _ wz21_199o15_1 [rowE .u16 45 A0 c0 lz21_199o15_3] := hSz21_199o15_2
         refine ⟨(hSz21_199o15_2.pick [] rfl rfl), ?_⟩
         exact gd_meet (by kernel_rfl) (by kernel_rfl) (K207 () _ hSz21_199o15_2)
        ·refine gfR 11 { dst := some 164, op := _, type := _, pos := _, after := _, guard := _ } (R := fun v w => v = .int .u16 xz21_199o10_1 ∧ w201 = w) rfl ⟨_, _, run_loadix rfl (by kernel_rfl) (fun _ => by kernel_rfl) (hS202.row 0 rfl).1 hxz21_199o10_2, rfl, rfl⟩ ?_
         rintro _ _ ⟨rfl, rfl⟩
         refine ⟨(hS202.pick [] rfl rfl), ?_⟩
         refine gdR 7 { dst := some 160, op := _, type := _, pos := _, after := _, guard := _ } (R := fun v w => v = .int .u16 xz21_199o6_1 ∧ w201 = w) rfl ⟨_, _, run_loadix rfl (by kernel_rfl) (fun _ => by kernel_rfl) (hS202.row 0 rfl).1 hxz21_199o6_2, rfl, rfl⟩ ?_
         rintro _ _ ⟨rfl, rfl⟩
         refine ⟨(hS202.pick [] rfl rfl), ?_⟩
         refine gd1 12 { dst := some 165, op := _, type := _, pos := _, after := _, guard := _ } (.pointer (Option.map (fun (p : Addr) => p.add (Int.toNat x105 * 1)) A0)) rfl (hS202.pick [] rfl rfl) (fun w hSw => run_ixaddr (E := 45) (s := 1) (k := .i64) (c := c0) rfl (by kernel_rfl) (by kernel_rfl) (by kernel_rfl) (fun _ => by kernel_rfl) (ix_in hxz21_199o12_2).1 (lt_len hn103 (ix_in hxz21_199o12_2).2.1) (nil_len hn103 (num_nil (hS202.row 0 rfl).1))) ?_
         refine gdS 13 { dst := none, op := _, type := _, pos := _, after := _, guard := _ } rfl (st_storeix rfl (by kernel_rfl) (by kernel_rfl) (fun _ => by kernel_rfl) hS202 0 rfl hxz21_199o13_4) ?_
         rintro wz21_199o13_1 hSz21_199o13_2
         have hSz21_199o13_2 : St _ _ wz21_199o13_1 [rowE .u16 45 A0 c0 lz21_199o13_3] := hSz21_199o13_2
         refine ⟨(hSz21_199o13_2.pick [] rfl rfl), ?_⟩
         refine gd1 14 { dst := some 166, op := _, type := _, pos := _, after := _, guard := _ } (.pointer (Option.map (fun (p : Addr) => p.add (Int.toNat p1 * 1)) A0)) rfl (hSz21_199o13_2.pick [] rfl rfl) (fun w hSw => run_ixaddr (E := 45) (s := 1) (k := .i64) (c := c0) rfl (by kernel_rfl) (by kernel_rfl) (by kernel_rfl) (fun _ => by kernel_rfl) (ix_in hxz21_199o14_2).1 (lt_len (hn103.trans (setx_len hxz21_199o13_4).symm) (ix_in hxz21_199o14_2).2.1) (nil_len (hn103.trans (setx_len hxz21_199o13_4).symm) (num_nil (hSz21_199o13_2.row 0 rfl).1))) ?_
         refine gdS 15 { dst := none, op := _, type := _, pos := _, after := _, guard := _ } rfl (st_storeix rfl (by kernel_rfl) (by kernel_rfl) (fun _ => by kernel_rfl) hSz21_199o13_2 0 rfl hxz21_199o15_4) ?_
         rintro wz21_199o15_1 hSz21_199o15_2
         have hSz21_199o15_2 : St _ _ wz21_199o15_1 [rowE .u16 45 A0 c0 lz21_199o15_3] := hSz21_199o15_2
         refine ⟨(hSz21_199o15_2.pick [] rfl rfl), ?_⟩
         exact gd_meet (by kernel_rfl) (by kernel_rfl) (K207 () _ hSz21_199o15_2)
     ·intro K209
      refine gd1 0 { dst := some 81, op := _, type := _, pos := _, after := _, guard := _ } (.slice A0 p0.length c0) rfl (hS93.pick [] rfl rfl) (fun w hSw => by kernel_rfl) ?_
      refine gd1 1 { dst := some 82, op := _, type := _, pos := _, after := _, guard := _ } (.int .i64 x15) rfl (hS93.pick [] rfl rfl) (fun w hSw => by kernel_rfl) ?_
      refine gd1 2 { dst := some 83, op := _, type := _, pos := _, after := _, guard := _ } (.slice A0 p0.length c0) rfl (hS93.pick [] rfl rfl) (fun w hSw => by kernel_rfl) ?_
      refine gd1 3 { dst := some 84, op := _, type := _, pos := _, after := _, guard := _ } (.int .i64 x46) rfl (hS93.pick [] rfl rfl) (fun w hSw => by kernel_rfl) ?_
      refine gd1 4 { dst := some 85, op := _, type := _, pos := _, after := _, guard := _ } (.slice A0 p0.length c0) rfl (hS93.pick [] rfl rfl) (fun w hSw => by kernel_rfl) ?_
      refine gd1 5 { dst := some 86, op := _, type := _, pos := _, after := _, guard := _ } (.int .i64 x46) rfl (hS93.pick [] rfl rfl) (fun w hSw => by kernel_rfl) ?_
      refine gd1 6 { dst := some 87, op := _, type := _, pos := _, after := _, guard := _ } (.pointer (Option.map (fun (p : Addr) => p.add (Int.toNat x46 * 1)) A0)) rfl (hS93.pick [] rfl rfl) (fun w hSw => run_ixaddr (E := 45) (s := 1) (k := .i64) (c := c0) rfl (by kernel_rfl) (by kernel_rfl) (by kernel_rfl) (fun _ => by kernel_rfl) (ix_in hxz10_90o6_2).1 (lt_len ((setx_len hxz1_4o13_4).symm.trans (setx_len hxz1_4o15_4).symm) (ix_in hxz10_90o6_2).2.1) (nil_len ((setx_len hxz1_4o13_4).symm.trans (setx_len hxz1_4o15_4).symm) (num_nil (hS93.row 0 rfl).1))) ?_
      refine gd1 8 { dst := some 89, op := _, type := _, pos := _, after := _, guard := _ } (.slice A0 p0.length c0) rfl (hS93.pick [] rfl rfl) (fun w hSw => by kernel_rfl) ?_
      refine gd1 9 { dst := some 90, op := _, type := _, pos := _, after := _, guard := _ } (.int .i64 x15) rfl (hS93.pick [] rfl rfl) (fun w hSw => by kernel_rfl) ?_
      refine gd1 10 { dst := some 91, op := _, type := _, pos := _, after := _, guard := _ } (.pointer (Option.map (fun (p : Addr) => p.add (Int.toNat x15 * 1)) A0)) rfl (hS93.pick [] rfl rfl) (fun w hSw => run_ixaddr (E := 45) (s := 1) (k := .i64) (c := c0) rfl (by kernel_rfl) (by kernel_rfl) (by kernel_rfl) (fun _ => by kernel_rfl) (ix_in hxz10_90o10_2).1 (lt_len ((setx_len hxz1_4o13_4).symm.trans (setx_len hxz1_4o15_4).symm) (ix_in hxz10_90o10_2).2.1) (nil_len ((setx_len hxz1_4o13_4).symm.trans (setx_len hxz1_4o15_4).symm) (num_nil (hS93.row 0 rfl).1))) ?_
      refine gd_fork2 7 11 { dst := some 88, op := _, type := _, pos := _, after := _, guard := _ } { dst := some 92, op := _, type := _, pos := _, after := _, guard := _ } rfl rfl ?_ ?_
      ·refine gfR 7 { dst := some 88, op := _, type := _, pos := _, after := _, guard := _ } (R := fun v w => v = .int .u16 xz10_90o6_1 ∧ w92 = w) rfl ⟨_, _, run_loadix rfl (by kernel_rfl) (fun _ => by kernel_rfl) (hS93.row 0 rfl).1 hxz10_90o6_2, rfl, rfl⟩ ?_
       rintro _ _ ⟨rfl, rfl⟩
       refine ⟨(hS93.pick [] rfl rfl), ?_⟩
       refine gdR 11 { dst := some 92, op := _, type := _, pos := _, after := _, guard := _ } (R := fun v w => v = .int .u16 xz10_90o10_1 ∧ w92 = w) rfl ⟨_, _, run_loadix rfl (by kernel_rfl) (fun _ => by kernel_rfl) (hS93.row 0 rfl).1 hxz10_90o10_2, rfl, rfl⟩ ?_
       rintro _ _ ⟨rfl, rfl⟩
       refine ⟨(hS93.pick [] rfl rfl), ?_⟩
       refine gd1 12 { dst := some 93, op := _, type := _, pos := _, after := _, guard := _ } (.pointer (Option.map (fun (p : Addr) => p.add (Int.toNat x15 * 1)) A0)) rfl (hS93.pick [] rfl rfl) (fun w hSw => run_ixaddr (E := 45) (s := 1) (k := .i64) (c := c0) rfl (by kernel_rfl) (by kernel_rfl) (by kernel_rfl) (fun _ => by kernel_rfl) (ix_in hxz10_90o12_2).1 (lt_len ((setx_len hxz1_4o13_4).symm.trans (setx_len hxz1_4o15_4).symm) (ix_in hxz10_90o12_2).2.1) (nil_len ((setx_len hxz1_4o13_4).symm.trans (setx_len hxz1_4o15_4).symm) (num_nil (hS93.row 0 rfl).1))) ?_
       refine gdS 13 { dst := none, op := _, type := _, pos := _, after := _, guard := _ } rfl (st_storeix rfl (by kernel_rfl) (by kernel_rfl) (fun _ => by kernel_rfl) hS93 0 rfl hxz10_90o13_4) ?_
       rintro wz10_90o13_1 hSz10_90o13_2
       have hSz10_90o13_2 : St _ _ wz10_90o13_1 [rowE .u16 45 A0 c0 lz10_90o13_3] := hSz10_90o13_2
       refine ⟨(hSz10_90o13_2.pick [] rfl rfl), ?_⟩
       refine gd1 14 { dst := some 94, op := _, type := _, pos := _, after := _, guard := _ } (.pointer (Option.map (fun (p : Addr) => p.add (Int.toNat x46 * 1)) A0)) rfl (hSz10_90o13_2.pick [] rfl rfl) (fun w hSw => run_ixaddr (E := 45) (s := 1) (k := .i64) (c := c0) rfl (by kernel_rfl) (by kernel_rfl) (by kernel_rfl) (fun _ => by kernel_rfl) (ix_in hxz10_90o14_2).1 (lt_len (((setx_len hxz1_4o13_4).symm.trans (setx_len hxz1_4o15_4).symm).trans (setx_len hxz10_90o13_4).symm) (ix_in hxz10_90o14_2).2.1) (nil_len (((setx_len hxz1_4o13_4).symm.trans (setx_len hxz1_4o15_4).symm).trans (setx_len hxz10_90o13_4).symm) (num_nil (hSz10_90o13_2.row 0 rfl).1))) ?_
       refine gdS 15 { dst := none, op := _, type := _, pos := _, after := _, guard := _ } rfl (st_storeix rfl (by kernel_rfl) (by kernel_rfl) (fun _ => by kernel_rfl) hSz10_90o13_2 0 rfl hxz10_90o15_4) ?_
       rintro wz10_90o15_1 hSz10_90o15_2
       have hSz10_90o15_2 : St _ _ wz10_90o15_1 [rowE .u16 45 A0 c0 lz10_90o15_3] := hSz10_90o15_2
       refine ⟨(hSz10_90o15_2.pick [] rfl rfl), ?_⟩
       exact gd_meet (by kernel_rfl) (by kernel_rfl) (K209 () _ hSz10_90o15_2)
      ·refine gfR 11 { dst := some 92, op := _, type := _, pos := _, after := _, guard := _ } (R := fun v w => v = .int .u16 xz10_90o10_1 ∧ w92 = w) rfl ⟨_, _, run_loadix rfl (by kernel_rfl) (fun _ => by kernel_rfl) (hS93.row 0 rfl).1 hxz10_90o10_2, rfl, rfl⟩ ?_
       rintro _ _ ⟨rfl, rfl⟩
       refine ⟨(hS93.pick [] rfl rfl), ?_⟩
       refine gdR 7 { dst := some 88, op := _, type := _, pos := _, after := _, guard := _ } (R := fun v w => v = .int .u16 xz10_90o6_1 ∧ w92 = w) rfl ⟨_, _, run_loadix rfl (by kernel_rfl) (fun _ => by kernel_rfl) (hS93.row 0 rfl).1 hxz10_90o6_2, rfl, rfl⟩ ?_
       rintro _ _ ⟨rfl, rfl⟩
       refine ⟨(hS93.pick [] rfl rfl), ?_⟩
       refine gd1 12 { dst := some 93, op := _, type := _, pos := _, after := _, guard := _ } (.pointer (Option.map (fun (p : Addr) => p.add (Int.toNat x15 * 1)) A0)) rfl (hS93.pick [] rfl rfl) (fun w hSw => run_ixaddr (E := 45) (s := 1) (k := .i64) (c := c0) rfl (by kernel_rfl) (by kernel_rfl) (by kernel_rfl) (fun _ => by kernel_rfl) (ix_in hxz10_90o12_2).1 (lt_len ((setx_len hxz1_4o13_4).symm.trans (setx_len hxz1_4o15_4).symm) (ix_in hxz10_90o12_2).2.1) (nil_len ((setx_len hxz1_4o13_4).symm.trans (setx_len hxz1_4o15_4).symm) (num_nil (hS93.row 0 rfl).1))) ?_
       refine gdS 13 { dst := none, op := _, type := _, pos := _, after := _, guard := _ } rfl (st_storeix rfl (by kernel_rfl) (by kernel_rfl) (fun _ => by kernel_rfl) hS93 0 rfl hxz10_90o13_4) ?_
       rintro wz10_90o13_1 hSz10_90o13_2
       have hSz10_90o13_2 : St _ _ wz10_90o13_1 [rowE .u16 45 A0 c0 lz10_90o13_3] := hSz10_90o13_2
       refine ⟨(hSz10_90o13_2.pick [] rfl rfl), ?_⟩
       refine gd1 14 { dst := some 94, op := _, type := _, pos := _, after := _, guard := _ } (.pointer (Option.map (fun (p : Addr) => p.add (Int.toNat x46 * 1)) A0)) rfl (hSz10_90o13_2.pick [] rfl rfl) (fun w hSw => run_ixaddr (E := 45) (s := 1) (k := .i64) (c := c0) rfl (by kernel_rfl) (by kernel_rfl) (by kernel_rfl) (fun _ => by kernel_rfl) (ix_in hxz10_90o14_2).1 (lt_len (((setx_len hxz1_4o13_4).symm.trans (setx_len hxz1_4o15_4).symm).trans (setx_len hxz10_90o13_4).symm) (ix_in hxz10_90o14_2).2.1) (nil_len (((setx_len hxz1_4o13_4).symm.trans (setx_len hxz1_4o15_4).symm).trans (setx_len hxz10_90o13_4).symm) (num_nil (hSz10_90o13_2.row 0 rfl).1))) ?_
       refine gdS 15 { dst := none, op := _, type := _, pos := _, after := _, guard := _ } rfl (st_storeix rfl (by kernel_rfl) (by kernel_rfl) (fun _ => by kernel_rfl) hSz10_90o13_2 0 rfl hxz10_90o15_4) ?_
       rintro wz10_90o15_1 hSz10_90o15_2
       have hSz10_90o15_2 : St _ _ wz10_90o15_1 [rowE .u16 45 A0 c0 lz10_90o15_3] := hSz10_90o15_2
       refine ⟨(hSz10_90o15_2.pick [] rfl rfl), ?_⟩
       exact gd_meet (by kernel_rfl) (by kernel_rfl) (K209 () _ hSz10_90o15_2)
 ·intro K212
  refine gd1 0 { dst := some 12, op := _, type := _, pos := _, after := _, guard := _ } (.slice A0 p0.length c0) rfl (hS7.pick [] rfl rfl) (fun w hSw => by kernel_rfl) ?_
  refine gd1 1 { dst := some 13, op := _, type := _, pos := _, after := _, guard := _ } (.int .i64 p1) rfl (hS7.pick [] rfl rfl) (fun w hSw => by kernel_rfl) ?_
  refine gd1 2 { dst := some 14, op := _, type := _, pos := _, after := _, guard := _ } (.slice A0 p0.length c0) rfl (hS7.pick [] rfl rfl) (fun w hSw => by kernel_rfl) ?_
  refine gd1 3 { dst := some 15, op := _, type := _, pos := _, after := _, guard := _ } (.int .i64 p3) rfl (hS7.pick [] rfl rfl) (fun w hSw => by kernel_rfl) ?_
  refine gd1 4 { dst := some 16, op := _, type := _, pos := _, after := _, guard := _ } (.slice A0 p0.length c0) rfl (hS7.pick [] rfl rfl) (fun w hSw => by kernel_rfl) ?_
  refine gd1 5 { dst := some 17, op := _, type := _, pos := _, after := _, guard := _ } (.int .i64 p3) rfl (hS7.pick [] rfl rfl) (fun w hSw => by kernel_rfl) ?_
  refine gd1 6 { dst := some 18, op := _, type := _, pos := _, after := _, guard := _ } (.pointer (Option.map (fun (p : Addr) => p.add (Int.toNat p3 * 1)) A0)) rfl (hS7.pick [] rfl rfl) (fun w hSw => run_ixaddr (E := 45) (s := 1) (k := .i64) (c := c0) rfl (by kernel_rfl) (by kernel_rfl) (by kernel_rfl) (fun _ => by kernel_rfl) (ix_in hxz1_4o6_2).1 (ix_in hxz1_4o6_2).2.1 (num_nil (hS7.row 0 rfl).1)) ?_
  refine gd1 8 { dst := some 20, op := _, type := _, pos := _, after := _, guard := _ } (.slice A0 p0.length c0) rfl (hS7.pick [] rfl rfl) (fun w hSw => by kernel_rfl) ?_
  refine gd1 9 { dst := some 21, op := _, type := _, pos := _, after := _, guard := _ } (.int .i64 p1) rfl (hS7.pick [] rfl rfl) (fun w hSw => by kernel_rfl) ?_
  refine gd1 10 { dst := some 22, op := _, type := _, pos := _, after := _, guard := _ } (.pointer (Option.map (fun (p : Addr) => p.add (Int.toNat p1 * 1)) A0)) rfl (hS7.pick [] rfl rfl) (fun w hSw => run_ixaddr (E := 45) (s := 1) (k := .i64) (c := c0) rfl (by kernel_rfl) (by kernel_rfl) (by kernel_rfl) (fun _ => by kernel_rfl) (ix_in hxz1_4o10_2).1 (ix_in hxz1_4o10_2).2.1 (num_nil (hS7.row 0 rfl).1)) ?_
  refine gd_fork2 7 11 { dst := some 19, op := _, type := _, pos := _, after := _, guard := _ } { dst := some 23, op := _, type := _, pos := _, after := _, guard := _ } rfl rfl ?_ ?_
  ·refine gfR 7 { dst := some 19, op := _, type := _, pos := _, after := _, guard := _ } (R := fun v w => v = .int .u16 xz1_4o6_1 ∧ w6 = w) rfl ⟨_, _, run_loadix rfl (by kernel_rfl) (fun _ => by kernel_rfl) (hS7.row 0 rfl).1 hxz1_4o6_2, rfl, rfl⟩ ?_
   rintro _ _ ⟨rfl, rfl⟩
   refine ⟨(hS7.pick [] rfl rfl), ?_⟩
   refine gdR 11 { dst := some 23, op := _, type := _, pos := _, after := _, guard := _ } (R := fun v w => v = .int .u16 xz1_4o10_1 ∧ w6 = w) rfl ⟨_, _, run_loadix rfl (by kernel_rfl) (fun _ => by kernel_rfl) (hS7.row 0 rfl).1 hxz1_4o10_2, rfl, rfl⟩ ?_
   rintro _ _ ⟨rfl, rfl⟩
   refine ⟨(hS7.pick [] rfl rfl), ?_⟩
   refine gd1 12 { dst := some 24, op := _, type := _, pos := _, after := _, guard := _ } (.pointer (Option.map (fun (p : Addr) => p.add (Int.toNat p1 * 1)) A0)) rfl (hS7.pick [] rfl rfl) (fun w hSw => run_ixaddr (E := 45) (s := 1) (k := .i64) (c := c0) rfl (by kernel_rfl) (by kernel_rfl) (by kernel_rfl) (fun _ => by kernel_rfl) (ix_in hxz1_4o12_2).1 (ix_in hxz1_4o12_2).2.1 (num_nil (hS7.row 0 rfl).1)) ?_
   refine gdS 13 { dst := none, op := _, type := _, pos := _, after := _, guard := _ } rfl (st_storeix rfl (by kernel_rfl) (by kernel_rfl) (fun _ => by kernel_rfl) hS7 0 rfl hxz1_4o13_4) ?_
   rintro wz1_4o13_1 hSz1_4o13_2
   have hSz1_4o13_2 : St _ _ wz1_4o13_1 [rowE .u16 45 A0 c0 lz1_4o13_3] := hSz1_4o13_2
   refine ⟨(hSz1_4o13_2.pick [] rfl rfl), ?_⟩
   refine gd1 14 { dst := some 25, op := _, type := _, pos := _, after := _, guard := _ } (.pointer (Option.map (fun (p : Addr) => p.add (Int.toNat p3 * 1)) A0)) rfl (hSz1_4o13_2.pick [] rfl rfl) (fun w hSw => run_ixaddr (E := 45) (s := 1) (k := .i64) (c := c0) rfl (by kernel_rfl) (by kernel_rfl) (by kernel_rfl) (fun _ => by kernel_rfl) (ix_in hxz1_4o14_2).1 (lt_len (setx_len hxz1_4o13_4).symm (ix_in hxz1_4o14_2).2.1) (nil_len (setx_len hxz1_4o13_4).symm (num_nil (hSz1_4o13_2.row 0 rfl).1))) ?_
   refine gdS 15 { dst := none, op := _, type := _, pos := _, after := _, guard := _ } rfl (st_storeix rfl (by kernel_rfl) (by kernel_rfl) (fun _ => by kernel_rfl) hSz1_4o13_2 0 rfl hxz1_4o15_4) ?_
   rintro wz1_4o15_1 hSz1_4o15_2
   have hSz1_4o15_2 : St _ _ wz1_4o15_1 [rowE .u16 45 A0 c0 lz1_4o15_3] := hSz1_4o15_2
   refine ⟨(hSz1_4o15_2.pick [] rfl rfl), ?_⟩
   exact gd_meet (by kernel_rfl) (by kernel_rfl) (K212 () _ hSz1_4o15_2)
  ·refine gfR 11 { dst := some 23, op := _, type := _, pos := _, after := _, guard := _ } (R := fun v w => v = .int .u16 xz1_4o10_1 ∧ w6 = w) rfl ⟨_, _, run_loadix rfl (by kernel_rfl) (fun _ => by kernel_rfl) (hS7.row 0 rfl).1 hxz1_4o10_2, rfl, rfl⟩ ?_
   rintro _ _ ⟨rfl, rfl⟩
   refine ⟨(hS7.pick [] rfl rfl), ?_⟩
   refine gdR 7 { dst := some 19, op := _, type := _, pos := _, after := _, guard := _ } (R := fun v w => v = .int .u16 xz1_4o6_1 ∧ w6 = w) rfl ⟨_, _, run_loadix rfl (by kernel_rfl) (fun _ => by kernel_rfl) (hS7.row 0 rfl).1 hxz1_4o6_2, rfl, rfl⟩ ?_
   rintro _ _ ⟨rfl, rfl⟩
   refine ⟨(hS7.pick [] rfl rfl), ?_⟩
   refine gd1 12 { dst := some 24, op := _, type := _, pos := _, after := _, guard := _ } (.pointer (Option.map (fun (p : Addr) => p.add (Int.toNat p1 * 1)) A0)) rfl (hS7.pick [] rfl rfl) (fun w hSw => run_ixaddr (E := 45) (s := 1) (k := .i64) (c := c0) rfl (by kernel_rfl) (by kernel_rfl) (by kernel_rfl) (fun _ => by kernel_rfl) (ix_in hxz1_4o12_2).1 (ix_in hxz1_4o12_2).2.1 (num_nil (hS7.row 0 rfl).1)) ?_
   refine gdS 13 { dst := none, op := _, type := _, pos := _, after := _, guard := _ } rfl (st_storeix rfl (by kernel_rfl) (by kernel_rfl) (fun _ => by kernel_rfl) hS7 0 rfl hxz1_4o13_4) ?_
   rintro wz1_4o13_1 hSz1_4o13_2
   have hSz1_4o13_2 : St _ _ wz1_4o13_1 [rowE .u16 45 A0 c0 lz1_4o13_3] := hSz1_4o13_2
   refine ⟨(hSz1_4o13_2.pick [] rfl rfl), ?_⟩
   refine gd1 14 { dst := some 25, op := _, type := _, pos := _, after := _, guard := _ } (.pointer (Option.map (fun (p : Addr) => p.add (Int.toNat p3 * 1)) A0)) rfl (hSz1_4o13_2.pick [] rfl rfl) (fun w hSw => run_ixaddr (E := 45) (s := 1) (k := .i64) (c := c0) rfl (by kernel_rfl) (by kernel_rfl) (by kernel_rfl) (fun _ => by kernel_rfl) (ix_in hxz1_4o14_2).1 (lt_len (setx_len hxz1_4o13_4).symm (ix_in hxz1_4o14_2).2.1) (nil_len (setx_len hxz1_4o13_4).symm (num_nil (hSz1_4o13_2.row 0 rfl).1))) ?_
   refine gdS 15 { dst := none, op := _, type := _, pos := _, after := _, guard := _ } rfl (st_storeix rfl (by kernel_rfl) (by kernel_rfl) (fun _ => by kernel_rfl) hSz1_4o13_2 0 rfl hxz1_4o15_4) ?_
   rintro wz1_4o15_1 hSz1_4o15_2
   have hSz1_4o15_2 : St _ _ wz1_4o15_1 [rowE .u16 45 A0 c0 lz1_4o15_3] := hSz1_4o15_2
   refine ⟨(hSz1_4o15_2.pick [] rfl rfl), ?_⟩
   exact gd_meet (by kernel_rfl) (by kernel_rfl) (K212 () _ hSz1_4o15_2)

end Go.Proofs.Ytcleaepcjbfmhaa
