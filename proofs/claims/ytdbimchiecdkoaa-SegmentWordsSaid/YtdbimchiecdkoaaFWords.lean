/-
  SegmentWords, walked.
-/
import Derived.Test.YtdbimchiecdkoaaF0
namespace Go.Proofs.Ytdbimchiecdkoaa
open Go Go.RowKit
set_option linter.unusedVariables false
def fWords_L1 (N : Nat) (p0 : List Int) : Nat → (List Int) → Int → Option (List Int)
 | 0, _, _ => none
 | k41+1, l39, x40 => (if x40 < ((p0.length : Nat) : Int) then ((ix p0 x40).bind fun x52 => ((ix ([32, 32, 97, 1488, 1576, 55, 1639, 769]) (Int.tmod x52 8)).bind fun x54 => (if x54 = 769 then (if ((l39.length : Nat) : Int) = 0 then ((apx l39 ([98])).bind fun l64 => fWords_L1 N p0 k41 l64 (IntKind.i64.wrap (x40 + 1))) else ((ix l39 (IntKind.i64.wrap (((l39.length : Nat) : Int) - 1))).bind fun x71 => (if x71 = 32 then ((apx l39 ([98])).bind fun l76 => fWords_L1 N p0 k41 l76 (IntKind.i64.wrap (x40 + 1))) else ((apx l39 ([x54])).bind fun l85 => fWords_L1 N p0 k41 l85 (IntKind.i64.wrap (x40 + 1)))))) else ((apx l39 ([x54])).bind fun l94 => fWords_L1 N p0 k41 l94 (IntKind.i64.wrap (x40 + 1)))))) else some (l39))
def fWords_L2 (N : Nat) (l27 : List Int) (l106 : List Int) : Nat → Int → Option (Ctl (Unit) (Bool))
 | 0, _ => none
 | k131+1, x130 => (if x130 < ((l27.length : Nat) : Int) then ((((ix l27 (IntKind.i64.wrap (x130 - 1))).bind fun x151 => (if x151 = 32 then ((ix l27 x130).bind fun x154 => (if x154 ≠ 32 then some (1) else some (0))) else some (0))) : Option (Int)).bind fun x145 => ((ix l106 x130).bind fun x159 => (if x159 ≠ x145 then some (Ctl.ret false) else fWords_L2 N l27 l106 k131 (IntKind.i64.wrap (x130 + 1))))) else some (Ctl.go ()))
def fWords (N : Nat) (p0 : List Int) : Option (Bool) :=
 (if ((p0.length : Nat) : Int) > 400 then ((kWorks N ).bind fun b12 => some b12) else ((fWords_L1 N p0 N ([]) 0 : Option (List Int)).bind fun l27 => ((pBreaks N l27).bind fun l106 => (if ((l106.length : Nat) : Int) ≠ (IntKind.i64.wrap (((l27.length : Nat) : Int) + 1)) then some false else ((fWords_L2 N l27 l106 N 1 : Option (Ctl (Unit) (Bool))).bind fun | Ctl.go () => ((kWorks N ).bind fun b170 => some b170) | Ctl.ret r => some r)))))
set_option linter.unusedVariables false in
def fWords_R (r : Bool) (w0 : World) (v : Value) (w : World) : Prop := v = .bool r ∧ St [] w0 w []
set_option maxRecDepth 100000 in
set_option maxHeartbeats 4000000 in
theorem fWords_ok (N : Nat) (p0 : List Int) (A0 : Option Addr) (c0 : Nat) (r : Bool) (hF : fWords N p0 = some r) (w0 : World) (hv0 : Vw [] .u8 w0 A0 c0 p0) :
  Calls Try.prog 6 #[.slice A0 p0.length c0] w0 fun e w => ∃ v, e = .returned v ∧ fWords_R r w0 v w := by
 have hS0 := St.start w0
 unfold fWords at hF
 refine calls_of Try.func6 rfl ⟨((.slice A0 p0.length c0) :: un 82 ([])).toArray, []⟩ (by kernel_rfl) ?_
 refine gx_seq (fun K1 hK2 => ?_)
 refine gx_region ?_
 refine gx_k (.bool false) w0 ?_
 refine gx_nil ?_
 refine gx_thenN ?_
 refine hK2 _ _ ?_
 refine gx_seq (fun K3 hK4 => ?_)
 refine gx_seq (fun K5 hK6 => ?_)
 refine gx_region ?_
 refine gx_k (.slice A0 p0.length c0) w0 (gx_k (.int .i64 ((p0.length : Nat) : Int)) w0 ?_)
 rcases if_in hF with ⟨h7, hF⟩ | ⟨h7, hF⟩
 ·refine gx_v (.bool true) w0 (run_boolE (decide_eq_true h7) (by kernel_rfl)) ?_
  refine gx_nil ?_
  refine gx_thenN ?_
  refine hK6 _ _ ?_
  refine gx_yes (by kernel_rfl) ?_
  refine gx_seq (fun K8 hK9 => ?_)
  refine gx_region ?_
  have hP10 : St _ _ w0 ([] ++ []) := hS0
  obtain ⟨b12, hc11, hF⟩ := bind_in hF
  try dsimp only at hF
  refine gx_c (kWorks_R b12 w0) (kWorks_ok N  _ hc11 w0 ) ?_
  rintro _ w13 ⟨rfl, hT15⟩
  have hS14 : St _ _ w13 [] := hS0.take _ hT15
  refine gx_k (.bool b12) w13 ?_
  refine gx_nil ?_
  refine gx_thenN ?_
  refine hK9 _ _ ?_
  refine gx_ret ?_
  refine gx_thenR ?_
  obtain rfl := Option.some.inj hF
  exact gx_fin (.bool b12) (by kernel_rfl) (by kernel_rfl) ⟨_, rfl, rfl, hS14⟩
 ·refine gx_v (.bool false) w0 (run_boolE (decide_eq_false h7) (by kernel_rfl)) ?_
  refine gx_nil ?_
  refine gx_thenN ?_
  refine hK6 _ _ ?_
  refine gx_no (by kernel_rfl) ?_
  refine gx_pass ?_
  refine gx_thenN ?_
  refine hK4 _ _ ?_
  refine gx_seq (fun K16 hK17 => ?_)
  refine gx_region ?_
  refine gx_r (st_made .i32 21 [32, 32, 97, 1488, 1576, 55, 1639, 769] hS0 (by show 8 ≤ 1000000000; decide) (by kernel_rfl)) ?_
  rintro _ w18 ⟨rfl, hS19⟩
  have hS19 : St _ _ w18 [rowE .i32 21 (some ⟨w0.heap.size, 0, none⟩) 8 ([32, 32, 97, 1488, 1576, 55, 1639, 769])] := hS19
  refine gx_k (.slice (some ⟨w0.heap.size, 0, none⟩) (([32, 32, 97, 1488, 1576, 55, 1639, 769]).length) 8) w18 ?_
  refine gx_nil ?_
  refine gx_thenN ?_
  refine hK17 _ _ ?_
  refine gx_seq (fun K20 hK21 => ?_)
  refine gx_region ?_
  refine gx_k (.slice none 0 0) w18 ?_
  refine gx_nil ?_
  refine gx_thenN ?_
  refine hK21 _ _ ?_
  obtain ⟨c28, hE29, hO30⟩ := bind_in hF
  refine gx_cut (fun a w => ∃ (l27 : List Int) (A25 : Option Addr) (c26 : Nat), selfA (fun u24 => ⟨((u24 0) :: undef :: (.bool false) :: (u24 3) :: (.slice A25 l27.length c26) :: dd u24 5 2 (un 3 ((u24 10) :: (.int .i64 ((p0.length : Nat) : Int)) :: (.bool false) :: undef :: dd u24 14 35 (un 34 ([]))))).toArray, []⟩) a ∧ l27 = c28 ∧ St [] w0 w [rowE .i32 21 A25 c26 l27]) ?_ ?_
  ·refine gx_seq (fun K31 hK32 => ?_)
   refine gx_region ?_
   refine gx_k (.int .i64 0) w18 ?_
   refine gx_nil ?_
   refine gx_thenN ?_
   refine hK32 _ _ ?_
   refine gx_block ?_
   have hS33 : St _ _ w18 [rowE .i32 21 (some ⟨w0.heap.size, 0, none⟩) 8 ([32, 32, 97, 1488, 1576, 55, 1639, 769]), rowE .i32 21 none 0 ([])] := hS19.nilrow .i32 21
   refine gx_loop (fun k a w => ∃ (l39 : List Int) (x40 : Int) (A37 : Option Addr) (c38 : Nat), selfA (fun u36 => ⟨((.slice A0 p0.length c0) :: undef :: (.bool false) :: (.slice (some ⟨w0.heap.size, 0, none⟩) (([32, 32, 97, 1488, 1576, 55, 1639, 769]).length) 8) :: (.slice A37 l39.length c38) :: (.int .i64 x40) :: (u36 6) :: un 3 ((u36 10) :: (.int .i64 ((p0.length : Nat) : Int)) :: (.bool false) :: undef :: dd u36 14 35 (un 34 ([])))).toArray, []⟩) a ∧ fWords_L1 N p0 k l39 x40 = some c28 ∧ St [] w0 w [rowE .i32 21 (some ⟨w0.heap.size, 0, none⟩) 8 ([32, 32, 97, 1488, 1576, 55, 1639, 769]), rowE .i32 21 A37 c38 l39]) N ?_ ?_
   ·exact ⟨([]), 0, none, 0, selfA_i (by kernel_rfl), hE29, hS33⟩
   ·rintro k41 _ w34 ⟨l39, x40, A37, c38, hq101, hL42, hS35⟩
    obtain ⟨u36, rfl⟩ := selfA_u hq101
    cases k41 with
    | zero => cases hL42
    | succ k41 =>
     first | rw [fWords_L1] at hL42 | unfold fWords_L1 at hL42
     refine gx_seq (fun K43 hK44 => ?_)
     refine gx_seq (fun K45 hK46 => ?_)
     refine gx_region ?_
     refine gx_k (.int .i64 x40) w34 (gx_k (.slice A0 p0.length c0) w34 (gx_k (.int .i64 ((p0.length : Nat) : Int)) w34 ?_))
     rcases if_in hL42 with ⟨h47, hL42⟩ | ⟨h47, hL42⟩
     ·refine gx_v (.bool true) w34 (run_boolE (decide_eq_true h47) (by kernel_rfl)) ?_
      refine gx_nil ?_
      refine gx_thenN ?_
      refine hK46 _ _ ?_
      refine gx_yes (by kernel_rfl) ?_
      refine gx_pass ?_
      refine gx_thenN ?_
      refine hK44 _ _ ?_
      refine gx_seq (fun K48 hK49 => ?_)
      refine gx_block ?_
      refine gx_seq (fun K50 hK51 => ?_)
      refine gx_region ?_
      refine gx_k (.slice (some ⟨w0.heap.size, 0, none⟩) (([32, 32, 97, 1488, 1576, 55, 1639, 769]).length) 8) w34 (gx_k (.slice A0 p0.length c0) w34 (gx_k (.int .i64 x40) w34 ?_))
      obtain ⟨x52, hx53, hL42⟩ := bind_in hL42
      refine gx_v (.pointer (Option.map (fun (p : Addr) => p.add (Int.toNat x40 * 1)) A0)) w34 (run_ixaddr (E := 5) (s := 1) (k := .i64) (c := c0) rfl (by kernel_rfl) (by kernel_rfl) (by kernel_rfl) (fun _ => by kernel_rfl) (ix_in hx53).1 (ix_in hx53).2.1 (num_nil (hS35.view hv0))) ?_
      refine gx_v (.int .u8 x52) w34 (run_loadix rfl (by kernel_rfl) (fun _ => by kernel_rfl) (hS35.view hv0) hx53) ?_
      refine gx_k (.int .u8 (Int.tmod x52 8)) w34 ?_
      obtain ⟨x54, hx55, hL42⟩ := bind_in hL42
      refine gx_v (.pointer (Option.map (fun (p : Addr) => p.add (Int.toNat (Int.tmod x52 8) * 1)) (some ⟨w0.heap.size, 0, none⟩))) w34 (run_ixaddr (E := 21) (s := 1) (k := .u8) (c := 8) rfl (by kernel_rfl) (by kernel_rfl) (by kernel_rfl) (fun _ => by kernel_rfl) (ix_in hx55).1 (ix_in hx55).2.1 (num_nil (hS35.row 0 rfl).1)) ?_
      refine gx_v (.int .i32 x54) w34 (run_loadix rfl (by kernel_rfl) (fun _ => by kernel_rfl) (hS35.row 0 rfl).1 hx55) ?_
      refine gx_k (.int .i32 x54) w34 ?_
      refine gx_nil ?_
      refine gx_thenN ?_
      refine hK51 _ _ ?_
      refine gx_seq (fun K56 hK57 => ?_)
      refine gx_seq (fun K58 hK59 => ?_)
      refine gx_region ?_
      refine gx_k (.int .i32 x54) w34 ?_
      rcases if_in hL42 with ⟨h60, hL42⟩ | ⟨h60, hL42⟩
      ·refine gx_v (.bool true) w34 (run_boolE (decide_eq_true h60) (by kernel_rfl)) ?_
       refine gx_k (.bool true) w34 (gx_k (.slice A37 l39.length c38) w34 (gx_k (.int .i64 ((l39.length : Nat) : Int)) w34 ?_))
       rcases if_in hL42 with ⟨h61, hL42⟩ | ⟨h61, hL42⟩
       ·refine gx_v (.bool true) w34 (run_boolE (decide_eq_true h61) (by kernel_rfl)) ?_
        refine gx_k (.bool true) w34 (gx_o (gx_o (gx_o (gx_o (gx_o (gx_o (gx_o ?_)))))))
        refine gx_k (.bool true) w34 (gx_k (.bool true) w34 ?_)
        refine gx_nil ?_
        refine gx_thenN ?_
        refine hK59 _ _ ?_
        refine gx_yes (by kernel_rfl) ?_
        refine gx_region ?_
        refine gx_k (.int .i32 98) w34 ?_
        refine gx_nil ?_
        refine gx_thenN ?_
        refine hK57 _ _ ?_
        refine gx_region ?_
        refine gx_k (.slice A37 l39.length c38) w34 (gx_k (.int .i32 98) w34 ?_)
        refine gx_r (st_made .i32 21 [98] hS35 (by show 1 ≤ 1000000000; decide) (by kernel_rfl)) ?_
        rintro _ w62 ⟨rfl, hS63⟩
        have hS63 : St _ _ w62 [rowE .i32 21 (some ⟨w0.heap.size, 0, none⟩) 8 ([32, 32, 97, 1488, 1576, 55, 1639, 769]), rowE .i32 21 A37 c38 l39, rowE .i32 21 (some ⟨w34.heap.size, 0, none⟩) 1 ([98])] := hS63
        obtain ⟨l64, ha65, hL42⟩ := bind_in hL42
        obtain ⟨ha65, hq66⟩ := apx_in ha65
        refine gx_r (st_append rfl (by kernel_rfl) (by kernel_rfl) hS63 1 rfl (hS63.row 2 rfl).1 (hS63.row 2 rfl).2 ha65 (by kernel_rfl) (by kernel_rfl)) ?_
        rintro _ w69 ⟨A67, c68, rfl, hS70⟩
        rw [← hq66] at hS70 ⊢
        have hS70 : St _ _ w69 [rowE .i32 21 (some ⟨w0.heap.size, 0, none⟩) 8 ([32, 32, 97, 1488, 1576, 55, 1639, 769]), rowE .i32 21 A67 c68 l64, rowE .i32 21 (some ⟨w34.heap.size, 0, none⟩) 1 ([98])] := hS70
        refine gx_k (.slice A67 l64.length c68) w69 ?_
        refine gx_nil ?_
        refine gx_blkN ?_
        refine gx_thenN ?_
        refine hK49 _ _ ?_
        refine gx_region ?_
        refine gx_k (.int .i64 x40) w69 (gx_k (.int .i64 (IntKind.i64.wrap (x40 + 1))) w69 (gx_k (.int .i64 (IntKind.i64.wrap (x40 + 1))) w69 ?_))
        refine gx_nil ?_
        refine gx_thenN ?_
        exact ⟨k41, Nat.lt_succ_self k41, l64, (IntKind.i64.wrap (x40 + 1)), A67, c68, selfA_i (by kernel_rfl), hL42, (hS70.pick [0, 1] rfl rfl)⟩
       ·refine gx_v (.bool false) w34 (run_boolE (decide_eq_false h61) (by kernel_rfl)) ?_
        refine gx_k (.bool false) w34 (gx_k (.slice A37 l39.length c38) w34 (gx_k (.slice A37 l39.length c38) w34 (gx_k (.int .i64 ((l39.length : Nat) : Int)) w34 (gx_k (.int .i64 (IntKind.i64.wrap (((l39.length : Nat) : Int) - 1))) w34 ?_))))
        obtain ⟨x71, hx72, hL42⟩ := bind_in hL42
        refine gx_v (.pointer (Option.map (fun (p : Addr) => p.add (Int.toNat (IntKind.i64.wrap (((l39.length : Nat) : Int) - 1)) * 1)) A37)) w34 (run_ixaddr (E := 21) (s := 1) (k := .i64) (c := c38) rfl (by kernel_rfl) (by kernel_rfl) (by kernel_rfl) (fun _ => by kernel_rfl) (ix_in hx72).1 (ix_in hx72).2.1 (num_nil (hS35.row 1 rfl).1)) ?_
        refine gx_v (.int .i32 x71) w34 (run_loadix rfl (by kernel_rfl) (fun _ => by kernel_rfl) (hS35.row 1 rfl).1 hx72) ?_
        rcases if_in hL42 with ⟨h73, hL42⟩ | ⟨h73, hL42⟩
        ·refine gx_v (.bool true) w34 (run_boolE (decide_eq_true h73) (by kernel_rfl)) ?_
         refine gx_k (.bool true) w34 (gx_k (.bool true) w34 ?_)
         refine gx_nil ?_
         refine gx_thenN ?_
         refine hK59 _ _ ?_
         refine gx_yes (by kernel_rfl) ?_
         refine gx_region ?_
         refine gx_k (.int .i32 98) w34 ?_
         refine gx_nil ?_
         refine gx_thenN ?_
         refine hK57 _ _ ?_
         refine gx_region ?_
         refine gx_k (.slice A37 l39.length c38) w34 (gx_k (.int .i32 98) w34 ?_)
         refine gx_r (st_made .i32 21 [98] hS35 (by show 1 ≤ 1000000000; decide) (by kernel_rfl)) ?_
         rintro _ w74 ⟨rfl, hS75⟩
         have hS75 : St _ _ w74 [rowE .i32 21 (some ⟨w0.heap.size, 0, none⟩) 8 ([32, 32, 97, 1488, 1576, 55, 1639, 769]), rowE .i32 21 A37 c38 l39, rowE .i32 21 (some ⟨w34.heap.size, 0, none⟩) 1 ([98])] := hS75
         obtain ⟨l76, ha77, hL42⟩ := bind_in hL42
         obtain ⟨ha77, hq78⟩ := apx_in ha77
         refine gx_r (st_append rfl (by kernel_rfl) (by kernel_rfl) hS75 1 rfl (hS75.row 2 rfl).1 (hS75.row 2 rfl).2 ha77 (by kernel_rfl) (by kernel_rfl)) ?_
         rintro _ w81 ⟨A79, c80, rfl, hS82⟩
         rw [← hq78] at hS82 ⊢
         have hS82 : St _ _ w81 [rowE .i32 21 (some ⟨w0.heap.size, 0, none⟩) 8 ([32, 32, 97, 1488, 1576, 55, 1639, 769]), rowE .i32 21 A79 c80 l76, rowE .i32 21 (some ⟨w34.heap.size, 0, none⟩) 1 ([98])] := hS82
         refine gx_k (.slice A79 l76.length c80) w81 ?_
         refine gx_nil ?_
         refine gx_blkN ?_
         refine gx_thenN ?_
         refine hK49 _ _ ?_
         refine gx_region ?_
         refine gx_k (.int .i64 x40) w81 (gx_k (.int .i64 (IntKind.i64.wrap (x40 + 1))) w81 (gx_k (.int .i64 (IntKind.i64.wrap (x40 + 1))) w81 ?_))
         refine gx_nil ?_
         refine gx_thenN ?_
         exact ⟨k41, Nat.lt_succ_self k41, l76, (IntKind.i64.wrap (x40 + 1)), A79, c80, selfA_i (by kernel_rfl), hL42, (hS82.pick [0, 1] rfl rfl)⟩
        ·refine gx_v (.bool false) w34 (run_boolE (decide_eq_false h73) (by kernel_rfl)) ?_
         refine gx_k (.bool false) w34 (gx_k (.bool false) w34 ?_)
         refine gx_nil ?_
         refine gx_thenN ?_
         refine hK59 _ _ ?_
         refine gx_no (by kernel_rfl) ?_
         refine gx_pass ?_
         refine gx_thenN ?_
         refine hK57 _ _ ?_
         refine gx_region ?_
         refine gx_k (.slice A37 l39.length c38) w34 (gx_k (.int .i32 x54) w34 ?_)
         refine gx_r (st_made .i32 21 [x54] hS35 (by show 1 ≤ 1000000000; decide) (by kernel_rfl)) ?_
         rintro _ w83 ⟨rfl, hS84⟩
         have hS84 : St _ _ w83 [rowE .i32 21 (some ⟨w0.heap.size, 0, none⟩) 8 ([32, 32, 97, 1488, 1576, 55, 1639, 769]), rowE .i32 21 A37 c38 l39, rowE .i32 21 (some ⟨w34.heap.size, 0, none⟩) 1 ([x54])] := hS84
         obtain ⟨l85, ha86, hL42⟩ := bind_in hL42
         obtain ⟨ha86, hq87⟩ := apx_in ha86
         refine gx_r (st_append rfl (by kernel_rfl) (by kernel_rfl) hS84 1 rfl (hS84.row 2 rfl).1 (hS84.row 2 rfl).2 ha86 (by kernel_rfl) (by kernel_rfl)) ?_
         rintro _ w90 ⟨A88, c89, rfl, hS91⟩
         rw [← hq87] at hS91 ⊢
         have hS91 : St _ _ w90 [rowE .i32 21 (some ⟨w0.heap.size, 0, none⟩) 8 ([32, 32, 97, 1488, 1576, 55, 1639, 769]), rowE .i32 21 A88 c89 l85, rowE .i32 21 (some ⟨w34.heap.size, 0, none⟩) 1 ([x54])] := hS91
         refine gx_k (.slice A88 l85.length c89) w90 ?_
         refine gx_nil ?_
         refine gx_blkN ?_
         refine gx_thenN ?_
         refine hK49 _ _ ?_
         refine gx_region ?_
         refine gx_k (.int .i64 x40) w90 (gx_k (.int .i64 (IntKind.i64.wrap (x40 + 1))) w90 (gx_k (.int .i64 (IntKind.i64.wrap (x40 + 1))) w90 ?_))
         refine gx_nil ?_
         refine gx_thenN ?_
         exact ⟨k41, Nat.lt_succ_self k41, l85, (IntKind.i64.wrap (x40 + 1)), A88, c89, selfA_i (by kernel_rfl), hL42, (hS91.pick [0, 1] rfl rfl)⟩
      ·refine gx_v (.bool false) w34 (run_boolE (decide_eq_false h60) (by kernel_rfl)) ?_
       refine gx_k (.bool false) w34 (gx_o (gx_o (gx_o (gx_o (gx_o (gx_o (gx_o ?_)))))))
       refine gx_o (gx_o (gx_o (gx_o (gx_o (gx_k (.bool false) w34 ?_)))))
       refine gx_nil ?_
       refine gx_thenN ?_
       refine hK59 _ _ ?_
       refine gx_no (by kernel_rfl) ?_
       refine gx_pass ?_
       refine gx_thenN ?_
       refine hK57 _ _ ?_
       refine gx_region ?_
       refine gx_k (.slice A37 l39.length c38) w34 (gx_k (.int .i32 x54) w34 ?_)
       refine gx_r (st_made .i32 21 [x54] hS35 (by show 1 ≤ 1000000000; decide) (by kernel_rfl)) ?_
       rintro _ w92 ⟨rfl, hS93⟩
       have hS93 : St _ _ w92 [rowE .i32 21 (some ⟨w0.heap.size, 0, none⟩) 8 ([32, 32, 97, 1488, 1576, 55, 1639, 769]), rowE .i32 21 A37 c38 l39, rowE .i32 21 (some ⟨w34.heap.size, 0, none⟩) 1 ([x54])] := hS93
       obtain ⟨l94, ha95, hL42⟩ := bind_in hL42
       obtain ⟨ha95, hq96⟩ := apx_in ha95
       refine gx_r (st_append rfl (by kernel_rfl) (by kernel_rfl) hS93 1 rfl (hS93.row 2 rfl).1 (hS93.row 2 rfl).2 ha95 (by kernel_rfl) (by kernel_rfl)) ?_
       rintro _ w99 ⟨A97, c98, rfl, hS100⟩
       rw [← hq96] at hS100 ⊢
       have hS100 : St _ _ w99 [rowE .i32 21 (some ⟨w0.heap.size, 0, none⟩) 8 ([32, 32, 97, 1488, 1576, 55, 1639, 769]), rowE .i32 21 A97 c98 l94, rowE .i32 21 (some ⟨w34.heap.size, 0, none⟩) 1 ([x54])] := hS100
       refine gx_k (.slice A97 l94.length c98) w99 ?_
       refine gx_nil ?_
       refine gx_blkN ?_
       refine gx_thenN ?_
       refine hK49 _ _ ?_
       refine gx_region ?_
       refine gx_k (.int .i64 x40) w99 (gx_k (.int .i64 (IntKind.i64.wrap (x40 + 1))) w99 (gx_k (.int .i64 (IntKind.i64.wrap (x40 + 1))) w99 ?_))
       refine gx_nil ?_
       refine gx_thenN ?_
       exact ⟨k41, Nat.lt_succ_self k41, l94, (IntKind.i64.wrap (x40 + 1)), A97, c98, selfA_i (by kernel_rfl), hL42, (hS100.pick [0, 1] rfl rfl)⟩
     ·refine gx_v (.bool false) w34 (run_boolE (decide_eq_false h47) (by kernel_rfl)) ?_
      refine gx_nil ?_
      refine gx_thenN ?_
      refine hK46 _ _ ?_
      refine gx_no (by kernel_rfl) ?_
      refine gx_exit ?_
      refine gx_thenE ?_
      refine gx_thenE ?_
      refine gx_blkE ?_
      refine gx_thenN ?_
      exact ⟨l39, A37, c38, selfA_i (by kernel_rfl), (Option.some.inj hL42), (hS35.pick [1] rfl rfl)⟩
  ·rintro _ w22 ⟨l27, A25, c26, hq175, rfl, hS23⟩
   obtain ⟨u24, rfl⟩ := selfA_u hq175
   try dsimp only at hO30
   refine gx_seq (fun K102 hK103 => ?_)
   refine gx_region ?_
   refine gx_k (.slice A25 l27.length c26) w22 ?_
   have hP104 : St _ _ w22 ([] ++ [rowE .i32 21 A25 c26 l27]) := hS23
   obtain ⟨l106, hc105, hO30⟩ := bind_in hO30
   try dsimp only at hO30
   refine gx_c (pBreaks_R l106 w22) (pBreaks_ok N l27 A25 c26 _ hc105 w22 (hP104.vwB 0 rfl)) ?_
   rintro _ w109 ⟨A107, c108, rfl, hT111⟩
   have hS110 : St _ _ w109 [rowE .i32 21 A25 c26 l27, rowE .u8 5 A107 c108 l106] := hS23.take _ hT111
   refine gx_k (.slice A107 l106.length c108) w109 ?_
   refine gx_nil ?_
   refine gx_thenN ?_
   refine hK103 _ _ ?_
   refine gx_seq (fun K112 hK113 => ?_)
   refine gx_seq (fun K114 hK115 => ?_)
   refine gx_region ?_
   refine gx_k (.slice A107 l106.length c108) w109 (gx_k (.int .i64 ((l106.length : Nat) : Int)) w109 (gx_k (.slice A25 l27.length c26) w109 (gx_k (.int .i64 ((l27.length : Nat) : Int)) w109 (gx_k (.int .i64 (IntKind.i64.wrap (((l27.length : Nat) : Int) + 1))) w109 ?_))))
   rcases if_in hO30 with ⟨h116, hO30⟩ | ⟨h116, hO30⟩
   ·refine gx_v (.bool true) w109 (run_boolE (ne_yes h116) (by kernel_rfl)) ?_
    refine gx_nil ?_
    refine gx_thenN ?_
    refine hK115 _ _ ?_
    refine gx_yes (by kernel_rfl) ?_
    refine gx_seq (fun K117 hK118 => ?_)
    refine gx_region ?_
    refine gx_k (.bool false) w109 ?_
    refine gx_nil ?_
    refine gx_thenN ?_
    refine hK118 _ _ ?_
    refine gx_ret ?_
    refine gx_thenR ?_
    obtain rfl := Option.some.inj hO30
    exact gx_fin (.bool false) (by kernel_rfl) (by kernel_rfl) ⟨_, rfl, rfl, (hS110.pick [] rfl rfl)⟩
   ·refine gx_v (.bool false) w109 (run_boolE (ne_no h116) (by kernel_rfl)) ?_
    refine gx_nil ?_
    refine gx_thenN ?_
    refine hK115 _ _ ?_
    refine gx_no (by kernel_rfl) ?_
    refine gx_pass ?_
    refine gx_thenN ?_
    refine hK113 _ _ ?_
    obtain ⟨c122, hE123, hO124⟩ := bind_in hO30
    refine gx_cut (fun a w => selfA (fun u121 => ⟨((u24 0) :: undef :: (u121 2) :: (u24 3) :: (u121 4) :: dd u24 5 2 (dd u121 7 3 ((u24 10) :: (.int .i64 ((p0.length : Nat) : Int)) :: (.bool false) :: undef :: dd u24 14 35 (dd u121 49 3 ((.int .i64 ((l106.length : Nat) : Int)) :: (u121 53) :: (.int .i64 ((l27.length : Nat) : Int)) :: (.int .i64 (IntKind.i64.wrap (((l27.length : Nat) : Int) + 1))) :: (.bool false) :: dd u121 57 25 (undef :: [])))))).toArray, []⟩) a ∧ Ctl.go () = c122 ∧ St [] w0 w []) ?_ ?_
    ·refine gx_seq (fun K125 hK126 => ?_)
     refine gx_region ?_
     refine gx_k (.int .i64 1) w109 ?_
     refine gx_nil ?_
     refine gx_thenN ?_
     refine hK126 _ _ ?_
     refine gx_block ?_
     refine gx_loop (fun k a w => ∃ (x130 : Int), selfA (fun u129 => ⟨((u24 0) :: undef :: (u129 2) :: (u24 3) :: (.slice A25 l27.length c26) :: dd u24 5 2 ((.slice A107 l106.length c108) :: (.int .i64 x130) :: (u129 9) :: (u24 10) :: (.int .i64 ((p0.length : Nat) : Int)) :: (.bool false) :: undef :: dd u24 14 35 (dd u129 49 3 ((.int .i64 ((l106.length : Nat) : Int)) :: (u129 53) :: (.int .i64 ((l27.length : Nat) : Int)) :: (.int .i64 (IntKind.i64.wrap (((l27.length : Nat) : Int) + 1))) :: (.bool false) :: dd u129 57 25 (undef :: []))))).toArray, []⟩) a ∧ fWords_L2 N l27 l106 k x130 = some c122 ∧ St [] w0 w [rowE .i32 21 A25 c26 l27, rowE .u8 5 A107 c108 l106]) N ?_ ?_
     ·exact ⟨1, selfA_i (by kernel_rfl), hE123, hS110⟩
     ·rintro k131 _ w127 ⟨x130, hq165, hL132, hS128⟩
      obtain ⟨u129, rfl⟩ := selfA_u hq165
      cases k131 with
      | zero => cases hL132
      | succ k131 =>
       first | rw [fWords_L2] at hL132 | unfold fWords_L2 at hL132
       refine gx_seq (fun K133 hK134 => ?_)
       refine gx_seq (fun K135 hK136 => ?_)
       refine gx_region ?_
       refine gx_k (.int .i64 x130) w127 (gx_k (.slice A25 l27.length c26) w127 (gx_k (.int .i64 ((l27.length : Nat) : Int)) w127 ?_))
       rcases if_in hL132 with ⟨h137, hL132⟩ | ⟨h137, hL132⟩
       ·refine gx_v (.bool true) w127 (run_boolE (decide_eq_true h137) (by kernel_rfl)) ?_
        refine gx_nil ?_
        refine gx_thenN ?_
        refine hK136 _ _ ?_
        refine gx_yes (by kernel_rfl) ?_
        refine gx_pass ?_
        refine gx_thenN ?_
        refine hK134 _ _ ?_
        refine gx_seq (fun K138 hK139 => ?_)
        refine gx_block ?_
        refine gx_seq (fun K140 hK141 => ?_)
        refine gx_region ?_
        refine gx_k (.int .u8 0) w127 ?_
        refine gx_nil ?_
        refine gx_thenN ?_
        refine hK141 _ _ ?_
        obtain ⟨c146, hE147, hO148⟩ := bind_in hL132
        refine gx_cut (fun a w => ∃ (x145 : Int), selfA (fun u144 => ⟨((u24 0) :: undef :: (u129 2) :: (u24 3) :: (.slice A25 l27.length c26) :: dd u24 5 2 ((.slice A107 l106.length c108) :: (.int .i64 x130) :: (.int .u8 x145) :: (u24 10) :: (.int .i64 ((p0.length : Nat) : Int)) :: (.bool false) :: undef :: dd u24 14 35 (dd u129 49 3 ((.int .i64 ((l106.length : Nat) : Int)) :: (u129 53) :: (.int .i64 ((l27.length : Nat) : Int)) :: (.int .i64 (IntKind.i64.wrap (((l27.length : Nat) : Int) + 1))) :: (.bool false) :: (.int .i64 x130) :: (u144 58) :: (.int .i64 ((l27.length : Nat) : Int)) :: (.bool true) :: dd u129 61 2 (dd u144 63 13 (dd u129 76 6 (undef :: []))))))).toArray, []⟩) a ∧ x145 = c146 ∧ St [] w0 w [rowE .i32 21 A25 c26 l27, rowE .u8 5 A107 c108 l106]) ?_ ?_
        ·refine gx_seq (fun K149 hK150 => ?_)
         refine gx_region ?_
         refine gx_k (.slice A25 l27.length c26) w127 (gx_k (.int .i64 x130) w127 (gx_k (.int .i64 (IntKind.i64.wrap (x130 - 1))) w127 ?_))
         obtain ⟨x151, hx152, hE147⟩ := bind_in hE147
         refine gx_v (.pointer (Option.map (fun (p : Addr) => p.add (Int.toNat (IntKind.i64.wrap (x130 - 1)) * 1)) A25)) w127 (run_ixaddr (E := 21) (s := 1) (k := .i64) (c := c26) rfl (by kernel_rfl) (by kernel_rfl) (by kernel_rfl) (fun _ => by kernel_rfl) (ix_in hx152).1 (ix_in hx152).2.1 (num_nil (hS128.row 0 rfl).1)) ?_
         refine gx_v (.int .i32 x151) w127 (run_loadix rfl (by kernel_rfl) (fun _ => by kernel_rfl) (hS128.row 0 rfl).1 hx152) ?_
         rcases if_in hE147 with ⟨h153, hE147⟩ | ⟨h153, hE147⟩
         ·refine gx_v (.bool true) w127 (run_boolE (decide_eq_true h153) (by kernel_rfl)) ?_
          refine gx_k (.bool true) w127 (gx_k (.slice A25 l27.length c26) w127 (gx_k (.int .i64 x130) w127 ?_))
          obtain ⟨x154, hx155, hE147⟩ := bind_in hE147
          refine gx_v (.pointer (Option.map (fun (p : Addr) => p.add (Int.toNat x130 * 1)) A25)) w127 (run_ixaddr (E := 21) (s := 1) (k := .i64) (c := c26) rfl (by kernel_rfl) (by kernel_rfl) (by kernel_rfl) (fun _ => by kernel_rfl) (ix_in hx155).1 (ix_in hx155).2.1 (num_nil (hS128.row 0 rfl).1)) ?_
          refine gx_v (.int .i32 x154) w127 (run_loadix rfl (by kernel_rfl) (fun _ => by kernel_rfl) (hS128.row 0 rfl).1 hx155) ?_
          rcases if_in hE147 with ⟨h156, hE147⟩ | ⟨h156, hE147⟩
          ·refine gx_v (.bool true) w127 (run_boolE (ne_yes h156) (by kernel_rfl)) ?_
           refine gx_k (.bool true) w127 ?_
           refine gx_nil ?_
           refine gx_thenN ?_
           refine hK150 _ _ ?_
           refine gx_yes (by kernel_rfl) ?_
           refine gx_region ?_
           refine gx_k (.int .u8 1) w127 ?_
           refine gx_nil ?_
           refine gx_thenN ?_
           exact ⟨1, selfA_i (by kernel_rfl), (Option.some.inj hE147), hS128⟩
          ·refine gx_v (.bool false) w127 (run_boolE (ne_no h156) (by kernel_rfl)) ?_
           refine gx_k (.bool false) w127 ?_
           refine gx_nil ?_
           refine gx_thenN ?_
           refine hK150 _ _ ?_
           refine gx_no (by kernel_rfl) ?_
           refine gx_pass ?_
           refine gx_thenN ?_
           exact ⟨0, selfA_i (by kernel_rfl), (Option.some.inj hE147), hS128⟩
         ·refine gx_v (.bool false) w127 (run_boolE (decide_eq_false h153) (by kernel_rfl)) ?_
          refine gx_k (.bool false) w127 (gx_o (gx_o (gx_o (gx_o (gx_o (gx_k (.bool false) w127 ?_))))))
          refine gx_nil ?_
          refine gx_thenN ?_
          refine hK150 _ _ ?_
          refine gx_no (by kernel_rfl) ?_
          refine gx_pass ?_
          refine gx_thenN ?_
          exact ⟨0, selfA_i (by kernel_rfl), (Option.some.inj hE147), hS128⟩
        ·rintro _ w142 ⟨x145, hq164, rfl, hS143⟩
         obtain ⟨u144, rfl⟩ := selfA_u hq164
         try dsimp only at hO148
         refine gx_seq (fun K157 hK158 => ?_)
         refine gx_region ?_
         refine gx_k (.slice A107 l106.length c108) w142 (gx_k (.int .i64 x130) w142 ?_)
         obtain ⟨x159, hx160, hO148⟩ := bind_in hO148
         refine gx_v (.pointer (Option.map (fun (p : Addr) => p.add (Int.toNat x130 * 1)) A107)) w142 (run_ixaddr (E := 5) (s := 1) (k := .i64) (c := c108) rfl (by kernel_rfl) (by kernel_rfl) (by kernel_rfl) (fun _ => by kernel_rfl) (ix_in hx160).1 (ix_in hx160).2.1 (num_nil (hS143.row 1 rfl).1)) ?_
         refine gx_v (.int .u8 x159) w142 (run_loadix rfl (by kernel_rfl) (fun _ => by kernel_rfl) (hS143.row 1 rfl).1 hx160) ?_
         refine gx_k (.int .u8 x145) w142 ?_
         rcases if_in hO148 with ⟨h161, hO148⟩ | ⟨h161, hO148⟩
         ·refine gx_v (.bool true) w142 (run_boolE (ne_yes h161) (by kernel_rfl)) ?_
          refine gx_nil ?_
          refine gx_thenN ?_
          refine hK158 _ _ ?_
          refine gx_yes (by kernel_rfl) ?_
          refine gx_seq (fun K162 hK163 => ?_)
          refine gx_region ?_
          refine gx_k (.bool false) w142 ?_
          refine gx_nil ?_
          refine gx_thenN ?_
          refine hK163 _ _ ?_
          refine gx_ret ?_
          refine gx_blkR ?_
          refine gx_thenR ?_
          refine gx_thenR ?_
          refine gx_blkR ?_
          refine gx_thenR ?_
          obtain rfl := Option.some.inj hO148
          try dsimp only at hO124
          obtain rfl := Option.some.inj hO124
          exact gx_fin (.bool false) (by kernel_rfl) (by kernel_rfl) ⟨_, rfl, rfl, (hS143.pick [] rfl rfl)⟩
         ·refine gx_v (.bool false) w142 (run_boolE (ne_no h161) (by kernel_rfl)) ?_
          refine gx_nil ?_
          refine gx_thenN ?_
          refine hK158 _ _ ?_
          refine gx_no (by kernel_rfl) ?_
          refine gx_pass ?_
          refine gx_blkN ?_
          refine gx_thenN ?_
          refine hK139 _ _ ?_
          refine gx_region ?_
          refine gx_k (.int .i64 x130) w142 (gx_k (.int .i64 (IntKind.i64.wrap (x130 + 1))) w142 (gx_k (.int .i64 (IntKind.i64.wrap (x130 + 1))) w142 ?_))
          refine gx_nil ?_
          refine gx_thenN ?_
          exact ⟨k131, Nat.lt_succ_self k131, (IntKind.i64.wrap (x130 + 1)), selfA_i (by kernel_rfl), hO148, hS143⟩
       ·refine gx_v (.bool false) w127 (run_boolE (decide_eq_false h137) (by kernel_rfl)) ?_
        refine gx_nil ?_
        refine gx_thenN ?_
        refine hK136 _ _ ?_
        refine gx_no (by kernel_rfl) ?_
        refine gx_exit ?_
        refine gx_thenE ?_
        refine gx_thenE ?_
        refine gx_blkE ?_
        refine gx_thenN ?_
        exact ⟨selfA_i (by kernel_rfl), (Option.some.inj hL132), (hS128.pick [] rfl rfl)⟩
    ·rintro _ w119 ⟨hq174, rfl, hS120⟩
     obtain ⟨u121, rfl⟩ := selfA_u hq174
     try dsimp only at hO124
     refine gx_seq (fun K166 hK167 => ?_)
     refine gx_region ?_
     have hP168 : St _ _ w119 ([] ++ []) := hS120
     obtain ⟨b170, hc169, hO124⟩ := bind_in hO124
     try dsimp only at hO124
     refine gx_c (kWorks_R b170 w119) (kWorks_ok N  _ hc169 w119 ) ?_
     rintro _ w171 ⟨rfl, hT173⟩
     have hS172 : St _ _ w171 [] := hS120.take _ hT173
     refine gx_k (.bool b170) w171 ?_
     refine gx_nil ?_
     refine gx_thenN ?_
     refine hK167 _ _ ?_
     refine gx_ret ?_
     obtain rfl := Option.some.inj hO124
     exact gx_fin (.bool b170) (by kernel_rfl) (by kernel_rfl) ⟨_, rfl, rfl, hS172⟩
end Go.Proofs.Ytdbimchiecdkoaa
