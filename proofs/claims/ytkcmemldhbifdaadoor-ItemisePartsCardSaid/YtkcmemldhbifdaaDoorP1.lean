/-
  Joined.
-/
import Derived.Test.YtkcmemldhbifdaaDoorSk
namespace Go.Proofs.YtkcmemldhbifdaaDoor
open Go Go.RowKit
set_option linter.unusedVariables false
def pSet_L1 (N : Nat) (p1 : List Int) : Nat → (List Int) → Int → (Int × List (Int × Int)) → Option (List Int)
 | 0, _, _, _ => none
 | k22+1, l19, x20, m21 => (if x20 < ((p1.length : Nat) : Int) then ((ix p1 x20).bind fun x33 => ((kRead N m21 x33).bind fun m42 => ((ix l19 x20).bind fun _x43 => ((setx l19 x20 m42.1).bind fun l47 => pSet_L1 N p1 k22 l47 (IntKind.i64.wrap (x20 + 1)) m42)))) else some l19)
def pSet (N : Nat) (p0 : List Int) (p1 : List Int) : Option (List Int) :=
 ((pFst N p1).bind fun x5 => pSet_L1 N p1 N p0 0 (x5, []))
set_option linter.unusedVariables false in
def pSet_R (p0 : List Int) (p1 : List Int) (A0 : Option Addr) (c0 : Nat) (B0 : Option Addr) (d0 : Nat) (pre0 post0 : List Int) (A1 : Option Addr) (c1 : Nat) (r : List Int) (w0 : World) (v : Value) (w : World) : Prop := v = .tuple #[] ∧ St (foots [pceE .u8 5 A0 c0 pre0 post0 p0]) w0 w [pceE .u8 5 A0 c0 pre0 post0 r] ∧ r.length = p0.length
set_option maxRecDepth 100000 in
set_option maxHeartbeats 4000000 in
theorem pSet_ok (N : Nat) (p0 : List Int) (p1 : List Int) (A0 : Option Addr) (c0 : Nat) (B0 : Option Addr) (d0 : Nat) (pre0 post0 : List Int) (A1 : Option Addr) (c1 : Nat) (r : List Int) (hF : pSet N p0 p1 = some r) (w0 : World) (hp0 : PceAt A0 c0 pre0 p0 B0 d0) (hv1 : Vw (foots [pceE .u8 5 A0 c0 pre0 post0 p0]) .i32 w0 A1 c1 p1) (hl : St (foots [pceE .u8 5 A0 c0 pre0 post0 p0]) w0 w0 [pceE .u8 5 A0 c0 pre0 post0 p0]) (hcd : MirB (foots [pceE .u8 5 A0 c0 pre0 post0 p0]) w0) :
  Calls Tryd.prog 21 #[.slice B0 p0.length d0, .slice A1 p1.length c1] w0 fun e w => ∃ v, e = .returned v ∧ pSet_R p0 p1 A0 c0 B0 d0 pre0 post0 A1 c1 r w0 v w := by
 have hS0 := hl
 unfold pSet at hF
 refine calls_of Tryd.func21 rfl ⟨((.slice B0 p0.length d0) :: (.slice A1 p1.length c1) :: un 23 ([])).toArray, []⟩ (by kernel_rfl) ?_
 refine gx_seq (fun K1 hK2 => ?_)
 refine gx_region ?_
 refine gx_k (.slice A1 p1.length c1) w0 ?_
 have hP3 : St _ _ w0 ([] ++ [pceE .u8 5 A0 c0 pre0 post0 p0]) := hS0
 obtain ⟨x5, hc4, hF⟩ := bind_in hF
 try dsimp only at hF
 refine gx_c (pFst_R x5 w0) (pFst_ok N p1 A1 c1 _ hc4 w0 (hP3.vwA hv1)) ?_
 rintro _ w6 ⟨rfl, hT8⟩
 have hS7 : St _ _ w6 [pceE .u8 5 A0 c0 pre0 post0 p0] := hS0.take _ hT8
 refine gx_k (.agg (pastL x5).toArray) w6 ?_
 refine gx_r (st_past0 hS7 (by kernel_rfl)) ?_
 rintro _ w9 ⟨rfl, hS10⟩
 have hS10 : St _ _ w9 [pceE .u8 5 A0 c0 pre0 post0 p0, pstE w6.heap.size (0, [])] := hS10
 refine gx_s (st_pastS (s := x5) rfl (by kernel_rfl) (by kernel_rfl) (by kernel_rfl) hS10 1 rfl) ?_
 rintro w11 hS12
 have hS12 : St _ _ w11 [pceE .u8 5 A0 c0 pre0 post0 p0, pstE w6.heap.size (x5, [])] := hS12
 refine gx_nil ?_
 refine gx_thenN ?_
 refine hK2 _ _ ?_
 refine gx_seq (fun K13 hK14 => ?_)
 refine gx_region ?_
 refine gx_k (.slice A1 p1.length c1) w11 (gx_k (.int .i64 ((p1.length : Nat) : Int)) w11 (gx_k (.int .i64 0) w11 ?_))
 refine gx_nil ?_
 refine gx_thenN ?_
 refine hK14 _ _ ?_
 refine gx_block ?_
 refine gx_loop (fun k a w => ∃ (l19 : List Int) (x20 : Int) (m21 : Int × List (Int × Int)), selfA (fun u17 => ⟨((.slice B0 p0.length d0) :: (u17 1) :: undef :: undef :: (.pointer (some ⟨w6.heap.size, 0, none⟩)) :: dd u17 5 3 ((.int .u8 x5) :: (.agg (pastL x5).toArray) :: (.slice A1 p1.length c1) :: (.int .i64 ((p1.length : Nat) : Int)) :: (.int .i64 x20) :: dd u17 13 12 ([]))).toArray, []⟩) a ∧ pSet_L1 N p1 k l19 x20 m21 = some r ∧ St (foots [pceE .u8 5 A0 c0 pre0 post0 p0]) w0 w [pceE .u8 5 A0 c0 pre0 post0 l19, pstE w6.heap.size m21] ∧ p0.length = l19.length) N ?_ ?_
 ·exact ⟨p0, 0, (x5, []), selfA_i (by kernel_rfl), hF, hS12, rfl⟩
 ·rintro k22 _ w15 ⟨l19, x20, m21, hq51, hL23, hS16, hn18⟩
  obtain ⟨u17, rfl⟩ := selfA_u hq51
  cases k22 with
  | zero => cases hL23
  | succ k22 =>
   first | rw [pSet_L1] at hL23 | unfold pSet_L1 at hL23
   refine gx_seq (fun K24 hK25 => ?_)
   refine gx_region ?_
   rcases if_in hL23 with ⟨h26, hL23⟩ | ⟨h26, hL23⟩
   ·refine gx_v (.bool true) w15 (run_boolE (decide_eq_true h26) (by kernel_rfl)) ?_
    refine gx_nil ?_
    refine gx_thenN ?_
    refine hK25 _ _ ?_
    refine gx_seq (fun K27 hK28 => ?_)
    refine gx_yes (by kernel_rfl) ?_
    refine gx_pass ?_
    refine gx_thenN ?_
    refine hK28 _ _ ?_
    refine gx_seq (fun K29 hK30 => ?_)
    refine gx_block ?_
    refine gx_seq (fun K31 hK32 => ?_)
    refine gx_region ?_
    refine gx_k (.int .i64 x20) w15 ?_
    obtain ⟨x33, hx34, hL23⟩ := bind_in hL23
    refine gx_v (.pointer (Option.map (fun (p : Addr) => p.add (Int.toNat x20 * 1)) A1)) w15 (run_ixaddr (E := 21) (s := 1) (k := .i64) (c := c1) rfl (by kernel_rfl) (by kernel_rfl) (by kernel_rfl) (fun _ => by kernel_rfl) (ix_in hx34).1 (ix_in hx34).2.1 (num_nil (hS16.view hv1))) ?_
    refine gx_v (.int .i32 x33) w15 (run_loadix rfl (by kernel_rfl) (fun _ => by kernel_rfl) (hS16.view hv1) hx34) ?_
    refine gx_k (.int .i64 x20) w15 (gx_k (.int .i32 x33) w15 ?_)
    refine gx_nil ?_
    refine gx_thenN ?_
    refine hK32 _ _ ?_
    refine gx_seq (fun K35 hK36 => ?_)
    refine gx_region ?_
    refine gx_k (.int .i32 x33) w15 ?_
    have hP37 : St _ _ w15 ([pstE w6.heap.size m21] ++ [pceE .u8 5 A0 c0 pre0 post0 l19]) := hS16.pick [1, 0] rfl rfl
    obtain ⟨m42, hc38, hL23⟩ := bind_in hL23
    try dsimp only at hL23
    refine gx_c (kRead_R w6.heap.size m42 w15) (kRead_ok N w6.heap.size m21 x33 _ hc38 w15 (MirB.atL hcd hP37) hP37.part) ?_
    rintro _ w39 ⟨rfl, hT41⟩
    have hS40 : St _ _ w39 [pceE .u8 5 A0 c0 pre0 post0 l19, pstE w6.heap.size m42] := hP37.lendN _ hT41
    refine gx_nil ?_
    refine gx_thenN ?_
    refine hK36 _ _ ?_
    refine gx_region ?_
    refine gx_k (.slice B0 p0.length d0) w39 (gx_k (.int .i64 x20) w39 (gx_k (.pointer (some ⟨w6.heap.size, 0, none⟩)) w39 ?_))
    refine gx_v (.int .u8 m42.1) w39 (run_load1 rfl (by kernel_rfl) (fun _ => by kernel_rfl) (hS40.pst0 1 rfl)) ?_
    obtain ⟨x43, hx44, hL23⟩ := bind_in hL23
    refine gx_v (.pointer (Option.map (fun (p : Addr) => p.add (Int.toNat x20 * 1)) B0)) w39 (run_ixaddr (E := 5) (s := 1) (k := .i64) (c := d0) rfl (by kernel_rfl) (by kernel_rfl) (by kernel_rfl) (fun _ => by kernel_rfl) (ix_in hx44).1 (lt_len hn18 (ix_in hx44).2.1) (nil_len hn18 (num_nil (hS40.pce 0 rfl (hp0.keep (hn18).symm)).1))) ?_
    obtain ⟨l47, hx48, hL23⟩ := bind_in hL23
    refine gx_s (st_storepc rfl (by kernel_rfl) (by kernel_rfl) (fun _ => by kernel_rfl) (hp0.keep (hn18).symm) hS40 0 rfl hx48) ?_
    rintro w45 hS46
    have hS46 : St _ _ w45 [pceE .u8 5 A0 c0 pre0 post0 l47, pstE w6.heap.size m42] := hS46
    refine gx_nil ?_
    refine gx_blkN ?_
    refine gx_thenN ?_
    refine hK30 _ _ ?_
    refine gx_region ?_
    refine gx_k (.int .i64 (IntKind.i64.wrap (x20 + 1))) w45 (gx_k (.int .i64 (IntKind.i64.wrap (x20 + 1))) w45 ?_)
    refine gx_nil ?_
    refine gx_thenN ?_
    exact ⟨k22, Nat.lt_succ_self k22, l47, (IntKind.i64.wrap (x20 + 1)), m42, selfA_i (by kernel_rfl), hL23, hS46, (hn18.trans (setx_len hx48).symm)⟩
   ·refine gx_v (.bool false) w15 (run_boolE (decide_eq_false h26) (by kernel_rfl)) ?_
    refine gx_nil ?_
    refine gx_thenN ?_
    refine hK25 _ _ ?_
    refine gx_seq (fun K49 hK50 => ?_)
    refine gx_no (by kernel_rfl) ?_
    refine gx_exit ?_
    refine gx_thenE ?_
    refine gx_thenE ?_
    refine gx_blkE ?_
    obtain rfl := Option.some.inj hL23
    exact gx_finN (.tuple #[]) (by kernel_rfl) (by kernel_rfl) ⟨_, rfl, rfl, (hS16.pick [0] rfl rfl), (hn18).symm⟩
end Go.Proofs.YtkcmemldhbifdaaDoor

namespace Go.Proofs.YtkcmemldhbifdaaDoor
open Go Go.RowKit
set_option linter.unusedVariables false
def pScripts_X1 (N : Nat) (p0 : List Int) : List (Int × Int) → (List Int) → Option (List Int)
 | [], l33 => some (l33)
 | (x38, x39) :: its40, l33 => ((cutx l33 x38 x39).bind fun l56 => ((cutx p0 x38 x39).bind fun l62 => ((pSet N l56 l62).bind fun l71 => ((putx l33 x38 x39 l71).bind fun l73 => pScripts_X1 N p0 its40 l73))))
def pScripts (N : Nat) (p0 : List Int) : Option (List Int) :=
 ((mkx ((p0.length : Nat) : Int)).bind fun l7 => ((pParts1 N p0).bind fun its25 => ((pScripts_X1 N p0 its25 l7).bind fun l33 => some l33)))
set_option linter.unusedVariables false in
def pScripts_R (r : List Int) (w0 : World) (v : Value) (w : World) : Prop := ∃ (A0' : Option Addr) (c0' : Nat), v = .slice A0' r.length c0' ∧ St [] w0 w [rowE .u8 5 A0' c0' r]
set_option maxRecDepth 100000 in
set_option maxHeartbeats 4000000 in
theorem pScripts_ok (N : Nat) (p0 : List Int) (A0 : Option Addr) (c0 : Nat) (r : List Int) (hF : pScripts N p0 = some r) (w0 : World) (hv0 : Vw [] .i32 w0 A0 c0 p0) (hcd : MirB [] w0) :
  Calls Tryd.prog 10 #[.slice A0 p0.length c0] w0 fun e w => ∃ v, e = .returned v ∧ pScripts_R r w0 v w := by
 have hS0 := St.start w0
 unfold pScripts at hF
 refine calls_ofM Tryd.func10 rfl ⟨((.slice A0 p0.length c0) :: un 22 ([])).toArray, []⟩ (by kernel_rfl) ?_
 refine gx_seq (fun K1 hK2 => ?_)
 refine gx_region ?_
 refine gx_r (st_boxed [.slice A0 p0.length c0] 22 hS0 (by kernel_rfl)) ?_
 rintro _ w3 ⟨rfl, hS4⟩
 have hS4 : St _ _ w3 [boxE w0.heap.size [.slice A0 p0.length c0] 22] := hS4
 refine gx_k (.slice none 0 0) w3 ?_
 refine gx_nil ?_
 refine gx_thenN ?_
 refine hK2 _ _ ?_
 refine gx_seq (fun K5 hK6 => ?_)
 refine gx_region ?_
 refine gx_v (.slice A0 p0.length c0) w3 (run_load1 rfl (by kernel_rfl) (fun _ => by kernel_rfl) (hS4.box 0 rfl 0 rfl)) ?_
 refine gx_k (.int .i64 ((p0.length : Nat) : Int)) w3 ?_
 obtain ⟨l7, hm8, hF⟩ := bind_in hF
 refine gx_r (st_make (T := 5) (k := .u8) (by_ := 1) rfl (by kernel_rfl) (by kernel_rfl) (by kernel_rfl) (by kernel_rfl) (by kernel_rfl) hS4 hm8) ?_
 rintro _ w9 ⟨A11, c12, rfl, hS10⟩
 have hS10 : St _ _ w9 [boxE w0.heap.size [.slice A0 p0.length c0] 22, rowE .u8 5 A11 c12 l7] := hS10
 refine gx_r (st_boxed [.slice none 0 0] 24 hS10 (by kernel_rfl)) ?_
 rintro _ w13 ⟨rfl, hS14⟩
 have hS14 : St _ _ w13 [boxE w0.heap.size [.slice A0 p0.length c0] 22, rowE .u8 5 A11 c12 l7, boxE w9.heap.size [.slice none 0 0] 24] := hS14
 refine gx_s (st_store (j := 0) (v := (.slice A11 l7.length c12)) rfl (by kernel_rfl) (by kernel_rfl) rfl (fun _ => by kernel_rfl) hS14 2 rfl (by show 0 < 1; decide)) ?_
 rintro w15 hS16
 have hS16 : St _ _ w15 [boxE w0.heap.size [.slice A0 p0.length c0] 22, rowE .u8 5 A11 c12 l7, boxE w9.heap.size [.slice A11 l7.length c12] 24] := hS16
 refine gx_nil ?_
 refine gx_thenN ?_
 refine hK6 _ _ ?_
 refine gx_seq (fun K17 hK18 => ?_)
 refine gx_seq (fun K19 hK20 => ?_)
 refine gx_region ?_
 refine gx_v (.slice A0 p0.length c0) w15 (run_load1 rfl (by kernel_rfl) (fun _ => by kernel_rfl) (hS16.box 0 rfl 0 rfl)) ?_
 refine gx_c (pParts_R A0 p0.length c0 () w15) (pParts_ok N  A0 p0.length c0 _ rfl w15) ?_
 rintro _ w21 ⟨g24, rfl, hT23⟩
 have hS22 : St _ _ w21 [boxE w0.heap.size [.slice A0 p0.length c0] 22, rowE .u8 5 A11 c12 l7, boxE w9.heap.size [.slice A11 l7.length c12] 24, boxE g24 [.slice A0 p0.length c0] 22] := hS16.take _ hT23
 refine gx_nil ?_
 refine gx_thenN ?_
 refine hK20 _ _ ?_
 refine gx_block ?_
 obtain ⟨its25, hi28, hF⟩ := bind_in hF
 have hS27 : St _ _ w21 ([boxE w0.heap.size [.slice A0 p0.length c0] 22, rowE .u8 5 A11 c12 l7, boxE w9.heap.size [.slice A11 l7.length c12] 24] ++ [boxE g24 [.slice A0 p0.length c0] 22]) := hS22.pick [0, 1, 2, 3] rfl rfl
 have hit26 := pParts1_iter N p0 _ hi28 g24 A0 c0 hv0.nn
 have hS37 : St _ _ w21 ([boxE w0.heap.size [.slice A0 p0.length c0] 22, rowE .u8 5 A11 c12 l7, boxE w9.heap.size [.slice A11 l7.length c12] 24] ++ [boxE g24 [.slice A0 p0.length c0] 22]) := hS27.pick [0, 1, 2, 3] rfl rfl
 obtain ⟨c34, hE35, hO36⟩ := bind_in hF
 refine gx_rangeV (v := .func (.func 27) #[] #[.pointer (some ⟨g24, 0, none⟩)]) (enc := encint_int) (items := its25) (kp := (pParts1_kp g24 A0 c0 p0)) (es := [boxE w0.heap.size [.slice A0 p0.length c0] 22, rowE .u8 5 A11 c12 l7, boxE w9.heap.size [.slice A11 l7.length c12] 24]) (ks := [boxE g24 [.slice A0 p0.length c0] 22]) (by kernel_rfl) hit26 (fun ⟨_, _⟩ => rfl) hS37 (fun rest es => ∃ (l33 : List Int), pScripts_X1 N p0 rest l33 = some c34 ∧ es = [boxE w0.heap.size [.slice A0 p0.length c0] 22, rowE .u8 5 A11 c12 l33, boxE w9.heap.size [.slice A11 l33.length c12] 24]) (fun _ => False) (fun W es _ h => ⟨((fun e he => (h.holds e he).1) (boxE g24 [.slice A0 p0.length c0] 22) (by simp)), (h.view hv0)⟩) .skip ⟨l7, hE35, rfl⟩ ?_ ?_ ?_
 ·rintro l42 r43 r44 ⟨x38, x39⟩ its40 w45 _ ⟨l33, hL41, rfl⟩ D48 hP49
  rw [pScripts_X1] at hL41
  have hcd := MirB.atL hcd hP49
  have hv50 := hP49.vwR hv0
  have hS46 : St (feet [objE l42 r43, boxE w0.heap.size [.slice A0 p0.length c0] 22, rowE .u8 5 A11 c12 l33, boxE w9.heap.size [.slice A11 l33.length c12] 24]) w45 w45 [objE l42 r43, boxE w0.heap.size [.slice A0 p0.length c0] 22, rowE .u8 5 A11 c12 l33, boxE w9.heap.size [.slice A11 l33.length c12] 24] := hP49.feetP
  refine gx_act ⟨((.slice A0 p0.length c0) :: (.pointer (some ⟨w0.heap.size, 0, none⟩)) :: (.slice none 0 0) :: (.pointer (some ⟨w9.heap.size, 0, none⟩)) :: undef :: undef :: (.slice A0 p0.length c0) :: (.int .i64 ((p0.length : Nat) : Int)) :: (.slice A11 l7.length c12) :: (.slice A0 p0.length c0) :: (.func (.func 27) #[] #[.pointer (some ⟨g24, 0, none⟩)]) :: (.int .i64 x38) :: (.int .i64 x39) :: un 10 ([])).toArray, []⟩ (by kernel_rfl) ?_
  refine gx_seq (fun K51 hK52 => ?_)
  refine gx_region ?_
  refine gx_k (.int .i64 x38) w45 ?_
  refine gx_nil ?_
  refine gx_thenN ?_
  refine hK52 _ _ ?_
  refine gx_region ?_
  refine gx_k (.int .i64 x39) w45 ?_
  refine gx_nil ?_
  refine gx_thenN ?_
  refine ⟨[boxE w0.heap.size [.slice A0 p0.length c0] 22, rowE .u8 5 A11 c12 l33, boxE w9.heap.size [.slice A11 l33.length c12] 24], hS46, fun w47 hS53 => ?_⟩
  have hS53 : St _ _ w47 [objE l42 r44, boxE w0.heap.size [.slice A0 p0.length c0] 22, rowE .u8 5 A11 c12 l33, boxE w9.heap.size [.slice A11 l33.length c12] 24] := hS53
  refine gx_block ?_
  refine gd_start (fun w => St (feet [objE l42 r43, boxE w0.heap.size [.slice A0 p0.length c0] 22, rowE .u8 5 A11 c12 l33, boxE w9.heap.size [.slice A11 l33.length c12] 24]) w45 w [objE l42 r44, boxE w0.heap.size [.slice A0 p0.length c0] 22, boxE w9.heap.size [.slice A11 l33.length c12] 24]) 9 #[false, false, false, false, false, false, false, false, false] (by kernel_rfl) (by kernel_rfl) ?_
  have hS55 := hS53.drew
  generalize w47.drew = w54 at hS55 ⊢
  refine gu1 0 13 (.slice A11 l33.length c12) rfl (hS55.pick [0, 1, 3] rfl rfl) (fun w hSw => run_load1 rfl (by kernel_rfl) (fun _ => by kernel_rfl) (hSw.box 2 rfl 0 rfl)) ?_
  refine gv1 1 14 (.int .i64 x38) rfl (hS55.pick [0, 1, 3] rfl rfl) ?_
  refine gv1 2 15 (.int .i64 x39) rfl (hS55.pick [0, 1, 3] rfl rfl) ?_
  obtain ⟨l56, hx57, hL41⟩ := bind_in hL41
  obtain ⟨A58, c59, hA60⟩ := cut_is A11 (Int.toNat x38) (Int.toNat x39) c12
  rw [← cutx_len hx57] at hA60
  refine gu1 3 16 (.slice A58 l56.length c59) rfl (hS55.pick [0, 1, 3] rfl rfl) (fun w hSw => run_cut (TE := 5) (n := l33.length) (l := Int.toNat x38) (h := Int.toNat x39) (some (.int .i64 x38)) (some (.int .i64 x39)) rfl (by kernel_rfl) (by kernel_rfl) (by kernel_rfl) (by kernel_rfl) (fun _ => by kernel_rfl) (bnd_lh (cutx_in hx57).1 (cutx_in hx57).2.1 (Int.le_trans (cutx_in hx57).2.2.1 (by exact_mod_cast num_room (hS55.row 2 rfl).1))) hA60) ?_
  refine gu1 4 17 (.slice A0 p0.length c0) rfl (hS55.pick [0, 1, 3] rfl rfl) (fun w hSw => run_load1 rfl (by kernel_rfl) (fun _ => by kernel_rfl) (hSw.box 1 rfl 0 rfl)) ?_
  refine gv1 5 18 (.int .i64 x38) rfl (hS55.pick [0, 1, 3] rfl rfl) ?_
  refine gv1 6 19 (.int .i64 x39) rfl (hS55.pick [0, 1, 3] rfl rfl) ?_
  obtain ⟨l62, hx63, hL41⟩ := bind_in hL41
  obtain ⟨A64, c65, hA66⟩ := cut_is A0 (Int.toNat x38) (Int.toNat x39) c0
  rw [← cutx_len hx63] at hA66
  have hv67 := Vw.cut hv50 hx63 hA66
  refine gu1 7 20 (.slice A64 l62.length c65) rfl (hS55.pick [0, 1, 3] rfl rfl) (fun w hSw => run_cut (TE := 21) (n := p0.length) (l := Int.toNat x38) (h := Int.toNat x39) (some (.int .i64 x38)) (some (.int .i64 x39)) rfl (by kernel_rfl) (by kernel_rfl) (by kernel_rfl) (by kernel_rfl) (fun _ => by kernel_rfl) (bnd_lh (cutx_in hx63).1 (cutx_in hx63).2.1 (Int.le_trans (cutx_in hx63).2.2.1 (by exact_mod_cast num_room (hS55.view hv50)))) hA66) ?_
  have hS68 : St _ _ w54 [objE l42 r44, boxE w0.heap.size [.slice A0 p0.length c0] 22, pceE .u8 5 A11 c12 (List.take (Int.toNat x38) l33) (List.drop (Int.toNat x39) l33) l56, boxE w9.heap.size [.slice A11 l33.length c12] 24] := hS55.asE 2 rfl (pce_of hx57)
  have hP69 : St _ _ w54 ([pceE .u8 5 A11 c12 (List.take (Int.toNat x38) l33) (List.drop (Int.toNat x39) l33) l56] ++ [objE l42 r44, boxE w0.heap.size [.slice A0 p0.length c0] 22, boxE w9.heap.size [.slice A11 l33.length c12] 24]) := hS68.pick [2, 0, 1, 3] rfl rfl
  obtain ⟨l71, hc70, hL41⟩ := bind_in hL41
  try dsimp only at hL41
  refine gdC 8 { dst := some 21, op := _, type := _, pos := _, after := _, guard := _ } (pSet_R l56 l62 A11 c12 A58 c59 (List.take (Int.toNat x38) l33) (List.drop (Int.toNat x39) l33) A64 c65 l71 w54) rfl (by kernel_rfl) (pSet_ok N l56 l62 A11 c12 A58 c59 (List.take (Int.toNat x38) l33) (List.drop (Int.toNat x39) l33) A64 c65 _ hc70 w54 (pce_at hx57 hA60) (hP69.vwA hv67) hP69.part (MirB.atL hcd hP69)) ?_
  rintro _ w74 ⟨rfl, hT76, hl72⟩
  have hS75 : St _ _ w74 [objE l42 r44, boxE w0.heap.size [.slice A0 p0.length c0] 22, boxE w9.heap.size [.slice A11 l33.length c12] 24, pceE .u8 5 A11 c12 (List.take (Int.toNat x38) l33) (List.drop (Int.toNat x39) l33) l71] := hP69.lendN _ hT76
  obtain ⟨l73, hp77, hL41⟩ := bind_in hL41
  have hS78 : St _ _ w74 [objE l42 r44, boxE w0.heap.size [.slice A0 p0.length c0] 22, boxE w9.heap.size [.slice A11 l33.length c12] 24, rowE .u8 5 A11 c12 l73] := hS75.asE 3 rfl (pce_to hp77)
  refine ⟨(hS78.pick [0, 1, 2] rfl rfl), ?_⟩
  refine gd_done (by kernel_rfl) ?_
  have hS79 : St _ _ w74 [objE l42 r44, boxE w0.heap.size [.slice A0 p0.length c0] 22, boxE w9.heap.size [.slice A11 l73.length c12] 24, rowE .u8 5 A11 c12 l73] := (show [objE l42 r44, boxE w0.heap.size [.slice A0 p0.length c0] 22, boxE w9.heap.size [.slice A11 l33.length c12] 24, rowE .u8 5 A11 c12 l73] = [objE l42 r44, boxE w0.heap.size [.slice A0 p0.length c0] 22, boxE w9.heap.size [.slice A11 l73.length c12] 24, rowE .u8 5 A11 c12 l73] by rw [show l33.length = l73.length from (putx_len hx57 hl72 hp77).symm]) ▸ hS78
  refine gx_blkN ?_
  exact ⟨⟨[boxE w0.heap.size [.slice A0 p0.length c0] 22, rowE .u8 5 A11 c12 l73, boxE w9.heap.size [.slice A11 l73.length c12] 24], (hS79.pick [0, 1, 3, 2] rfl rfl), l73, hL41, rfl⟩⟩
 ·rintro D80 w81 _ ⟨l33, hL41, rfl⟩ hS82
  rw [pScripts_X1] at hL41
  obtain rfl := Option.some.inj hL41
  try dsimp only at hO36
  have hS82 : St _ _ w81 [objE D80 (.deferred (some [])), boxE w0.heap.size [.slice A0 p0.length c0] 22, rowE .u8 5 A11 c12 l33, boxE w9.heap.size [.slice A11 l33.length c12] 24, boxE g24 [.slice A0 p0.length c0] 22] := hS82
  refine gx_blkN ?_
  refine gx_thenN ?_
  refine hK18 _ _ ?_
  refine gx_seq (fun K83 hK84 => ?_)
  refine gx_region ?_
  refine gx_v (.slice A11 l33.length c12) w81 (run_load1 rfl (by kernel_rfl) (fun _ => by kernel_rfl) (hS82.box 3 rfl 0 rfl)) ?_
  refine gx_k (.slice A11 l33.length c12) w81 ?_
  refine gx_nil ?_
  refine gx_thenN ?_
  refine hK84 _ _ ?_
  refine gx_ret ?_
  obtain rfl := Option.some.inj hO36
  exact gx_finM1 (es := [rowE .u8 5 A11 c12 l33]) (.slice A11 l33.length c12) (by kernel_rfl) (hS82.pick [0, 2] rfl rfl) (fun w hS => ⟨by kernel_rfl, _, rfl, A11, c12, rfl, hS⟩)
 ·exact fun _ _ _ h => h.elim
end Go.Proofs.YtkcmemldhbifdaaDoor

namespace Go.Proofs.YtkcmemldhbifdaaDoor
open Go Go.RowKit
set_option linter.unusedVariables false
def encitemiseRun : Enc (Int × Int × Int × Int) := (pairE (intE .i64) (pairE (intE .i64) (pairE (intE .u8) (intE .u8))))
def pRuns_L2 (N : Nat) (p1 : List Int) (l33 : List Int) (x69 : Int) (x70 : Int) : Nat → (List (Int × Int × Int × Int)) → Int → Option (List (Int × Int × Int × Int))
 | 0, _, _ => none
 | k107+1, l105, x106 => (if x106 < x70 then (((((((if x106 = x69 then some (true) else ((ix p1 x106).bind fun x146 => ((ix p1 (IntKind.i64.wrap (x106 - 1))).bind fun x148 => (if x146 ≠ x148 then some (true) else some (false))))) : Option (Bool)).bind fun b139 => (match b139 with | true => some (true) | false => ((ix l33 x106).bind fun x151 => ((ix l33 (IntKind.i64.wrap (x106 - 1))).bind fun x153 => (if x151 ≠ x153 then some (true) else some (false)))))) : Option (Bool)).bind fun b130 => (match b130 with | true => ((ix p1 x106).bind fun x158 => ((ix l33 x106).bind fun x160 => ((apg l105 ([(x106, 0, x158, x160)] : List (Int × Int × Int × Int))).bind fun l165 => some (l165)))) | false => some (l105))) : Option (List (Int × Int × Int × Int))).bind fun l123 => ((ixg l123 (IntKind.i64.wrap (((l123.length : Nat) : Int) - 1))).bind fun x176 => ((setg l123 (IntKind.i64.wrap (((l123.length : Nat) : Int) - 1)) (x176.1, (IntKind.i64.wrap (x106 + 1)), x176.2.2.1, x176.2.2.2)).bind fun l197 => pRuns_L2 N p1 l33 x69 x70 k107 l197 (IntKind.i64.wrap (x106 + 1))))) else some (l105))
def pRuns_X1 (N : Nat) (p1 : List Int) (l33 : List Int) : List (Int × Int) → (List (Int × Int × Int × Int)) → Option (List (Int × Int × Int × Int))
 | [], l62 => some (l62)
 | (x69, x70) :: its71, l62 => ((pRuns_L2 N p1 l33 x69 x70 N l62 x69 : Option (List (Int × Int × Int × Int))).bind fun l94 => pRuns_X1 N p1 l33 its71 l94)
def pRuns (N : Nat) (p0 : List Int) (p1 : List Int) : Option (List (Int × Int × Int × Int) × Int) :=
 (if ((p0.length : Nat) : Int) > 65536 then some (([] : List (Int × Int × Int × Int)), 3) else (if ((p1.length : Nat) : Int) ≠ ((p0.length : Nat) : Int) then some (([] : List (Int × Int × Int × Int)), 2) else ((pScripts N p0).bind fun l33 => ((pParts1 N p0).bind fun its51 => ((pRuns_X1 N p1 l33 its51 ([] : List (Int × Int × Int × Int))).bind fun l62 => some (l62, 0))))))
set_option linter.unusedVariables false in
def pRuns_R (r : List (Int × Int × Int × Int) × Int) (w0 : World) (v : Value) (w : World) : Prop := ∃ (A0' : Option Addr) (c0' : Nat) (vs0' : List Value) (ft' : List Nat), v = .tuple #[.slice A0' r.1.length c0', .int .i64 r.2] ∧ St [] w0 w [rowG 35 4 (.slice A0' r.1.length c0') r.1.length vs0', poolE ft' w] ∧ (fEach encitemiseRun vs0' r.1).rd w ft'
set_option maxRecDepth 100000 in
set_option maxHeartbeats 4000000 in
theorem pRuns_ok (N : Nat) (p0 : List Int) (p1 : List Int) (A0 : Option Addr) (c0 : Nat) (A1 : Option Addr) (c1 : Nat) (r : List (Int × Int × Int × Int) × Int) (hF : pRuns N p0 p1 = some r) (w0 : World) (hv0 : Vw [] .i32 w0 A0 c0 p0) (hv1 : Vw [] .u8 w0 A1 c1 p1) (hcd : MirB [] w0) :
  Calls Tryd.prog 11 #[.slice A0 p0.length c0, .slice A1 p1.length c1] w0 fun e w => ∃ v, e = .returned v ∧ pRuns_R r w0 v w := by
 have hS0 := (St.start w0).pool0
 unfold pRuns at hF
 refine calls_ofM Tryd.func11 rfl ⟨((.slice A0 p0.length c0) :: (.slice A1 p1.length c1) :: un 78 ([])).toArray, []⟩ (by kernel_rfl) ?_
 refine gx_seq (fun K1 hK2 => ?_)
 refine gx_region ?_
 refine gx_r (st_boxed [.slice A1 p1.length c1] 24 hS0 (by kernel_rfl)) ?_
 rintro _ w3 ⟨rfl, hS4⟩
 have hS4 : St _ _ w3 [poolE ([]) w0, boxE w0.heap.size [.slice A1 p1.length c1] 24] := hS4
 refine gx_k (.slice none 0 0) w3 (gx_k (.int .i64 0) w3 ?_)
 refine gx_nil ?_
 refine gx_thenN ?_
 refine hK2 _ _ ?_
 refine gx_seq (fun K5 hK6 => ?_)
 refine gx_seq (fun K7 hK8 => ?_)
 refine gx_region ?_
 refine gx_k (.slice A0 p0.length c0) w3 (gx_k (.int .i64 ((p0.length : Nat) : Int)) w3 ?_)
 rcases if_in hF with ⟨h9, hF⟩ | ⟨h9, hF⟩
 ·refine gx_v (.bool true) w3 (run_boolE (decide_eq_true h9) (by kernel_rfl)) ?_
  refine gx_nil ?_
  refine gx_thenN ?_
  refine hK8 _ _ ?_
  refine gx_yes (by kernel_rfl) ?_
  refine gx_seq (fun K10 hK11 => ?_)
  refine gx_region ?_
  refine gx_k (.slice none 0 0) w3 (gx_k (.int .i64 3) w3 ?_)
  refine gx_nil ?_
  refine gx_thenN ?_
  refine hK11 _ _ ?_
  refine gx_ret ?_
  refine gx_thenR ?_
  have hS12 : St _ _ w3 [poolE ([]) w0, boxE w0.heap.size [.slice A1 p1.length c1] 24, rowG 35 4 (.slice none (([] : List (Int × Int × Int × Int)).length) 0) (([] : List (Int × Int × Int × Int)).length) ([])] := hS4.nilrowN 35 4
  have hf13 : (fEach encitemiseRun [] []).rd w0 ([]) := each_nil
  have hS14 : St _ _ w3 [poolE ([]) w3, boxE w0.heap.size [.slice A1 p1.length c1] 24, rowG 35 4 (.slice none (([] : List (Int × Int × Int × Int)).length) 0) (([] : List (Int × Int × Int × Int)).length) ([])] := hS12.renew 0 rfl
  obtain rfl := Option.some.inj hF
  exact gx_finM0 (.tuple #[.slice none (([] : List (Int × Int × Int × Int)).length) 0, .int .i64 3]) (by kernel_rfl) (by kernel_rfl) ⟨_, rfl, none, 0, ([]), ([]), rfl, (hS14.pick [2, 0] rfl rfl), (hS12.now 0 rfl hf13)⟩
 ·refine gx_v (.bool false) w3 (run_boolE (decide_eq_false h9) (by kernel_rfl)) ?_
  refine gx_nil ?_
  refine gx_thenN ?_
  refine hK8 _ _ ?_
  refine gx_no (by kernel_rfl) ?_
  refine gx_pass ?_
  refine gx_thenN ?_
  refine hK6 _ _ ?_
  refine gx_seq (fun K15 hK16 => ?_)
  refine gx_seq (fun K17 hK18 => ?_)
  refine gx_region ?_
  refine gx_v (.slice A1 p1.length c1) w3 (run_load1 rfl (by kernel_rfl) (fun _ => by kernel_rfl) (hS4.box 1 rfl 0 rfl)) ?_
  refine gx_k (.int .i64 ((p1.length : Nat) : Int)) w3 (gx_k (.slice A0 p0.length c0) w3 (gx_k (.int .i64 ((p0.length : Nat) : Int)) w3 ?_))
  rcases if_in hF with ⟨h19, hF⟩ | ⟨h19, hF⟩
  ·refine gx_v (.bool true) w3 (run_boolE (ne_yes h19) (by kernel_rfl)) ?_
   refine gx_nil ?_
   refine gx_thenN ?_
   refine hK18 _ _ ?_
   refine gx_yes (by kernel_rfl) ?_
   refine gx_seq (fun K20 hK21 => ?_)
   refine gx_region ?_
   refine gx_k (.slice none 0 0) w3 (gx_k (.int .i64 2) w3 ?_)
   refine gx_nil ?_
   refine gx_thenN ?_
   refine hK21 _ _ ?_
   refine gx_ret ?_
   refine gx_thenR ?_
   have hS22 : St _ _ w3 [poolE ([]) w0, boxE w0.heap.size [.slice A1 p1.length c1] 24, rowG 35 4 (.slice none (([] : List (Int × Int × Int × Int)).length) 0) (([] : List (Int × Int × Int × Int)).length) ([])] := hS4.nilrowN 35 4
   have hf23 : (fEach encitemiseRun [] []).rd w0 ([]) := each_nil
   have hS24 : St _ _ w3 [poolE ([]) w3, boxE w0.heap.size [.slice A1 p1.length c1] 24, rowG 35 4 (.slice none (([] : List (Int × Int × Int × Int)).length) 0) (([] : List (Int × Int × Int × Int)).length) ([])] := hS22.renew 0 rfl
   obtain rfl := Option.some.inj hF
   exact gx_finM0 (.tuple #[.slice none (([] : List (Int × Int × Int × Int)).length) 0, .int .i64 2]) (by kernel_rfl) (by kernel_rfl) ⟨_, rfl, none, 0, ([]), ([]), rfl, (hS24.pick [2, 0] rfl rfl), (hS22.now 0 rfl hf23)⟩
  ·refine gx_v (.bool false) w3 (run_boolE (ne_no h19) (by kernel_rfl)) ?_
   refine gx_nil ?_
   refine gx_thenN ?_
   refine hK18 _ _ ?_
   refine gx_no (by kernel_rfl) ?_
   refine gx_pass ?_
   refine gx_thenN ?_
   refine hK16 _ _ ?_
   refine gx_seq (fun K25 hK26 => ?_)
   refine gx_region ?_
   refine gx_r (st_boxed [.slice none 0 0] 27 hS4 (by kernel_rfl)) ?_
   rintro _ w27 ⟨rfl, hS28⟩
   have hS28 : St _ _ w27 [poolE ([]) w0, boxE w0.heap.size [.slice A1 p1.length c1] 24, boxE w3.heap.size [.slice none 0 0] 27] := hS28
   refine gx_nil ?_
   refine gx_thenN ?_
   refine hK26 _ _ ?_
   refine gx_seq (fun K29 hK30 => ?_)
   refine gx_region ?_
   refine gx_k (.slice A0 p0.length c0) w27 ?_
   have hP31 : St _ _ w27 ([] ++ [poolE ([]) w0, boxE w0.heap.size [.slice A1 p1.length c1] 24, boxE w3.heap.size [.slice none 0 0] 27]) := hS28
   obtain ⟨l33, hc32, hF⟩ := bind_in hF
   try dsimp only at hF
   refine gx_c (pScripts_R l33 w27) (pScripts_ok N p0 A0 c0 _ hc32 w27 (hP31.vwA hv0) (MirB.atL hcd hP31)) ?_
   rintro _ w36 ⟨A34, c35, rfl, hT38⟩
   have hS37 : St _ _ w36 [poolE ([]) w0, boxE w0.heap.size [.slice A1 p1.length c1] 24, boxE w3.heap.size [.slice none 0 0] 27, rowE .u8 5 A34 c35 l33] := hS28.take _ hT38
   refine gx_r (st_boxed [.slice none 0 0] 24 hS37 (by kernel_rfl)) ?_
   rintro _ w39 ⟨rfl, hS40⟩
   have hS40 : St _ _ w39 [poolE ([]) w0, boxE w0.heap.size [.slice A1 p1.length c1] 24, boxE w3.heap.size [.slice none 0 0] 27, rowE .u8 5 A34 c35 l33, boxE w36.heap.size [.slice none 0 0] 24] := hS40
   refine gx_s (st_store (j := 0) (v := (.slice A34 l33.length c35)) rfl (by kernel_rfl) (by kernel_rfl) rfl (fun _ => by kernel_rfl) hS40 4 rfl (by show 0 < 1; decide)) ?_
   rintro w41 hS42
   have hS42 : St _ _ w41 [poolE ([]) w0, boxE w0.heap.size [.slice A1 p1.length c1] 24, boxE w3.heap.size [.slice none 0 0] 27, rowE .u8 5 A34 c35 l33, boxE w36.heap.size [.slice A34 l33.length c35] 24] := hS42
   refine gx_nil ?_
   refine gx_thenN ?_
   refine hK30 _ _ ?_
   refine gx_seq (fun K43 hK44 => ?_)
   refine gx_seq (fun K45 hK46 => ?_)
   refine gx_region ?_
   refine gx_k (.slice A0 p0.length c0) w41 ?_
   refine gx_c (pParts_R A0 p0.length c0 () w41) (pParts_ok N  A0 p0.length c0 _ rfl w41) ?_
   rintro _ w47 ⟨g50, rfl, hT49⟩
   have hS48 : St _ _ w47 [poolE ([]) w0, boxE w0.heap.size [.slice A1 p1.length c1] 24, boxE w3.heap.size [.slice none 0 0] 27, rowE .u8 5 A34 c35 l33, boxE w36.heap.size [.slice A34 l33.length c35] 24, boxE g50 [.slice A0 p0.length c0] 22] := hS42.take _ hT49
   refine gx_nil ?_
   refine gx_thenN ?_
   refine hK46 _ _ ?_
   refine gx_block ?_
   obtain ⟨its51, hi54, hF⟩ := bind_in hF
   have hS53 : St _ _ w47 ([poolE ([]) w0, boxE w0.heap.size [.slice A1 p1.length c1] 24, boxE w3.heap.size [.slice none 0 0] 27, rowE .u8 5 A34 c35 l33, boxE w36.heap.size [.slice A34 l33.length c35] 24] ++ [boxE g50 [.slice A0 p0.length c0] 22]) := hS48.pick [0, 1, 2, 3, 4, 5] rfl rfl
   have hit52 := pParts1_iter N p0 _ hi54 g50 A0 c0 hv0.nn
   have hS63 : St _ _ w47 [poolE ([]) w0, boxE w0.heap.size [.slice A1 p1.length c1] 24, boxE w3.heap.size [.slice none 0 0] 27, rowE .u8 5 A34 c35 l33, boxE w36.heap.size [.slice A34 l33.length c35] 24, boxE g50 [.slice A0 p0.length c0] 22, rowG 35 4 (.slice none (([] : List (Int × Int × Int × Int)).length) 0) (([] : List (Int × Int × Int × Int)).length) ([])] := hS53.nilrowN 35 4
   have hf64 : (fEach encitemiseRun [] []).rd w0 ([]) := each_nil
   have hS68 : St _ _ w47 ([poolE ([]) w0, boxE w0.heap.size [.slice A1 p1.length c1] 24, rowG 35 4 (.slice none (([] : List (Int × Int × Int × Int)).length) 0) (([] : List (Int × Int × Int × Int)).length) ([]), boxE w3.heap.size [.slice none (([] : List (Int × Int × Int × Int)).length) 0] 27, rowE .u8 5 A34 c35 l33, boxE w36.heap.size [.slice A34 l33.length c35] 24] ++ [boxE g50 [.slice A0 p0.length c0] 22]) := hS63.pick [0, 1, 6, 2, 3, 4, 5] rfl rfl
   obtain ⟨c65, hE66, hO67⟩ := bind_in hF
   refine gx_rangeV (v := .func (.func 27) #[] #[.pointer (some ⟨g50, 0, none⟩)]) (enc := encint_int) (items := its51) (kp := (pParts1_kp g50 A0 c0 p0)) (es := [poolE ([]) w0, boxE w0.heap.size [.slice A1 p1.length c1] 24, rowG 35 4 (.slice none (([] : List (Int × Int × Int × Int)).length) 0) (([] : List (Int × Int × Int × Int)).length) ([]), boxE w3.heap.size [.slice none (([] : List (Int × Int × Int × Int)).length) 0] 27, rowE .u8 5 A34 c35 l33, boxE w36.heap.size [.slice A34 l33.length c35] 24]) (ks := [boxE g50 [.slice A0 p0.length c0] 22]) (by kernel_rfl) hit52 (fun ⟨_, _⟩ => rfl) hS68 (fun rest es => ∃ (l62 : List (Int × Int × Int × Int)) (A58 : Option Addr) (c59 : Nat) (vs60 : List Value), pRuns_X1 N p1 l33 rest l62 = some c65 ∧ es = [poolE ([]) w0, boxE w0.heap.size [.slice A1 p1.length c1] 24, rowG 35 4 (.slice A58 l62.length c59) l62.length vs60, boxE w3.heap.size [.slice A58 l62.length c59] 27, rowE .u8 5 A34 c35 l33, boxE w36.heap.size [.slice A34 l33.length c35] 24] ∧ (fEach encitemiseRun vs60 l62).rd w0 ([])) (fun _ => False) (fun W es _ h => ⟨((fun e he => (h.holds e he).1) (boxE g50 [.slice A0 p0.length c0] 22) (by simp)), (h.view hv0)⟩) .skip ⟨([] : List (Int × Int × Int × Int)), none, 0, ([]), hE66, rfl, hf64⟩ ?_ ?_ ?_
   ·rintro l73 r74 r75 ⟨x69, x70⟩ its71 w76 _ ⟨l62, A58, c59, vs60, hL72, rfl, hf61⟩ D79 hP80
    rw [pRuns_X1] at hL72
    have hcd := MirB.atL hcd hP80
    have hv81 := hP80.vwR hv1
    have hS77 : St (feet [objE l73 r74, poolE ([]) w0, boxE w0.heap.size [.slice A1 p1.length c1] 24, rowG 35 4 (.slice A58 l62.length c59) l62.length vs60, boxE w3.heap.size [.slice A58 l62.length c59] 27, rowE .u8 5 A34 c35 l33, boxE w36.heap.size [.slice A34 l33.length c35] 24]) w76 w76 [objE l73 r74, poolE ([]) w0, boxE w0.heap.size [.slice A1 p1.length c1] 24, rowG 35 4 (.slice A58 l62.length c59) l62.length vs60, boxE w3.heap.size [.slice A58 l62.length c59] 27, rowE .u8 5 A34 c35 l33, boxE w36.heap.size [.slice A34 l33.length c35] 24] := hP80.feetP
    refine gx_act ⟨((.slice A0 p0.length c0) :: (.slice A1 p1.length c1) :: undef :: (.pointer (some ⟨w0.heap.size, 0, none⟩)) :: (.slice none 0 0) :: (.int .i64 0) :: (.pointer (some ⟨w3.heap.size, 0, none⟩)) :: (.pointer (some ⟨w36.heap.size, 0, none⟩)) :: un 3 ((.slice A0 p0.length c0) :: (.int .i64 ((p0.length : Nat) : Int)) :: (.bool false) :: (.slice A1 p1.length c1) :: (.int .i64 ((p1.length : Nat) : Int)) :: (.slice A0 p0.length c0) :: (.int .i64 ((p0.length : Nat) : Int)) :: (.bool false) :: (.slice A0 p0.length c0) :: (.slice A34 l33.length c35) :: (.slice A0 p0.length c0) :: (.func (.func 27) #[] #[.pointer (some ⟨g50, 0, none⟩)]) :: (.int .i64 x69) :: (.int .i64 x70) :: un 55 ([]))).toArray, []⟩ (by kernel_rfl) ?_
    refine gx_seq (fun K82 hK83 => ?_)
    refine gx_region ?_
    refine gx_k (.int .i64 x69) w76 ?_
    refine gx_nil ?_
    refine gx_thenN ?_
    refine hK83 _ _ ?_
    refine gx_region ?_
    refine gx_k (.int .i64 x70) w76 ?_
    refine gx_nil ?_
    refine gx_thenN ?_
    refine ⟨[poolE ([]) w0, boxE w0.heap.size [.slice A1 p1.length c1] 24, rowG 35 4 (.slice A58 l62.length c59) l62.length vs60, boxE w3.heap.size [.slice A58 l62.length c59] 27, rowE .u8 5 A34 c35 l33, boxE w36.heap.size [.slice A34 l33.length c35] 24], hS77, fun w78 hS84 => ?_⟩
    have hS84 : St _ _ w78 [objE l73 r75, poolE ([]) w0, boxE w0.heap.size [.slice A1 p1.length c1] 24, rowG 35 4 (.slice A58 l62.length c59) l62.length vs60, boxE w3.heap.size [.slice A58 l62.length c59] 27, rowE .u8 5 A34 c35 l33, boxE w36.heap.size [.slice A34 l33.length c35] 24] := hS84
    refine gx_block ?_
    refine gx_seq (fun K85 hK86 => ?_)
    refine gx_region ?_
    refine gx_k (.int .i64 x69) w78 (gx_k (.int .i64 x69) w78 ?_)
    refine gx_nil ?_
    refine gx_thenN ?_
    refine hK86 _ _ ?_
    obtain ⟨c95, hE96, hO97⟩ := bind_in hL72
    refine gx_mid (fun a w => ∃ (l94 : List (Int × Int × Int × Int)) (A90 : Option Addr) (c91 : Nat) (vs92 : List Value), selfA (fun u89 => ⟨((.slice A0 p0.length c0) :: (.slice A1 p1.length c1) :: undef :: (.pointer (some ⟨w0.heap.size, 0, none⟩)) :: (.slice none 0 0) :: (.int .i64 0) :: (.pointer (some ⟨w3.heap.size, 0, none⟩)) :: (.pointer (some ⟨w36.heap.size, 0, none⟩)) :: (.int .i64 x69) :: (.int .i64 x70) :: (u89 10) :: (.slice A0 p0.length c0) :: (.int .i64 ((p0.length : Nat) : Int)) :: (.bool false) :: (.slice A1 p1.length c1) :: (.int .i64 ((p1.length : Nat) : Int)) :: (.slice A0 p0.length c0) :: (.int .i64 ((p0.length : Nat) : Int)) :: (.bool false) :: (.slice A0 p0.length c0) :: (.slice A34 l33.length c35) :: (.slice A0 p0.length c0) :: (.func (.func 27) #[] #[.pointer (some ⟨g50, 0, none⟩)]) :: (.int .i64 x69) :: (.int .i64 x70) :: (.int .i64 x69) :: dd u89 26 53 (undef :: [])).toArray, []⟩) a ∧ l94 = c95 ∧ St (feet [objE l73 r74, poolE ([]) w0, boxE w0.heap.size [.slice A1 p1.length c1] 24, rowG 35 4 (.slice A58 l62.length c59) l62.length vs60, boxE w3.heap.size [.slice A58 l62.length c59] 27, rowE .u8 5 A34 c35 l33, boxE w36.heap.size [.slice A34 l33.length c35] 24]) w76 w [poolE ([]) w0, objE l73 r75, boxE w0.heap.size [.slice A1 p1.length c1] 24, rowG 35 4 (.slice A90 l94.length c91) l94.length vs92, boxE w3.heap.size [.slice A90 l94.length c91] 27, rowE .u8 5 A34 c35 l33, boxE w36.heap.size [.slice A34 l33.length c35] 24] ∧ (fEach encitemiseRun vs92 l94).rd w0 ([])) ?_ ?_
    ·refine gx_block ?_
     refine gx_loop (fun k a w => ∃ (l105 : List (Int × Int × Int × Int)) (x106 : Int) (A101 : Option Addr) (c102 : Nat) (vs103 : List Value), selfA (fun u100 => ⟨((.slice A0 p0.length c0) :: (.slice A1 p1.length c1) :: undef :: (.pointer (some ⟨w0.heap.size, 0, none⟩)) :: (.slice none 0 0) :: (.int .i64 0) :: (.pointer (some ⟨w3.heap.size, 0, none⟩)) :: (.pointer (some ⟨w36.heap.size, 0, none⟩)) :: (.int .i64 x69) :: (.int .i64 x70) :: (.int .i64 x106) :: (.slice A0 p0.length c0) :: (.int .i64 ((p0.length : Nat) : Int)) :: (.bool false) :: (.slice A1 p1.length c1) :: (.int .i64 ((p1.length : Nat) : Int)) :: (.slice A0 p0.length c0) :: (.int .i64 ((p0.length : Nat) : Int)) :: (.bool false) :: (.slice A0 p0.length c0) :: (.slice A34 l33.length c35) :: (.slice A0 p0.length c0) :: (.func (.func 27) #[] #[.pointer (some ⟨g50, 0, none⟩)]) :: (.int .i64 x69) :: (.int .i64 x70) :: (.int .i64 x69) :: dd u100 26 53 (undef :: [])).toArray, []⟩) a ∧ pRuns_L2 N p1 l33 x69 x70 k l105 x106 = some c95 ∧ St (feet [objE l73 r74, poolE ([]) w0, boxE w0.heap.size [.slice A1 p1.length c1] 24, rowG 35 4 (.slice A58 l62.length c59) l62.length vs60, boxE w3.heap.size [.slice A58 l62.length c59] 27, rowE .u8 5 A34 c35 l33, boxE w36.heap.size [.slice A34 l33.length c35] 24]) w76 w [poolE ([]) w0, objE l73 r75, boxE w0.heap.size [.slice A1 p1.length c1] 24, rowG 35 4 (.slice A101 l105.length c102) l105.length vs103, boxE w3.heap.size [.slice A101 l105.length c102] 27, rowE .u8 5 A34 c35 l33, boxE w36.heap.size [.slice A34 l33.length c35] 24] ∧ (fEach encitemiseRun vs103 l105).rd w0 ([])) N ?_ ?_
     ·exact ⟨l62, x69, A58, c59, vs60, selfA_i (by kernel_rfl), hE96, (hS84.pick [1, 0, 2, 3, 4, 5, 6] rfl rfl), hf61⟩
     ·rintro k107 _ w98 ⟨l105, x106, A101, c102, vs103, hq206, hL108, hS99, hf104⟩
      obtain ⟨u100, rfl⟩ := selfA_u hq206
      cases k107 with
      | zero => cases hL108
      | succ k107 =>
       first | rw [pRuns_L2] at hL108 | unfold pRuns_L2 at hL108
       refine gx_seq (fun K109 hK110 => ?_)
       refine gx_seq (fun K111 hK112 => ?_)
       refine gx_region ?_
       refine gx_k (.int .i64 x106) w98 (gx_k (.int .i64 x70) w98 ?_)
       rcases if_in hL108 with ⟨h113, hL108⟩ | ⟨h113, hL108⟩
       ·refine gx_v (.bool true) w98 (run_boolE (decide_eq_true h113) (by kernel_rfl)) ?_
        refine gx_nil ?_
        refine gx_thenN ?_
        refine hK112 _ _ ?_
        refine gx_yes (by kernel_rfl) ?_
        refine gx_pass ?_
        refine gx_thenN ?_
        refine hK110 _ _ ?_
        refine gx_seq (fun K114 hK115 => ?_)
        refine gx_block ?_
        obtain ⟨c124, hE125, hO126⟩ := bind_in hL108
        refine gx_cut (fun a w => ∃ (l123 : List (Int × Int × Int × Int)) (A119 : Option Addr) (c120 : Nat) (vs121 : List Value), selfA (fun u118 => ⟨((.slice A0 p0.length c0) :: (.slice A1 p1.length c1) :: undef :: (.pointer (some ⟨w0.heap.size, 0, none⟩)) :: (.slice none 0 0) :: (.int .i64 0) :: (.pointer (some ⟨w3.heap.size, 0, none⟩)) :: (.pointer (some ⟨w36.heap.size, 0, none⟩)) :: (.int .i64 x69) :: (.int .i64 x70) :: (.int .i64 x106) :: (.slice A0 p0.length c0) :: (.int .i64 ((p0.length : Nat) : Int)) :: (.bool false) :: (.slice A1 p1.length c1) :: (.int .i64 ((p1.length : Nat) : Int)) :: (.slice A0 p0.length c0) :: (.int .i64 ((p0.length : Nat) : Int)) :: (.bool false) :: (.slice A0 p0.length c0) :: (.slice A34 l33.length c35) :: (.slice A0 p0.length c0) :: (.func (.func 27) #[] #[.pointer (some ⟨g50, 0, none⟩)]) :: (.int .i64 x69) :: (.int .i64 x70) :: (.int .i64 x69) :: (.int .i64 x106) :: (.int .i64 x70) :: (.bool true) :: dd u100 29 2 (dd u118 31 40 (dd u100 71 8 (undef :: [])))).toArray, []⟩) a ∧ l123 = c124 ∧ St (feet [objE l73 r74, poolE ([]) w0, boxE w0.heap.size [.slice A1 p1.length c1] 24, rowG 35 4 (.slice A58 l62.length c59) l62.length vs60, boxE w3.heap.size [.slice A58 l62.length c59] 27, rowE .u8 5 A34 c35 l33, boxE w36.heap.size [.slice A34 l33.length c35] 24]) w76 w [poolE ([]) w0, objE l73 r75, boxE w0.heap.size [.slice A1 p1.length c1] 24, rowG 35 4 (.slice A119 l123.length c120) l123.length vs121, boxE w3.heap.size [.slice A119 l123.length c120] 27, rowE .u8 5 A34 c35 l33, boxE w36.heap.size [.slice A34 l33.length c35] 24] ∧ (fEach encitemiseRun vs121 l123).rd w0 ([])) ?_ ?_
        ·obtain ⟨c131, hE132, hO133⟩ := bind_in hE125
         refine gx_cut (fun a w => ∃ (b130 : Bool), selfA (fun u129 => ⟨((.slice A0 p0.length c0) :: (.slice A1 p1.length c1) :: undef :: (.pointer (some ⟨w0.heap.size, 0, none⟩)) :: (.slice none 0 0) :: (.int .i64 0) :: (.pointer (some ⟨w3.heap.size, 0, none⟩)) :: (.pointer (some ⟨w36.heap.size, 0, none⟩)) :: (.int .i64 x69) :: (.int .i64 x70) :: (.int .i64 x106) :: (.slice A0 p0.length c0) :: (.int .i64 ((p0.length : Nat) : Int)) :: (.bool false) :: (.slice A1 p1.length c1) :: (.int .i64 ((p1.length : Nat) : Int)) :: (.slice A0 p0.length c0) :: (.int .i64 ((p0.length : Nat) : Int)) :: (.bool false) :: (.slice A0 p0.length c0) :: (.slice A34 l33.length c35) :: (.slice A0 p0.length c0) :: (.func (.func 27) #[] #[.pointer (some ⟨g50, 0, none⟩)]) :: (.int .i64 x69) :: (.int .i64 x70) :: (.int .i64 x69) :: (.int .i64 x106) :: (.int .i64 x70) :: (.bool true) :: dd u100 29 2 (dd u129 31 26 ((.bool b130) :: dd u100 58 21 (undef :: [])))).toArray, []⟩) a ∧ b130 = c131 ∧ St (feet [objE l73 r74, poolE ([]) w0, boxE w0.heap.size [.slice A1 p1.length c1] 24, rowG 35 4 (.slice A58 l62.length c59) l62.length vs60, boxE w3.heap.size [.slice A58 l62.length c59] 27, rowE .u8 5 A34 c35 l33, boxE w36.heap.size [.slice A34 l33.length c35] 24]) w76 w [poolE ([]) w0, objE l73 r75, boxE w0.heap.size [.slice A1 p1.length c1] 24, rowG 35 4 (.slice A101 l105.length c102) l105.length vs103, boxE w3.heap.size [.slice A101 l105.length c102] 27, rowE .u8 5 A34 c35 l33, boxE w36.heap.size [.slice A34 l33.length c35] 24]) ?_ ?_
         ·refine gd_start (fun w => St (feet [objE l73 r74, poolE ([]) w0, boxE w0.heap.size [.slice A1 p1.length c1] 24, rowG 35 4 (.slice A58 l62.length c59) l62.length vs60, boxE w3.heap.size [.slice A58 l62.length c59] 27, rowE .u8 5 A34 c35 l33, boxE w36.heap.size [.slice A34 l33.length c35] 24]) w76 w [poolE ([]) w0, objE l73 r75, boxE w0.heap.size [.slice A1 p1.length c1] 24, rowG 35 4 (.slice A101 l105.length c102) l105.length vs103, boxE w3.heap.size [.slice A101 l105.length c102] 27, rowE .u8 5 A34 c35 l33, boxE w36.heap.size [.slice A34 l33.length c35] 24]) 27 #[false, false, false, false, false, false, false, false, false, false, false, false, false, false, false, false, false, false, false, false, false, false, false, false, false, false, false] (by kernel_rfl) (by kernel_rfl) ?_
          have hS135 := hS99.drew
          generalize w98.drew = w134 at hS135 ⊢
          refine gv1 0 31 (.int .i64 x106) rfl hS135 ?_
          refine gv1 1 32 (.int .i64 x69) rfl hS135 ?_
          obtain ⟨c140, hE141, hO142⟩ := bind_in hE132
          refine gd_mid (fun a w => ∃ (b139 : Bool), selfA (fun u138 => ⟨((.slice A0 p0.length c0) :: (.slice A1 p1.length c1) :: undef :: (.pointer (some ⟨w0.heap.size, 0, none⟩)) :: (.slice none 0 0) :: (.int .i64 0) :: (.pointer (some ⟨w3.heap.size, 0, none⟩)) :: (.pointer (some ⟨w36.heap.size, 0, none⟩)) :: (.int .i64 x69) :: (.int .i64 x70) :: (.int .i64 x106) :: (.slice A0 p0.length c0) :: (.int .i64 ((p0.length : Nat) : Int)) :: (.bool false) :: (.slice A1 p1.length c1) :: (.int .i64 ((p1.length : Nat) : Int)) :: (.slice A0 p0.length c0) :: (.int .i64 ((p0.length : Nat) : Int)) :: (.bool false) :: (.slice A0 p0.length c0) :: (.slice A34 l33.length c35) :: (.slice A0 p0.length c0) :: (.func (.func 27) #[] #[.pointer (some ⟨g50, 0, none⟩)]) :: (.int .i64 x69) :: (.int .i64 x70) :: (.int .i64 x69) :: (.int .i64 x106) :: (.int .i64 x70) :: (.bool true) :: dd u100 29 2 ((.int .i64 x106) :: (.int .i64 x69) :: dd u138 33 12 ((.bool b139) :: dd u100 46 33 (undef :: [])))).toArray, []⟩) a ∧ b139 = c140 ∧ St (feet [objE l73 r74, poolE ([]) w0, boxE w0.heap.size [.slice A1 p1.length c1] 24, rowG 35 4 (.slice A58 l62.length c59) l62.length vs60, boxE w3.heap.size [.slice A58 l62.length c59] 27, rowE .u8 5 A34 c35 l33, boxE w36.heap.size [.slice A34 l33.length c35] 24]) w76 w [poolE ([]) w0, objE l73 r75, boxE w0.heap.size [.slice A1 p1.length c1] 24, rowG 35 4 (.slice A101 l105.length c102) l105.length vs103, boxE w3.heap.size [.slice A101 l105.length c102] 27, rowE .u8 5 A34 c35 l33, boxE w36.heap.size [.slice A34 l33.length c35] 24]) 12 #[true, true, true, true, true, true, true, true, true, true, true, true, true, true, true, false, false, false, false, false, false, false, false, false, false, false, false] ?_ ?_
          ·rintro _ w136 ⟨b139, hq143, rfl, hS137⟩
           obtain ⟨u138, rfl⟩ := selfA_u hq143
           try dsimp only at hO142
           refine gv1 15 46 (.bool b139) rfl hS137 ?_
           cases b139 with
           | true =>
            try dsimp only at hO142
            refine gz1 16 47 rfl hS137 ?_
            refine gz1 17 48 rfl hS137 ?_
            refine gz1 18 49 rfl hS137 ?_
            refine gz1 19 50 rfl hS137 ?_
            refine gz1 20 51 rfl hS137 ?_
            refine gz1 21 52 rfl hS137 ?_
            refine gz1 22 53 rfl hS137 ?_
            refine gz1 23 54 rfl hS137 ?_
            refine gz1 24 55 rfl hS137 ?_
            refine gz1 25 56 rfl hS137 ?_
            refine gv1 26 57 (.bool true) rfl hS137 ?_
            refine gd_done (by kernel_rfl) ?_
            refine gx_thenN ?_
            exact ⟨true, selfA_i (by kernel_rfl), (Option.some.inj hO142), hS137⟩
           | false =>
            try dsimp only at hO142
            refine gu1 16 47 (.slice A34 l33.length c35) rfl hS137 (fun w hSw => run_load1 rfl (by kernel_rfl) (fun _ => by kernel_rfl) (hSw.box 6 rfl 0 rfl)) ?_
            refine gv1 17 48 (.int .i64 x106) rfl hS137 ?_
            obtain ⟨x151, hx152, hO142⟩ := bind_in hO142
            refine gu1 18 49 (.pointer (Option.map (fun (p : Addr) => p.add (Int.toNat x106 * 1)) A34)) rfl hS137 (fun w hSw => run_ixaddr (E := 5) (s := 1) (k := .i64) (c := c35) rfl (by kernel_rfl) (by kernel_rfl) (by kernel_rfl) (fun _ => by kernel_rfl) (ix_in hx152).1 (ix_in hx152).2.1 (num_nil (hS137.row 5 rfl).1)) ?_
            refine gu1 19 50 (.int .u8 x151) rfl hS137 (fun w hSw => run_loadix rfl (by kernel_rfl) (fun _ => by kernel_rfl) (hSw.row 5 rfl).1 hx152) ?_
            refine gu1 20 51 (.slice A34 l33.length c35) rfl hS137 (fun w hSw => run_load1 rfl (by kernel_rfl) (fun _ => by kernel_rfl) (hSw.box 6 rfl 0 rfl)) ?_
            refine gv1 21 52 (.int .i64 x106) rfl hS137 ?_
            refine gv1 22 53 (.int .i64 (IntKind.i64.wrap (x106 - 1))) rfl hS137 ?_
            obtain ⟨x153, hx154, hO142⟩ := bind_in hO142
            refine gu1 23 54 (.pointer (Option.map (fun (p : Addr) => p.add (Int.toNat (IntKind.i64.wrap (x106 - 1)) * 1)) A34)) rfl hS137 (fun w hSw => run_ixaddr (E := 5) (s := 1) (k := .i64) (c := c35) rfl (by kernel_rfl) (by kernel_rfl) (by kernel_rfl) (fun _ => by kernel_rfl) (ix_in hx154).1 (ix_in hx154).2.1 (num_nil (hS137.row 5 rfl).1)) ?_
            refine gu1 24 55 (.int .u8 x153) rfl hS137 (fun w hSw => run_loadix rfl (by kernel_rfl) (fun _ => by kernel_rfl) (hSw.row 5 rfl).1 hx154) ?_
            rcases if_in hO142 with ⟨h155, hO142⟩ | ⟨h155, hO142⟩
            ·refine gu1 25 56 (.bool true) rfl hS137 (fun w hSw => run_boolE (ne_yes h155) (by kernel_rfl)) ?_
             refine gv1 26 57 (.bool true) rfl hS137 ?_
             refine gd_done (by kernel_rfl) ?_
             refine gx_thenN ?_
             exact ⟨true, selfA_i (by kernel_rfl), (Option.some.inj hO142), hS137⟩
            ·refine gu1 25 56 (.bool false) rfl hS137 (fun w hSw => run_boolE (ne_no h155) (by kernel_rfl)) ?_
             refine gv1 26 57 (.bool false) rfl hS137 ?_
             refine gd_done (by kernel_rfl) ?_
             refine gx_thenN ?_
             exact ⟨false, selfA_i (by kernel_rfl), (Option.some.inj hO142), hS137⟩
          ·intro hK144
           rcases if_in hE141 with ⟨h145, hE141⟩ | ⟨h145, hE141⟩
           ·refine gu1 2 33 (.bool true) rfl hS135 (fun w hSw => run_boolE (decide_eq_true h145) (by kernel_rfl)) ?_
            refine gv1 3 34 (.bool true) rfl hS135 ?_
            refine gz1 4 35 rfl hS135 ?_
            refine gz1 5 36 rfl hS135 ?_
            refine gz1 6 37 rfl hS135 ?_
            refine gz1 7 38 rfl hS135 ?_
            refine gz1 8 39 rfl hS135 ?_
            refine gz1 9 40 rfl hS135 ?_
            refine gz1 10 41 rfl hS135 ?_
            refine gz1 11 42 rfl hS135 ?_
            refine gz1 12 43 rfl hS135 ?_
            refine gz1 13 44 rfl hS135 ?_
            refine gv1 14 45 (.bool true) rfl hS135 ?_
            exact gd_to hK144 (by kernel_rfl) ⟨true, selfA_i (by kernel_rfl), (Option.some.inj hE141), hS135⟩
           ·refine gu1 2 33 (.bool false) rfl hS135 (fun w hSw => run_boolE (decide_eq_false h145) (by kernel_rfl)) ?_
            refine gv1 3 34 (.bool false) rfl hS135 ?_
            refine gu1 4 35 (.slice A1 p1.length c1) rfl hS135 (fun w hSw => run_load1 rfl (by kernel_rfl) (fun _ => by kernel_rfl) (hSw.box 2 rfl 0 rfl)) ?_
            refine gv1 5 36 (.int .i64 x106) rfl hS135 ?_
            obtain ⟨x146, hx147, hE141⟩ := bind_in hE141
            refine gu1 6 37 (.pointer (Option.map (fun (p : Addr) => p.add (Int.toNat x106 * 1)) A1)) rfl hS135 (fun w hSw => run_ixaddr (E := 5) (s := 1) (k := .i64) (c := c1) rfl (by kernel_rfl) (by kernel_rfl) (by kernel_rfl) (fun _ => by kernel_rfl) (ix_in hx147).1 (ix_in hx147).2.1 (num_nil (hS135.view hv81))) ?_
            refine gu1 7 38 (.int .u8 x146) rfl hS135 (fun w hSw => run_loadix rfl (by kernel_rfl) (fun _ => by kernel_rfl) (hSw.view hv81) hx147) ?_
            refine gu1 8 39 (.slice A1 p1.length c1) rfl hS135 (fun w hSw => run_load1 rfl (by kernel_rfl) (fun _ => by kernel_rfl) (hSw.box 2 rfl 0 rfl)) ?_
            refine gv1 9 40 (.int .i64 x106) rfl hS135 ?_
            refine gv1 10 41 (.int .i64 (IntKind.i64.wrap (x106 - 1))) rfl hS135 ?_
            obtain ⟨x148, hx149, hE141⟩ := bind_in hE141
            refine gu1 11 42 (.pointer (Option.map (fun (p : Addr) => p.add (Int.toNat (IntKind.i64.wrap (x106 - 1)) * 1)) A1)) rfl hS135 (fun w hSw => run_ixaddr (E := 5) (s := 1) (k := .i64) (c := c1) rfl (by kernel_rfl) (by kernel_rfl) (by kernel_rfl) (fun _ => by kernel_rfl) (ix_in hx149).1 (ix_in hx149).2.1 (num_nil (hS135.view hv81))) ?_
            refine gu1 12 43 (.int .u8 x148) rfl hS135 (fun w hSw => run_loadix rfl (by kernel_rfl) (fun _ => by kernel_rfl) (hSw.view hv81) hx149) ?_
            rcases if_in hE141 with ⟨h150, hE141⟩ | ⟨h150, hE141⟩
            ·refine gu1 13 44 (.bool true) rfl hS135 (fun w hSw => run_boolE (ne_yes h150) (by kernel_rfl)) ?_
             refine gv1 14 45 (.bool true) rfl hS135 ?_
             exact gd_to hK144 (by kernel_rfl) ⟨true, selfA_i (by kernel_rfl), (Option.some.inj hE141), hS135⟩
            ·refine gu1 13 44 (.bool false) rfl hS135 (fun w hSw => run_boolE (ne_no h150) (by kernel_rfl)) ?_
             refine gv1 14 45 (.bool false) rfl hS135 ?_
             exact gd_to hK144 (by kernel_rfl) ⟨false, selfA_i (by kernel_rfl), (Option.some.inj hE141), hS135⟩
         ·rintro _ w127 ⟨b130, hq175, rfl, hS128⟩
          obtain ⟨u129, rfl⟩ := selfA_u hq175
          try dsimp only at hO133
          cases b130 with
          | true =>
           try dsimp only at hO133
           refine gx_yes (by kernel_rfl) ?_
           refine gd_start (fun w => St (feet [objE l73 r74, poolE ([]) w0, boxE w0.heap.size [.slice A1 p1.length c1] 24, rowG 35 4 (.slice A58 l62.length c59) l62.length vs60, boxE w3.heap.size [.slice A58 l62.length c59] 27, rowE .u8 5 A34 c35 l33, boxE w36.heap.size [.slice A34 l33.length c35] 24]) w76 w [poolE ([]) w0, objE l73 r75, boxE w0.heap.size [.slice A1 p1.length c1] 24, boxE w3.heap.size [.slice A101 l105.length c102] 27, rowE .u8 5 A34 c35 l33, boxE w36.heap.size [.slice A34 l33.length c35] 24]) 14 #[false, false, false, false, false, false, false, false, false, false, false, false, false, false] (by kernel_rfl) (by kernel_rfl) ?_
           have hS157 := hS128.drew
           generalize w127.drew = w156 at hS157 ⊢
           refine gu1 0 58 (.slice A101 l105.length c102) rfl (hS157.pick [0, 1, 2, 4, 5, 6] rfl rfl) (fun w hSw => run_load1 rfl (by kernel_rfl) (fun _ => by kernel_rfl) (hSw.box 3 rfl 0 rfl)) ?_
           refine gv1 1 59 (.int .i64 x106) rfl (hS157.pick [0, 1, 2, 4, 5, 6] rfl rfl) ?_
           refine gu1 2 60 (.slice A1 p1.length c1) rfl (hS157.pick [0, 1, 2, 4, 5, 6] rfl rfl) (fun w hSw => run_load1 rfl (by kernel_rfl) (fun _ => by kernel_rfl) (hSw.box 2 rfl 0 rfl)) ?_
           refine gv1 3 61 (.int .i64 x106) rfl (hS157.pick [0, 1, 2, 4, 5, 6] rfl rfl) ?_
           obtain ⟨x158, hx159, hO133⟩ := bind_in hO133
           refine gu1 4 62 (.pointer (Option.map (fun (p : Addr) => p.add (Int.toNat x106 * 1)) A1)) rfl (hS157.pick [0, 1, 2, 4, 5, 6] rfl rfl) (fun w hSw => run_ixaddr (E := 5) (s := 1) (k := .i64) (c := c1) rfl (by kernel_rfl) (by kernel_rfl) (by kernel_rfl) (fun _ => by kernel_rfl) (ix_in hx159).1 (ix_in hx159).2.1 (num_nil (hS157.view hv81))) ?_
           refine gu1 5 63 (.int .u8 x158) rfl (hS157.pick [0, 1, 2, 4, 5, 6] rfl rfl) (fun w hSw => run_loadix rfl (by kernel_rfl) (fun _ => by kernel_rfl) (hSw.view hv81) hx159) ?_
           refine gu1 6 64 (.slice A34 l33.length c35) rfl (hS157.pick [0, 1, 2, 4, 5, 6] rfl rfl) (fun w hSw => run_load1 rfl (by kernel_rfl) (fun _ => by kernel_rfl) (hSw.box 5 rfl 0 rfl)) ?_
           refine gv1 7 65 (.int .i64 x106) rfl (hS157.pick [0, 1, 2, 4, 5, 6] rfl rfl) ?_
           obtain ⟨x160, hx161, hO133⟩ := bind_in hO133
           refine gu1 8 66 (.pointer (Option.map (fun (p : Addr) => p.add (Int.toNat x106 * 1)) A34)) rfl (hS157.pick [0, 1, 2, 4, 5, 6] rfl rfl) (fun w hSw => run_ixaddr (E := 5) (s := 1) (k := .i64) (c := c35) rfl (by kernel_rfl) (by kernel_rfl) (by kernel_rfl) (fun _ => by kernel_rfl) (ix_in hx161).1 (ix_in hx161).2.1 (num_nil (hS157.row 5 rfl).1)) ?_
           refine gu1 9 67 (.int .u8 x160) rfl (hS157.pick [0, 1, 2, 4, 5, 6] rfl rfl) (fun w hSw => run_loadix rfl (by kernel_rfl) (fun _ => by kernel_rfl) (hSw.row 4 rfl).1 hx161) ?_
           refine gv1 10 68 (.agg #[.int .i64 x106, .int .i64 0, .int .u8 x158, .int .u8 x160]) rfl (hS157.pick [0, 1, 2, 4, 5, 6] rfl rfl) ?_
           have hf162 : (fEach encitemiseRun [.int .i64 x106, .int .i64 0, .int .u8 x158, .int .u8 x160] [(x106, 0, x158, x160)]).rd w0 ([]) := (each_cons (rd_pair (rd_intg .i64 x106) (rd_pair (rd_intg .i64 (0 : Int)) (rd_pair (rd_intg .u8 x158) (rd_intg .u8 x160)))) each_nil)
           refine gdR 11 { dst := some 69, op := _, type := _, pos := _, after := _, guard := _ } rfl (st_madeP (e := encitemiseRun) 35 1 [.int .i64 x106, .int .i64 0, .int .u8 x158, .int .u8 x160] [(x106, 0, x158, x160)] hS157 rfl hf162 (by decide) (by kernel_rfl)) ?_
           rintro _ w163 ⟨rfl, hS164⟩
           have hS164 : St _ _ w163 [poolE ([]) w0, objE l73 r75, boxE w0.heap.size [.slice A1 p1.length c1] 24, rowG 35 4 (.slice A101 l105.length c102) l105.length vs103, boxE w3.heap.size [.slice A101 l105.length c102] 27, rowE .u8 5 A34 c35 l33, boxE w36.heap.size [.slice A34 l33.length c35] 24, rowG 35 4 (.slice (some ⟨w156.heap.size, 0, none⟩) 1 1) 1 ([.int .i64 x106, .int .i64 0, .int .u8 x158, .int .u8 x160])] := hS164
           refine ⟨(hS164.pick [0, 1, 2, 4, 5, 6] rfl rfl), ?_⟩
           obtain ⟨l165, ha166, hO133⟩ := bind_in hO133
           refine gdR 12 { dst := some 70, op := _, type := _, pos := _, after := _, guard := _ } rfl (st_appendP (e := encitemiseRun) rfl (by kernel_rfl) (by kernel_rfl) hS164 3 rfl rfl (show 1 = ([(x106, 0, x158, x160)] : List (Int × Int × Int × Int)).length from rfl) hf104 hf162 (rowG_lies (e := encitemiseRun) (show 1 = ([(x106, 0, x158, x160)] : List (Int × Int × Int × Int)).length from rfl) (hS164.get 7 rfl)) (rowG_spec (e := encitemiseRun) (show 1 = ([(x106, 0, x158, x160)] : List (Int × Int × Int × Int)).length from rfl) (hS164.get 7 rfl)).2.2.1 ha166 (by kernel_rfl) (by kernel_rfl) (by decide)) ?_
           rintro _ w171 ⟨A167, c168, vs169, rfl, hf170, hS172⟩
           have hS172 : St _ _ w171 [poolE ([]) w0, objE l73 r75, boxE w0.heap.size [.slice A1 p1.length c1] 24, rowG 35 4 (.slice A167 l165.length c168) l165.length vs169, boxE w3.heap.size [.slice A101 l105.length c102] 27, rowE .u8 5 A34 c35 l33, boxE w36.heap.size [.slice A34 l33.length c35] 24, rowG 35 4 (.slice (some ⟨w156.heap.size, 0, none⟩) 1 1) 1 ([.int .i64 x106, .int .i64 0, .int .u8 x158, .int .u8 x160])] := hS172
           refine ⟨(hS172.pick [0, 1, 2, 4, 5, 6] rfl rfl), ?_⟩
           refine gdSz 13 { dst := none, op := _, type := _, pos := _, after := _, guard := _ } rfl (st_store (j := 0) (v := (.slice A167 l165.length c168)) rfl (by kernel_rfl) (by kernel_rfl) rfl (fun _ => by kernel_rfl) hS172 4 rfl (by show 0 < 1; decide)) ?_
           rintro w173 hS174
           have hS174 : St _ _ w173 [poolE ([]) w0, objE l73 r75, boxE w0.heap.size [.slice A1 p1.length c1] 24, rowG 35 4 (.slice A167 l165.length c168) l165.length vs169, boxE w3.heap.size [.slice A167 l165.length c168] 27, rowE .u8 5 A34 c35 l33, boxE w36.heap.size [.slice A34 l33.length c35] 24, rowG 35 4 (.slice (some ⟨w156.heap.size, 0, none⟩) 1 1) 1 ([.int .i64 x106, .int .i64 0, .int .u8 x158, .int .u8 x160])] := hS174
           refine gd_done (by kernel_rfl) ?_
           refine gx_thenN ?_
           exact ⟨l165, A167, c168, vs169, selfA_i (by kernel_rfl), (Option.some.inj hO133), (hS174.pick [0, 1, 2, 3, 4, 5, 6] rfl rfl), hf170⟩
          | false =>
           try dsimp only at hO133
           refine gx_no (by kernel_rfl) ?_
           refine gx_pass ?_
           refine gx_thenN ?_
           exact ⟨l105, A101, c102, vs103, selfA_i (by kernel_rfl), (Option.some.inj hO133), hS128, hf104⟩
        ·rintro _ w116 ⟨l123, A119, c120, vs121, hq205, rfl, hS117, hf122⟩
         obtain ⟨u118, rfl⟩ := selfA_u hq205
         try dsimp only at hO126
         refine gx_region ?_
         refine gx_v (.slice A119 l123.length c120) w116 (run_load1 rfl (by kernel_rfl) (fun _ => by kernel_rfl) (hS117.box 4 rfl 0 rfl)) ?_
         refine gx_v (.slice A119 l123.length c120) w116 (run_load1 rfl (by kernel_rfl) (fun _ => by kernel_rfl) (hS117.box 4 rfl 0 rfl)) ?_
         refine gx_k (.int .i64 ((l123.length : Nat) : Int)) w116 (gx_k (.int .i64 (IntKind.i64.wrap (((l123.length : Nat) : Int) - 1))) w116 (gx_k (.int .i64 x106) w116 (gx_k (.int .i64 (IntKind.i64.wrap (x106 + 1))) w116 ?_)))
         obtain ⟨x176, hx177, hO126⟩ := bind_in hO126
         obtain ⟨g178, o179, e180, hA181, he182, h183, ha184⟩ := elem_at (e := encitemiseRun) (rowG_lies (e := encitemiseRun) rfl (hS117.get 3 rfl)) hf122 hx177 (by decide)
         obtain ⟨e185, e186, rfl, h187, h188⟩ := h183
         obtain rfl := h187
         obtain ⟨e189, e190, rfl, h191, h192⟩ := h188
         obtain rfl := h191
         obtain ⟨e193, e194, rfl, h195, h196⟩ := h192
         obtain rfl := h195
         obtain rfl := h196
         have ha184 : ∀ w', Lies w' A119 vs121 → w'.rangeAt g178 o179 [.int .i64 x176.1, .int .i64 x176.2.1, .int .u8 x176.2.2.1, .int .u8 x176.2.2.2] := ha184
         refine gx_v (.pointer (some ⟨g178, o179, none⟩)) w116 (run_ixaddrN (E := 35) (s := 4) (k := .i64) (c := c120) rfl (by kernel_rfl) (by kernel_rfl) (by kernel_rfl) (fun _ => by kernel_rfl) (ixg_in hx177).1 (ixg_in hx177).2.1 hA181) ?_
         refine gx_k (.pointer (some ⟨g178, o179 + 1, none⟩)) w116 ?_
         obtain ⟨l197, hx198, hO126⟩ := bind_in hO126
         refine gx_s (st_setN1 (e := encitemiseRun) (ec := [.int .i64 x176.1, .int .i64 x176.2.1, .int .u8 x176.2.2.1, .int .u8 x176.2.2.2]) 1 rfl (by kernel_rfl) (by kernel_rfl) rfl (fun _ => by kernel_rfl) hS117 3 rfl rfl hf122 hA181 he182 (by decide) (rd_pair (rd_intg .i64 x176.1) (rd_pair (rd_intg .i64 (IntKind.i64.wrap (x106 + 1))) (rd_pair (rd_intg .u8 x176.2.2.1) (rd_intg .u8 x176.2.2.2)))) hx198) ?_
         rintro w199 ⟨vs201, hf202, hS200⟩
         have hS200 : St _ _ w199 [poolE ([]) w0, objE l73 r75, boxE w0.heap.size [.slice A1 p1.length c1] 24, rowG 35 4 (.slice A119 l123.length c120) l123.length vs201, boxE w3.heap.size [.slice A119 l123.length c120] 27, rowE .u8 5 A34 c35 l33, boxE w36.heap.size [.slice A34 l33.length c35] 24] := hS200
         refine gx_nil ?_
         refine gx_blkN ?_
         refine gx_thenN ?_
         refine hK115 _ _ ?_
         refine gx_region ?_
         refine gx_k (.int .i64 x106) w199 (gx_k (.int .i64 (IntKind.i64.wrap (x106 + 1))) w199 (gx_k (.int .i64 (IntKind.i64.wrap (x106 + 1))) w199 ?_))
         refine gx_nil ?_
         refine gx_thenN ?_
         have hS203 : St _ _ w199 [poolE ([]) w0, objE l73 r75, boxE w0.heap.size [.slice A1 p1.length c1] 24, rowG 35 4 (.slice A119 l197.length c120) l197.length vs201, boxE w3.heap.size [.slice A119 l123.length c120] 27, rowE .u8 5 A34 c35 l33, boxE w36.heap.size [.slice A34 l33.length c35] 24] := hS200.len (e := encitemiseRun) 3 rfl (setg_len hx198).symm
         have hS204 : St _ _ w199 [poolE ([]) w0, objE l73 r75, boxE w0.heap.size [.slice A1 p1.length c1] 24, rowG 35 4 (.slice A119 l197.length c120) l197.length vs201, boxE w3.heap.size [.slice A119 l197.length c120] 27, rowE .u8 5 A34 c35 l33, boxE w36.heap.size [.slice A34 l33.length c35] 24] := (show [poolE ([]) w0, objE l73 r75, boxE w0.heap.size [.slice A1 p1.length c1] 24, rowG 35 4 (.slice A119 l197.length c120) l197.length vs201, boxE w3.heap.size [.slice A119 l123.length c120] 27, rowE .u8 5 A34 c35 l33, boxE w36.heap.size [.slice A34 l33.length c35] 24] = [poolE ([]) w0, objE l73 r75, boxE w0.heap.size [.slice A1 p1.length c1] 24, rowG 35 4 (.slice A119 l197.length c120) l197.length vs201, boxE w3.heap.size [.slice A119 l197.length c120] 27, rowE .u8 5 A34 c35 l33, boxE w36.heap.size [.slice A34 l33.length c35] 24] by rw [show l123.length = l197.length from (setg_len hx198).symm]) ▸ hS203
         exact ⟨k107, Nat.lt_succ_self k107, l197, (IntKind.i64.wrap (x106 + 1)), A119, c120, vs201, selfA_i (by kernel_rfl), hO126, hS204, hf202⟩
       ·refine gx_v (.bool false) w98 (run_boolE (decide_eq_false h113) (by kernel_rfl)) ?_
        refine gx_nil ?_
        refine gx_thenN ?_
        refine hK112 _ _ ?_
        refine gx_no (by kernel_rfl) ?_
        refine gx_exit ?_
        refine gx_thenE ?_
        refine gx_thenE ?_
        refine gx_blkE ?_
        refine gx_thenN ?_
        exact ⟨l105, A101, c102, vs103, selfA_i (by kernel_rfl), (Option.some.inj hL108), hS99, hf104⟩
    ·rintro _ w87 ⟨l94, A90, c91, vs92, hq207, rfl, hS88, hf93⟩
     obtain ⟨u89, rfl⟩ := selfA_u hq207
     try dsimp only at hO97
     refine gx_blkN ?_
     exact ⟨⟨[poolE ([]) w0, boxE w0.heap.size [.slice A1 p1.length c1] 24, rowG 35 4 (.slice A90 l94.length c91) l94.length vs92, boxE w3.heap.size [.slice A90 l94.length c91] 27, rowE .u8 5 A34 c35 l33, boxE w36.heap.size [.slice A34 l33.length c35] 24], (hS88.pick [1, 0, 2, 3, 4, 5, 6] rfl rfl), l94, A90, c91, vs92, hO97, rfl, hf93⟩⟩
   ·rintro D208 w209 _ ⟨l62, A58, c59, vs60, hL72, rfl, hf61⟩ hS210
    rw [pRuns_X1] at hL72
    obtain rfl := Option.some.inj hL72
    try dsimp only at hO67
    have hS210 : St _ _ w209 [objE D208 (.deferred (some [])), poolE ([]) w0, boxE w0.heap.size [.slice A1 p1.length c1] 24, rowG 35 4 (.slice A58 l62.length c59) l62.length vs60, boxE w3.heap.size [.slice A58 l62.length c59] 27, rowE .u8 5 A34 c35 l33, boxE w36.heap.size [.slice A34 l33.length c35] 24, boxE g50 [.slice A0 p0.length c0] 22] := hS210
    refine gx_blkN ?_
    refine gx_thenN ?_
    refine hK44 _ _ ?_
    refine gx_seq (fun K211 hK212 => ?_)
    refine gx_region ?_
    refine gx_v (.slice A58 l62.length c59) w209 (run_load1 rfl (by kernel_rfl) (fun _ => by kernel_rfl) (hS210.box 4 rfl 0 rfl)) ?_
    refine gx_k (.slice A58 l62.length c59) w209 (gx_k (.int .i64 0) w209 ?_)
    refine gx_nil ?_
    refine gx_thenN ?_
    refine hK212 _ _ ?_
    refine gx_ret ?_
    obtain rfl := Option.some.inj hO67
    exact gx_finM1 (es := [rowG 35 4 (.slice A58 l62.length c59) l62.length vs60, poolE ([]) w0]) (.tuple #[.slice A58 l62.length c59, .int .i64 0]) (by kernel_rfl) (hS210.pick [0, 3, 1] rfl rfl) (fun w hS => ⟨by kernel_rfl, _, rfl, A58, c59, vs60, ([]), rfl, (hS.renew 1 rfl), (hS.now 1 rfl hf61)⟩)
   ·exact fun _ _ _ h => h.elim
end Go.Proofs.YtkcmemldhbifdaaDoor
