/-
  The document's neutral rules and levels, walked.
-/
import Derived.Test.YtdpcaidhpccaiaaR0
namespace Go.Proofs.Ytdpcaidhpccaiaa
open Go Go.RowKit
set_option linter.unusedVariables false

def rNeutral_L1 (N : Nat) (p0 : List Int) : Nat → (List Int) → Int → Option (List Int)
 | 0, _, _ => none
 | k24+1, l22, x23 => (if x23 < ((p0.length : Nat) : Int) then ((ix p0 x23).bind fun x35 => (if x35 ≠ 10 then ((ix p0 x23).bind fun x38 => ((apx l22 ([x38])).bind fun l42 => rNeutral_L1 N p0 k24 l42 (IntKind.i64.wrap (x23 + 1)))) else rNeutral_L1 N p0 k24 l22 (IntKind.i64.wrap (x23 + 1)))) else some (l22))
def rNeutral_L3 (N : Nat) (l10 : List Int) (l76 : List Int) : Nat → Int → Option (Int)
 | 0, _ => none
 | k98+1, x97 => (if x97 < ((l10.length : Nat) : Int) then ((ix l76 x97).bind fun x105 => ((rNeu N x105).bind fun b109 => (match b109 with | true => rNeutral_L3 N l10 l76 k98 (IntKind.i64.wrap (x97 + 1)) | false => some (x97)))) else some (x97))
def rNeutral_L4 (N : Nat) (x90 : Int) (x176 : Int) : Nat → (List Int) → Int → Option (List Int × Int)
 | 0, _, _ => none
 | k199+1, l197, x198 => (if x198 < x90 then ((ix l197 x198).bind fun _x208 => ((setx l197 x198 x176).bind fun l212 => rNeutral_L4 N x90 x176 k199 l212 (IntKind.i64.wrap (x198 + 1)))) else some ((l197, x198)))
def rNeutral_L2 (N : Nat) (p2 : Int) (p3 : Int) (l10 : List Int) (x55 : Int) : Nat → (List Int) → Int → Option (List Int)
 | 0, _, _ => none
 | k78+1, l76, x77 => (if x77 < ((l10.length : Nat) : Int) then ((rNeutral_L3 N l10 l76 N x77 : Option (Int)).bind fun x90 => (if x90 = x77 then rNeutral_L2 N p2 p3 l10 x55 k78 l76 (IntKind.i64.wrap (x77 + 1)) else ((rEnds N p2).bind fun x125 => ((rEnds N p3).bind fun x131 => (((if x77 > 0 then ((ix l76 (IntKind.i64.wrap (x77 - 1))).bind fun x145 => ((rSide N x145).bind fun x149 => some (x149))) else some (x125)) : Option (Int)).bind fun x138 => (((if x90 < ((l10.length : Nat) : Int) then ((ix l76 x90).bind fun x163 => ((rSide N x163).bind fun x167 => some (x167))) else some (x131)) : Option (Int)).bind fun x156 => (((if x138 = x156 then (if x138 ≠ 0 then some (x138) else some (x55)) else some (x55)) : Option (Int)).bind fun x176 => ((rNeutral_L4 N x90 x176 N l76 x77 : Option (List Int × Int)).bind fun (l188, x189) => rNeutral_L2 N p2 p3 l10 x55 k78 l188 x189)))))))) else some (l76))
def rNeutral_L5 (N : Nat) (p0 : List Int) (l66 : List Int) : Nat → (List Int) → Int → Int → Option (List Int)
 | 0, _, _, _ => none
 | k245+1, l242, x243, x244 => (if x244 < ((p0.length : Nat) : Int) then ((ix p0 x244).bind fun x256 => (if x256 = 10 then ((apx l242 ([10])).bind fun l261 => rNeutral_L5 N p0 l66 k245 l261 x243 (IntKind.i64.wrap (x244 + 1))) else ((ix l66 x243).bind fun x270 => ((apx l242 ([x270])).bind fun l274 => rNeutral_L5 N p0 l66 k245 l274 (IntKind.i64.wrap (x243 + 1)) (IntKind.i64.wrap (x244 + 1)))))) else some (l242))
def rNeutral (N : Nat) (p0 : List Int) (p1 : Int) (p2 : Int) (p3 : Int) : Option (List Int) :=
 ((rNeutral_L1 N p0 N ([]) 0 : Option (List Int)).bind fun l10 => (((if (Int.tmod p1 2) = 1 then some (2) else some (1)) : Option (Int)).bind fun x55 => ((rNeutral_L2 N p2 p3 l10 x55 N l10 0 : Option (List Int)).bind fun l66 => ((rNeutral_L5 N p0 l66 N ([]) 0 0 : Option (List Int)).bind fun l230 => some l230))))

set_option linter.unusedVariables false in
def rNeutral_R (r : List Int) (w0 : World) (v : Value) (w : World) : Prop := ∃ (A0' : Option Addr) (c0' : Nat), v = .slice A0' r.length c0' ∧ St [] w0 w [rowE .u8 23 A0' c0' r]

set_option maxRecDepth 100000 in
set_option maxHeartbeats 4000000 in
theorem rNeutral_ok (N : Nat) (p0 : List Int) (p1 : Int) (p2 : Int) (p3 : Int) (A0 : Option Addr) (c0 : Nat) (r : List Int) (hF : rNeutral N p0 p1 p2 p3 = some r) (w0 : World) (hv0 : Vw [] .u8 w0 A0 c0 p0) :
  Calls Try.prog 22 #[.slice A0 p0.length c0, .int .u8 p1, .int .u8 p2, .int .u8 p3] w0 fun e w => ∃ v, e = .returned v ∧ rNeutral_R r w0 v w := by
 have hS0 := St.start w0
 unfold rNeutral at hF
 refine calls_of Try.func22 rfl ⟨((.slice A0 p0.length c0) :: (.int .u8 p1) :: (.int .u8 p2) :: (.int .u8 p3) :: un 123 ([])).toArray, []⟩ (by kernel_rfl) ?_
 refine gx_seq (fun K1 hK2 => ?_)
 refine gx_region ?_
 refine gx_k (.slice none 0 0) w0 ?_
 refine gx_nil ?_
 refine gx_thenN ?_
 refine hK2 _ _ ?_
 refine gx_seq (fun K3 hK4 => ?_)
 refine gx_region ?_
 refine gx_k (.slice none 0 0) w0 ?_
 refine gx_nil ?_
 refine gx_thenN ?_
 refine hK4 _ _ ?_
 obtain ⟨c11, hE12, hO13⟩ := bind_in hF
 refine gx_cut (fun a w => ∃ (l10 : List Int) (A8 : Option Addr) (c9 : Nat), selfA (fun u7 => ⟨((.slice A0 p0.length c0) :: (.int .u8 p1) :: (.int .u8 p2) :: (.int .u8 p3) :: un 4 ((.slice none 0 0) :: (.slice A8 l10.length c9) :: (u7 10) :: un 9 (dd u7 20 18 (un 89 ([]))))).toArray, []⟩) a ∧ l10 = c11 ∧ St [] w0 w [rowE .u8 23 A8 c9 l10]) ?_ ?_
 ·refine gx_seq (fun K14 hK15 => ?_)
  refine gx_region ?_
  refine gx_k (.int .i64 0) w0 ?_
  refine gx_nil ?_
  refine gx_thenN ?_
  refine hK15 _ _ ?_
  refine gx_block ?_
  have hS16 : St _ _ w0 [rowE .u8 23 none 0 ([])] := hS0.nilrow .u8 23
  refine gx_loop (fun k a w => ∃ (l22 : List Int) (x23 : Int) (A20 : Option Addr) (c21 : Nat), selfA (fun u19 => ⟨((.slice A0 p0.length c0) :: (.int .u8 p1) :: (.int .u8 p2) :: (.int .u8 p3) :: un 4 ((.slice none 0 0) :: (.slice A20 l22.length c21) :: (.int .i64 x23) :: un 9 (dd u19 20 18 (un 89 ([]))))).toArray, []⟩) a ∧ rNeutral_L1 N p0 k l22 x23 = some c11 ∧ St [] w0 w [rowE .u8 23 A20 c21 l22]) N ?_ ?_
  ·exact ⟨([]), 0, none, 0, selfA_i (by kernel_rfl), hE12, hS16⟩
  ·rintro k24 _ w17 ⟨l22, x23, A20, c21, hq49, hL25, hS18⟩
   obtain ⟨u19, rfl⟩ := selfA_u hq49
   cases k24 with
   | zero => cases hL25
   | succ k24 =>
    first | rw [rNeutral_L1] at hL25 | unfold rNeutral_L1 at hL25
    refine gx_seq (fun K26 hK27 => ?_)
    refine gx_seq (fun K28 hK29 => ?_)
    refine gx_region ?_
    refine gx_k (.int .i64 x23) w17 (gx_k (.slice A0 p0.length c0) w17 (gx_k (.int .i64 ((p0.length : Nat) : Int)) w17 ?_))
    rcases if_in hL25 with ⟨h30, hL25⟩ | ⟨h30, hL25⟩
    ·refine gx_v (.bool true) w17 (run_boolE (decide_eq_true h30) (by kernel_rfl)) ?_
     refine gx_nil ?_
     refine gx_thenN ?_
     refine hK29 _ _ ?_
     refine gx_yes (by kernel_rfl) ?_
     refine gx_pass ?_
     refine gx_thenN ?_
     refine hK27 _ _ ?_
     refine gx_seq (fun K31 hK32 => ?_)
     refine gx_block ?_
     refine gx_seq (fun K33 hK34 => ?_)
     refine gx_region ?_
     refine gx_k (.slice A0 p0.length c0) w17 (gx_k (.int .i64 x23) w17 ?_)
     obtain ⟨x35, hx36, hL25⟩ := bind_in hL25
     refine gx_v (.pointer (Option.map (fun (p : Addr) => p.add (Int.toNat x23 * 1)) A0)) w17 (run_ixaddr (E := 23) (s := 1) (k := .i64) (c := c0) rfl (by kernel_rfl) (by kernel_rfl) (by kernel_rfl) (fun _ => by kernel_rfl) (ix_in hx36).1 (ix_in hx36).2.1 (num_nil (hS18.view hv0))) ?_
     refine gx_v (.int .u8 x35) w17 (run_loadix rfl (by kernel_rfl) (fun _ => by kernel_rfl) (hS18.view hv0) hx36) ?_
     rcases if_in hL25 with ⟨h37, hL25⟩ | ⟨h37, hL25⟩
     ·refine gx_v (.bool true) w17 (run_boolE (ne_yes h37) (by kernel_rfl)) ?_
      refine gx_nil ?_
      refine gx_thenN ?_
      refine hK34 _ _ ?_
      refine gx_yes (by kernel_rfl) ?_
      refine gx_region ?_
      refine gx_k (.slice A20 l22.length c21) w17 (gx_k (.slice A0 p0.length c0) w17 (gx_k (.int .i64 x23) w17 ?_))
      obtain ⟨x38, hx39, hL25⟩ := bind_in hL25
      refine gx_v (.pointer (Option.map (fun (p : Addr) => p.add (Int.toNat x23 * 1)) A0)) w17 (run_ixaddr (E := 23) (s := 1) (k := .i64) (c := c0) rfl (by kernel_rfl) (by kernel_rfl) (by kernel_rfl) (fun _ => by kernel_rfl) (ix_in hx39).1 (ix_in hx39).2.1 (num_nil (hS18.view hv0))) ?_
      refine gx_v (.int .u8 x38) w17 (run_loadix rfl (by kernel_rfl) (fun _ => by kernel_rfl) (hS18.view hv0) hx39) ?_
      refine gx_r (st_made .u8 23 [x38] hS18 (by show 1 ≤ 1000000000; decide) (by kernel_rfl)) ?_
      rintro _ w40 ⟨rfl, hS41⟩
      have hS41 : St _ _ w40 [rowE .u8 23 A20 c21 l22, rowE .u8 23 (some ⟨w17.heap.size, 0, none⟩) 1 ([x38])] := hS41
      obtain ⟨l42, ha43, hL25⟩ := bind_in hL25
      obtain ⟨ha43, hq44⟩ := apx_in ha43
      refine gx_r (st_append rfl (by kernel_rfl) (by kernel_rfl) hS41 0 rfl (hS41.row 1 rfl).1 (hS41.row 1 rfl).2 ha43 (by kernel_rfl) (by kernel_rfl)) ?_
      rintro _ w47 ⟨A45, c46, rfl, hS48⟩
      rw [← hq44] at hS48 ⊢
      have hS48 : St _ _ w47 [rowE .u8 23 A45 c46 l42, rowE .u8 23 (some ⟨w17.heap.size, 0, none⟩) 1 ([x38])] := hS48
      refine gx_k (.slice A45 l42.length c46) w47 ?_
      refine gx_nil ?_
      refine gx_blkN ?_
      refine gx_thenN ?_
      refine hK32 _ _ ?_
      refine gx_region ?_
      refine gx_k (.int .i64 x23) w47 (gx_k (.int .i64 (IntKind.i64.wrap (x23 + 1))) w47 (gx_k (.int .i64 (IntKind.i64.wrap (x23 + 1))) w47 ?_))
      refine gx_nil ?_
      refine gx_thenN ?_
      exact ⟨k24, Nat.lt_succ_self k24, l42, (IntKind.i64.wrap (x23 + 1)), A45, c46, selfA_i (by kernel_rfl), hL25, (hS48.pick [0] rfl rfl)⟩
     ·refine gx_v (.bool false) w17 (run_boolE (ne_no h37) (by kernel_rfl)) ?_
      refine gx_nil ?_
      refine gx_thenN ?_
      refine hK34 _ _ ?_
      refine gx_no (by kernel_rfl) ?_
      refine gx_pass ?_
      refine gx_blkN ?_
      refine gx_thenN ?_
      refine hK32 _ _ ?_
      refine gx_region ?_
      refine gx_k (.int .i64 x23) w17 (gx_k (.int .i64 (IntKind.i64.wrap (x23 + 1))) w17 (gx_k (.int .i64 (IntKind.i64.wrap (x23 + 1))) w17 ?_))
      refine gx_nil ?_
      refine gx_thenN ?_
      exact ⟨k24, Nat.lt_succ_self k24, l22, (IntKind.i64.wrap (x23 + 1)), A20, c21, selfA_i (by kernel_rfl), hL25, hS18⟩
    ·refine gx_v (.bool false) w17 (run_boolE (decide_eq_false h30) (by kernel_rfl)) ?_
     refine gx_nil ?_
     refine gx_thenN ?_
     refine hK29 _ _ ?_
     refine gx_no (by kernel_rfl) ?_
     refine gx_exit ?_
     refine gx_thenE ?_
     refine gx_thenE ?_
     refine gx_blkE ?_
     refine gx_thenN ?_
     exact ⟨l22, A20, c21, selfA_i (by kernel_rfl), (Option.some.inj hL25), hS18⟩
 ·rintro _ w5 ⟨l10, A8, c9, hq287, rfl, hS6⟩
  obtain ⟨u7, rfl⟩ := selfA_u hq287
  try dsimp only at hO13
  refine gx_seq (fun K50 hK51 => ?_)
  refine gx_region ?_
  refine gx_k (.int .u8 1) w5 ?_
  refine gx_nil ?_
  refine gx_thenN ?_
  refine hK51 _ _ ?_
  obtain ⟨c56, hE57, hO58⟩ := bind_in hO13
  refine gx_cut (fun a w => ∃ (x55 : Int), selfA (fun u54 => ⟨((.slice A0 p0.length c0) :: (.int .u8 p1) :: (.int .u8 p2) :: (.int .u8 p3) :: un 4 ((.slice none 0 0) :: (.slice A8 l10.length c9) :: (u7 10) :: (.int .u8 x55) :: un 8 (dd u7 20 18 (dd u54 38 3 (un 86 ([])))))).toArray, []⟩) a ∧ x55 = c56 ∧ St [] w0 w [rowE .u8 23 A8 c9 l10]) ?_ ?_
  ·refine gx_seq (fun K59 hK60 => ?_)
   refine gx_region ?_
   refine gx_k (.int .u8 p1) w5 (gx_k (.int .u8 (Int.tmod p1 2)) w5 ?_)
   rcases if_in hE57 with ⟨h61, hE57⟩ | ⟨h61, hE57⟩
   ·refine gx_v (.bool true) w5 (run_boolE (decide_eq_true h61) (by kernel_rfl)) ?_
    refine gx_nil ?_
    refine gx_thenN ?_
    refine hK60 _ _ ?_
    refine gx_yes (by kernel_rfl) ?_
    refine gx_region ?_
    refine gx_k (.int .u8 2) w5 ?_
    refine gx_nil ?_
    refine gx_thenN ?_
    exact ⟨2, selfA_i (by kernel_rfl), (Option.some.inj hE57), hS6⟩
   ·refine gx_v (.bool false) w5 (run_boolE (decide_eq_false h61) (by kernel_rfl)) ?_
    refine gx_nil ?_
    refine gx_thenN ?_
    refine hK60 _ _ ?_
    refine gx_no (by kernel_rfl) ?_
    refine gx_pass ?_
    refine gx_thenN ?_
    exact ⟨1, selfA_i (by kernel_rfl), (Option.some.inj hE57), hS6⟩
  ·rintro _ w52 ⟨x55, hq286, rfl, hS53⟩
   obtain ⟨u54, rfl⟩ := selfA_u hq286
   try dsimp only at hO58
   obtain ⟨c67, hE68, hO69⟩ := bind_in hO58
   refine gx_cut (fun a w => ∃ (l66 : List Int), selfA (fun u64 => ⟨((.slice A0 p0.length c0) :: (.int .u8 p1) :: (.int .u8 p2) :: (.int .u8 p3) :: un 4 ((.slice none 0 0) :: (.slice A8 l10.length c9) :: (u7 10) :: (.int .u8 x55) :: dd u64 12 5 (un 3 (dd u7 20 18 (dd u54 38 3 (dd u64 41 62 (un 24 ([])))))))).toArray, []⟩) a ∧ l66 = c67 ∧ St [] w0 w [rowE .u8 23 A8 c9 l66] ∧ l10.length = l66.length) ?_ ?_
   ·refine gx_seq (fun K70 hK71 => ?_)
    refine gx_region ?_
    refine gx_k (.int .i64 0) w52 ?_
    refine gx_nil ?_
    refine gx_thenN ?_
    refine hK71 _ _ ?_
    refine gx_block ?_
    refine gx_loop (fun k a w => ∃ (l76 : List Int) (x77 : Int), selfA (fun u74 => ⟨((.slice A0 p0.length c0) :: (.int .u8 p1) :: (.int .u8 p2) :: (.int .u8 p3) :: un 4 ((.slice none 0 0) :: (.slice A8 l10.length c9) :: (u7 10) :: (.int .u8 x55) :: (.int .i64 x77) :: dd u74 13 4 (un 3 (dd u7 20 18 (dd u54 38 3 (dd u74 41 62 (un 24 ([])))))))).toArray, []⟩) a ∧ rNeutral_L2 N p2 p3 l10 x55 k l76 x77 = some c67 ∧ St [] w0 w [rowE .u8 23 A8 c9 l76] ∧ l10.length = l76.length) N ?_ ?_
    ·exact ⟨l10, 0, selfA_i (by kernel_rfl), hE68, hS53, rfl⟩
    ·rintro k78 _ w72 ⟨l76, x77, hq220, hL79, hS73, hn75⟩
     obtain ⟨u74, rfl⟩ := selfA_u hq220
     cases k78 with
     | zero => cases hL79
     | succ k78 =>
      first | rw [rNeutral_L2] at hL79 | unfold rNeutral_L2 at hL79
      refine gx_seq (fun K80 hK81 => ?_)
      refine gx_seq (fun K82 hK83 => ?_)
      refine gx_region ?_
      refine gx_k (.int .i64 x77) w72 (gx_k (.slice A8 l10.length c9) w72 (gx_k (.int .i64 ((l10.length : Nat) : Int)) w72 ?_))
      rcases if_in hL79 with ⟨h84, hL79⟩ | ⟨h84, hL79⟩
      ·refine gx_v (.bool true) w72 (run_boolE (decide_eq_true h84) (by kernel_rfl)) ?_
       refine gx_nil ?_
       refine gx_thenN ?_
       refine hK83 _ _ ?_
       refine gx_yes (by kernel_rfl) ?_
       refine gx_pass ?_
       refine gx_thenN ?_
       refine hK81 _ _ ?_
       refine gx_block ?_
       refine gx_seq (fun K85 hK86 => ?_)
       refine gx_region ?_
       refine gx_k (.int .i64 x77) w72 (gx_k (.int .i64 x77) w72 ?_)
       refine gx_nil ?_
       refine gx_thenN ?_
       refine hK86 _ _ ?_
       obtain ⟨c91, hE92, hO93⟩ := bind_in hL79
       refine gx_cut (fun a w => ∃ (x90 : Int), selfA (fun u89 => ⟨((.slice A0 p0.length c0) :: (.int .u8 p1) :: (.int .u8 p2) :: (.int .u8 p3) :: un 4 ((.slice none 0 0) :: (.slice A8 l10.length c9) :: (u7 10) :: (.int .u8 x55) :: (.int .i64 x77) :: (.int .i64 x90) :: dd u74 14 3 (un 3 (dd u7 20 18 (dd u54 38 3 ((.int .i64 x77) :: (u89 42) :: (.int .i64 ((l10.length : Nat) : Int)) :: (.bool true) :: (.int .i64 x77) :: dd u89 46 13 (dd u74 59 44 (un 24 ([]))))))))).toArray, []⟩) a ∧ x90 = c91 ∧ St [] w0 w [rowE .u8 23 A8 c9 l76]) ?_ ?_
       ·refine gx_block ?_
        refine gx_loop (fun k a w => ∃ (x97 : Int), selfA (fun u96 => ⟨((.slice A0 p0.length c0) :: (.int .u8 p1) :: (.int .u8 p2) :: (.int .u8 p3) :: un 4 ((.slice none 0 0) :: (.slice A8 l10.length c9) :: (u7 10) :: (.int .u8 x55) :: (.int .i64 x77) :: (.int .i64 x97) :: dd u74 14 3 (un 3 (dd u7 20 18 (dd u54 38 3 ((.int .i64 x77) :: (u96 42) :: (.int .i64 ((l10.length : Nat) : Int)) :: (.bool true) :: (.int .i64 x77) :: dd u96 46 13 (dd u74 59 44 (un 24 ([]))))))))).toArray, []⟩) a ∧ rNeutral_L3 N l10 l76 k x97 = some c91 ∧ St [] w0 w [rowE .u8 23 A8 c9 l76]) N ?_ ?_
        ·exact ⟨x77, selfA_i (by kernel_rfl), hE92, hS73⟩
        ·rintro k98 _ w94 ⟨x97, hq113, hL99, hS95⟩
         obtain ⟨u96, rfl⟩ := selfA_u hq113
         cases k98 with
         | zero => cases hL99
         | succ k98 =>
          first | rw [rNeutral_L3] at hL99 | unfold rNeutral_L3 at hL99
          refine gx_seq (fun K100 hK101 => ?_)
          refine gx_seq (fun K102 hK103 => ?_)
          refine gx_region ?_
          refine gx_k (.int .i64 x97) w94 (gx_k (.slice A8 l10.length c9) w94 (gx_k (.int .i64 ((l10.length : Nat) : Int)) w94 ?_))
          rcases if_in hL99 with ⟨h104, hL99⟩ | ⟨h104, hL99⟩
          ·refine gx_v (.bool true) w94 (run_boolE (decide_eq_true h104) (by kernel_rfl)) ?_
           refine gx_k (.bool true) w94 (gx_k (.slice A8 l10.length c9) w94 (gx_k (.int .i64 x97) w94 ?_))
           obtain ⟨x105, hx106, hL99⟩ := bind_in hL99
           refine gx_v (.pointer (Option.map (fun (p : Addr) => p.add (Int.toNat x97 * 1)) A8)) w94 (run_ixaddr (E := 23) (s := 1) (k := .i64) (c := c9) rfl (by kernel_rfl) (by kernel_rfl) (by kernel_rfl) (fun _ => by kernel_rfl) (ix_in hx106).1 (lt_len hn75 (ix_in hx106).2.1) (nil_len hn75 (num_nil (hS95.row 0 rfl).1))) ?_
           refine gx_v (.int .u8 x105) w94 (run_loadix rfl (by kernel_rfl) (fun _ => by kernel_rfl) (hS95.row 0 rfl).1 hx106) ?_
           have hP107 : St _ _ w94 ([] ++ [rowE .u8 23 A8 c9 l76]) := hS95
           obtain ⟨b109, hc108, hL99⟩ := bind_in hL99
           try dsimp only at hL99
           refine gx_c (rNeu_R b109 w94) (rNeu_ok N x105 _ hc108 w94 ) ?_
           rintro _ w110 ⟨rfl, hT112⟩
           have hS111 : St _ _ w110 [rowE .u8 23 A8 c9 l76] := hS95.take _ hT112
           refine gx_k (.bool b109) w110 ?_
           refine gx_nil ?_
           refine gx_thenN ?_
           refine hK103 _ _ ?_
           cases b109 with
           | true =>
            try dsimp only at hL99
            refine gx_yes (by kernel_rfl) ?_
            refine gx_pass ?_
            refine gx_thenN ?_
            refine hK101 _ _ ?_
            refine gx_block ?_
            refine gx_region ?_
            refine gx_k (.int .i64 x97) w110 (gx_k (.int .i64 (IntKind.i64.wrap (x97 + 1))) w110 (gx_k (.int .i64 (IntKind.i64.wrap (x97 + 1))) w110 ?_))
            refine gx_nil ?_
            refine gx_blkN ?_
            refine gx_thenN ?_
            exact ⟨k98, Nat.lt_succ_self k98, (IntKind.i64.wrap (x97 + 1)), selfA_i (by kernel_rfl), hL99, hS111⟩
           | false =>
            try dsimp only at hL99
            refine gx_no (by kernel_rfl) ?_
            refine gx_exit ?_
            refine gx_thenE ?_
            refine gx_thenE ?_
            refine gx_blkE ?_
            refine gx_thenN ?_
            exact ⟨x97, selfA_i (by kernel_rfl), (Option.some.inj hL99), hS111⟩
          ·refine gx_v (.bool false) w94 (run_boolE (decide_eq_false h104) (by kernel_rfl)) ?_
           refine gx_k (.bool false) w94 (gx_o (gx_o (gx_o (gx_o (gx_o (gx_k (.bool false) w94 ?_))))))
           refine gx_nil ?_
           refine gx_thenN ?_
           refine hK103 _ _ ?_
           refine gx_no (by kernel_rfl) ?_
           refine gx_exit ?_
           refine gx_thenE ?_
           refine gx_thenE ?_
           refine gx_blkE ?_
           refine gx_thenN ?_
           exact ⟨x97, selfA_i (by kernel_rfl), (Option.some.inj hL99), hS95⟩
       ·rintro _ w87 ⟨x90, hq219, rfl, hS88⟩
        obtain ⟨u89, rfl⟩ := selfA_u hq219
        try dsimp only at hO93
        refine gx_seq (fun K114 hK115 => ?_)
        refine gx_seq (fun K116 hK117 => ?_)
        refine gx_region ?_
        refine gx_k (.int .i64 x90) w87 (gx_k (.int .i64 x77) w87 ?_)
        rcases if_in hO93 with ⟨h118, hO93⟩ | ⟨h118, hO93⟩
        ·refine gx_v (.bool true) w87 (run_boolE (decide_eq_true h118) (by kernel_rfl)) ?_
         refine gx_nil ?_
         refine gx_thenN ?_
         refine hK117 _ _ ?_
         refine gx_yes (by kernel_rfl) ?_
         refine gx_seq (fun K119 hK120 => ?_)
         refine gx_region ?_
         refine gx_k (.int .i64 x77) w87 (gx_k (.int .i64 (IntKind.i64.wrap (x77 + 1))) w87 (gx_k (.int .i64 (IntKind.i64.wrap (x77 + 1))) w87 ?_))
         refine gx_nil ?_
         refine gx_thenN ?_
         refine hK120 _ _ ?_
         refine gx_exit ?_
         refine gx_thenE ?_
         refine gx_blkE ?_
         refine gx_thenN ?_
         exact ⟨k78, Nat.lt_succ_self k78, l76, (IntKind.i64.wrap (x77 + 1)), selfA_i (by kernel_rfl), hO93, hS88, hn75⟩
        ·refine gx_v (.bool false) w87 (run_boolE (decide_eq_false h118) (by kernel_rfl)) ?_
         refine gx_nil ?_
         refine gx_thenN ?_
         refine hK117 _ _ ?_
         refine gx_no (by kernel_rfl) ?_
         refine gx_pass ?_
         refine gx_thenN ?_
         refine hK115 _ _ ?_
         refine gx_seq (fun K121 hK122 => ?_)
         refine gx_region ?_
         refine gx_k (.int .u8 p2) w87 ?_
         have hP123 : St _ _ w87 ([] ++ [rowE .u8 23 A8 c9 l76]) := hS88
         obtain ⟨x125, hc124, hO93⟩ := bind_in hO93
         try dsimp only at hO93
         refine gx_c (rEnds_R x125 w87) (rEnds_ok N p2 _ hc124 w87 ) ?_
         rintro _ w126 ⟨rfl, hT128⟩
         have hS127 : St _ _ w126 [rowE .u8 23 A8 c9 l76] := hS88.take _ hT128
         refine gx_k (.int .u8 p3) w126 ?_
         have hP129 : St _ _ w126 ([] ++ [rowE .u8 23 A8 c9 l76]) := hS127
         obtain ⟨x131, hc130, hO93⟩ := bind_in hO93
         try dsimp only at hO93
         refine gx_c (rEnds_R x131 w126) (rEnds_ok N p3 _ hc130 w126 ) ?_
         rintro _ w132 ⟨rfl, hT134⟩
         have hS133 : St _ _ w132 [rowE .u8 23 A8 c9 l76] := hS127.take _ hT134
         refine gx_k (.int .u8 x125) w132 (gx_k (.int .u8 x131) w132 ?_)
         refine gx_nil ?_
         refine gx_thenN ?_
         refine hK122 _ _ ?_
         obtain ⟨c139, hE140, hO141⟩ := bind_in hO93
         refine gx_cut (fun a w => ∃ (x138 : Int), selfA (fun u137 => ⟨((.slice A0 p0.length c0) :: (.int .u8 p1) :: (.int .u8 p2) :: (.int .u8 p3) :: un 4 ((.slice none 0 0) :: (.slice A8 l10.length c9) :: (u7 10) :: (.int .u8 x55) :: (.int .i64 x77) :: (.int .i64 x90) :: (.int .u8 x138) :: (.int .u8 x131) :: (u74 16) :: un 3 (dd u7 20 18 (dd u54 38 3 ((.int .i64 x77) :: (u89 42) :: (.int .i64 ((l10.length : Nat) : Int)) :: (.bool true) :: (.int .i64 x77) :: dd u89 46 13 ((.int .i64 x90) :: (.int .i64 x77) :: (.bool false) :: dd u74 62 2 ((.int .u8 p2) :: (.int .u8 x125) :: (.int .u8 p3) :: (.int .u8 x131) :: dd u137 68 8 (dd u74 76 27 (un 24 ([])))))))))).toArray, []⟩) a ∧ x138 = c139 ∧ St [] w0 w [rowE .u8 23 A8 c9 l76]) ?_ ?_
         ·refine gx_seq (fun K142 hK143 => ?_)
          refine gx_region ?_
          refine gx_k (.int .i64 x77) w132 ?_
          rcases if_in hE140 with ⟨h144, hE140⟩ | ⟨h144, hE140⟩
          ·refine gx_v (.bool true) w132 (run_boolE (decide_eq_true h144) (by kernel_rfl)) ?_
           refine gx_nil ?_
           refine gx_thenN ?_
           refine hK143 _ _ ?_
           refine gx_yes (by kernel_rfl) ?_
           refine gx_region ?_
           refine gx_k (.slice A8 l10.length c9) w132 (gx_k (.int .i64 x77) w132 (gx_k (.int .i64 (IntKind.i64.wrap (x77 - 1))) w132 ?_))
           obtain ⟨x145, hx146, hE140⟩ := bind_in hE140
           refine gx_v (.pointer (Option.map (fun (p : Addr) => p.add (Int.toNat (IntKind.i64.wrap (x77 - 1)) * 1)) A8)) w132 (run_ixaddr (E := 23) (s := 1) (k := .i64) (c := c9) rfl (by kernel_rfl) (by kernel_rfl) (by kernel_rfl) (fun _ => by kernel_rfl) (ix_in hx146).1 (lt_len hn75 (ix_in hx146).2.1) (nil_len hn75 (num_nil (hS133.row 0 rfl).1))) ?_
           refine gx_v (.int .u8 x145) w132 (run_loadix rfl (by kernel_rfl) (fun _ => by kernel_rfl) (hS133.row 0 rfl).1 hx146) ?_
           have hP147 : St _ _ w132 ([] ++ [rowE .u8 23 A8 c9 l76]) := hS133
           obtain ⟨x149, hc148, hE140⟩ := bind_in hE140
           try dsimp only at hE140
           refine gx_c (rSide_R x149 w132) (rSide_ok N x145 _ hc148 w132 ) ?_
           rintro _ w150 ⟨rfl, hT152⟩
           have hS151 : St _ _ w150 [rowE .u8 23 A8 c9 l76] := hS133.take _ hT152
           refine gx_k (.int .u8 x149) w150 ?_
           refine gx_nil ?_
           refine gx_thenN ?_
           exact ⟨x149, selfA_i (by kernel_rfl), (Option.some.inj hE140), hS151⟩
          ·refine gx_v (.bool false) w132 (run_boolE (decide_eq_false h144) (by kernel_rfl)) ?_
           refine gx_nil ?_
           refine gx_thenN ?_
           refine hK143 _ _ ?_
           refine gx_no (by kernel_rfl) ?_
           refine gx_pass ?_
           refine gx_thenN ?_
           exact ⟨x125, selfA_i (by kernel_rfl), (Option.some.inj hE140), hS133⟩
         ·rintro _ w135 ⟨x138, hq218, rfl, hS136⟩
          obtain ⟨u137, rfl⟩ := selfA_u hq218
          try dsimp only at hO141
          obtain ⟨c157, hE158, hO159⟩ := bind_in hO141
          refine gx_cut (fun a w => ∃ (x156 : Int), selfA (fun u155 => ⟨((.slice A0 p0.length c0) :: (.int .u8 p1) :: (.int .u8 p2) :: (.int .u8 p3) :: un 4 ((.slice none 0 0) :: (.slice A8 l10.length c9) :: (u7 10) :: (.int .u8 x55) :: (.int .i64 x77) :: (.int .i64 x90) :: (.int .u8 x138) :: (.int .u8 x156) :: (u74 16) :: un 3 (dd u7 20 18 (dd u54 38 3 ((.int .i64 x77) :: (u89 42) :: (.int .i64 ((l10.length : Nat) : Int)) :: (.bool true) :: (.int .i64 x77) :: dd u89 46 13 ((.int .i64 x90) :: (.int .i64 x77) :: (.bool false) :: dd u74 62 2 ((.int .u8 p2) :: (.int .u8 x125) :: (.int .u8 p3) :: (.int .u8 x131) :: dd u137 68 8 (dd u155 76 9 (dd u74 85 18 (un 24 ([]))))))))))).toArray, []⟩) a ∧ x156 = c157 ∧ St [] w0 w [rowE .u8 23 A8 c9 l76]) ?_ ?_
          ·refine gx_seq (fun K160 hK161 => ?_)
           refine gx_region ?_
           refine gx_k (.int .i64 x90) w135 (gx_k (.slice A8 l10.length c9) w135 (gx_k (.int .i64 ((l10.length : Nat) : Int)) w135 ?_))
           rcases if_in hE158 with ⟨h162, hE158⟩ | ⟨h162, hE158⟩
           ·refine gx_v (.bool true) w135 (run_boolE (decide_eq_true h162) (by kernel_rfl)) ?_
            refine gx_nil ?_
            refine gx_thenN ?_
            refine hK161 _ _ ?_
            refine gx_yes (by kernel_rfl) ?_
            refine gx_region ?_
            refine gx_k (.slice A8 l10.length c9) w135 (gx_k (.int .i64 x90) w135 ?_)
            obtain ⟨x163, hx164, hE158⟩ := bind_in hE158
            refine gx_v (.pointer (Option.map (fun (p : Addr) => p.add (Int.toNat x90 * 1)) A8)) w135 (run_ixaddr (E := 23) (s := 1) (k := .i64) (c := c9) rfl (by kernel_rfl) (by kernel_rfl) (by kernel_rfl) (fun _ => by kernel_rfl) (ix_in hx164).1 (lt_len hn75 (ix_in hx164).2.1) (nil_len hn75 (num_nil (hS136.row 0 rfl).1))) ?_
            refine gx_v (.int .u8 x163) w135 (run_loadix rfl (by kernel_rfl) (fun _ => by kernel_rfl) (hS136.row 0 rfl).1 hx164) ?_
            have hP165 : St _ _ w135 ([] ++ [rowE .u8 23 A8 c9 l76]) := hS136
            obtain ⟨x167, hc166, hE158⟩ := bind_in hE158
            try dsimp only at hE158
            refine gx_c (rSide_R x167 w135) (rSide_ok N x163 _ hc166 w135 ) ?_
            rintro _ w168 ⟨rfl, hT170⟩
            have hS169 : St _ _ w168 [rowE .u8 23 A8 c9 l76] := hS136.take _ hT170
            refine gx_k (.int .u8 x167) w168 ?_
            refine gx_nil ?_
            refine gx_thenN ?_
            exact ⟨x167, selfA_i (by kernel_rfl), (Option.some.inj hE158), hS169⟩
           ·refine gx_v (.bool false) w135 (run_boolE (decide_eq_false h162) (by kernel_rfl)) ?_
            refine gx_nil ?_
            refine gx_thenN ?_
            refine hK161 _ _ ?_
            refine gx_no (by kernel_rfl) ?_
            refine gx_pass ?_
            refine gx_thenN ?_
            exact ⟨x131, selfA_i (by kernel_rfl), (Option.some.inj hE158), hS136⟩
          ·rintro _ w153 ⟨x156, hq217, rfl, hS154⟩
           obtain ⟨u155, rfl⟩ := selfA_u hq217
           try dsimp only at hO159
           refine gx_seq (fun K171 hK172 => ?_)
           refine gx_region ?_
           refine gx_k (.int .u8 x55) w153 (gx_k (.int .u8 x55) w153 ?_)
           refine gx_nil ?_
           refine gx_thenN ?_
           refine hK172 _ _ ?_
           obtain ⟨c177, hE178, hO179⟩ := bind_in hO159
           refine gx_cut (fun a w => ∃ (x176 : Int), selfA (fun u175 => ⟨((.slice A0 p0.length c0) :: (.int .u8 p1) :: (.int .u8 p2) :: (.int .u8 p3) :: un 4 ((.slice none 0 0) :: (.slice A8 l10.length c9) :: (u7 10) :: (.int .u8 x55) :: (.int .i64 x77) :: (.int .i64 x90) :: (.int .u8 x138) :: (.int .u8 x156) :: (.int .u8 x176) :: un 3 (dd u7 20 18 (dd u54 38 3 ((.int .i64 x77) :: (u89 42) :: (.int .i64 ((l10.length : Nat) : Int)) :: (.bool true) :: (.int .i64 x77) :: dd u89 46 13 ((.int .i64 x90) :: (.int .i64 x77) :: (.bool false) :: dd u74 62 2 ((.int .u8 p2) :: (.int .u8 x125) :: (.int .u8 p3) :: (.int .u8 x131) :: dd u137 68 8 (dd u155 76 9 ((.int .u8 x55) :: dd u175 86 8 (dd u74 94 9 (un 24 ([])))))))))))).toArray, []⟩) a ∧ x176 = c177 ∧ St [] w0 w [rowE .u8 23 A8 c9 l76]) ?_ ?_
           ·refine gx_seq (fun K180 hK181 => ?_)
            refine gx_region ?_
            refine gx_k (.int .u8 x138) w153 (gx_k (.int .u8 x156) w153 ?_)
            rcases if_in hE178 with ⟨h182, hE178⟩ | ⟨h182, hE178⟩
            ·refine gx_v (.bool true) w153 (run_boolE (decide_eq_true h182) (by kernel_rfl)) ?_
             refine gx_k (.bool true) w153 (gx_k (.int .u8 x138) w153 ?_)
             rcases if_in hE178 with ⟨h183, hE178⟩ | ⟨h183, hE178⟩
             ·refine gx_v (.bool true) w153 (run_boolE (ne_yes h183) (by kernel_rfl)) ?_
              refine gx_k (.bool true) w153 ?_
              refine gx_nil ?_
              refine gx_thenN ?_
              refine hK181 _ _ ?_
              refine gx_yes (by kernel_rfl) ?_
              refine gx_region ?_
              refine gx_k (.int .u8 x138) w153 (gx_k (.int .u8 x138) w153 ?_)
              refine gx_nil ?_
              refine gx_thenN ?_
              exact ⟨x138, selfA_i (by kernel_rfl), (Option.some.inj hE178), hS154⟩
             ·refine gx_v (.bool false) w153 (run_boolE (ne_no h183) (by kernel_rfl)) ?_
              refine gx_k (.bool false) w153 ?_
              refine gx_nil ?_
              refine gx_thenN ?_
              refine hK181 _ _ ?_
              refine gx_no (by kernel_rfl) ?_
              refine gx_pass ?_
              refine gx_thenN ?_
              exact ⟨x55, selfA_i (by kernel_rfl), (Option.some.inj hE178), hS154⟩
            ·refine gx_v (.bool false) w153 (run_boolE (decide_eq_false h182) (by kernel_rfl)) ?_
             refine gx_k (.bool false) w153 (gx_o (gx_o (gx_k (.bool false) w153 ?_)))
             refine gx_nil ?_
             refine gx_thenN ?_
             refine hK181 _ _ ?_
             refine gx_no (by kernel_rfl) ?_
             refine gx_pass ?_
             refine gx_thenN ?_
             exact ⟨x55, selfA_i (by kernel_rfl), (Option.some.inj hE178), hS154⟩
           ·rintro _ w173 ⟨x176, hq216, rfl, hS174⟩
            obtain ⟨u175, rfl⟩ := selfA_u hq216
            try dsimp only at hO179
            obtain ⟨c190, hE191, hO192⟩ := bind_in hO179
            refine gx_mid (fun a w => ∃ (l188 : List Int) (x189 : Int), selfA (fun u186 => ⟨((.slice A0 p0.length c0) :: (.int .u8 p1) :: (.int .u8 p2) :: (.int .u8 p3) :: un 4 ((.slice none 0 0) :: (.slice A8 l10.length c9) :: (u7 10) :: (.int .u8 x55) :: (.int .i64 x189) :: (.int .i64 x90) :: (.int .u8 x138) :: (.int .u8 x156) :: (.int .u8 x176) :: un 3 (dd u7 20 18 (dd u54 38 3 ((.int .i64 x77) :: (u89 42) :: (.int .i64 ((l10.length : Nat) : Int)) :: (.bool true) :: (.int .i64 x77) :: dd u89 46 13 ((.int .i64 x90) :: (.int .i64 x77) :: (.bool false) :: dd u74 62 2 ((.int .u8 p2) :: (.int .u8 x125) :: (.int .u8 p3) :: (.int .u8 x131) :: dd u137 68 8 (dd u155 76 9 ((.int .u8 x55) :: dd u175 86 8 (dd u186 94 9 (un 24 ([])))))))))))).toArray, []⟩) a ∧ (l188, x189) = c190 ∧ St [] w0 w [rowE .u8 23 A8 c9 l188] ∧ l10.length = l188.length) ?_ ?_
            ·refine gx_block ?_
             refine gx_loop (fun k a w => ∃ (l197 : List Int) (x198 : Int), selfA (fun u195 => ⟨((.slice A0 p0.length c0) :: (.int .u8 p1) :: (.int .u8 p2) :: (.int .u8 p3) :: un 4 ((.slice none 0 0) :: (.slice A8 l10.length c9) :: (u7 10) :: (.int .u8 x55) :: (.int .i64 x198) :: (.int .i64 x90) :: (.int .u8 x138) :: (.int .u8 x156) :: (.int .u8 x176) :: un 3 (dd u7 20 18 (dd u54 38 3 ((.int .i64 x77) :: (u89 42) :: (.int .i64 ((l10.length : Nat) : Int)) :: (.bool true) :: (.int .i64 x77) :: dd u89 46 13 ((.int .i64 x90) :: (.int .i64 x77) :: (.bool false) :: dd u74 62 2 ((.int .u8 p2) :: (.int .u8 x125) :: (.int .u8 p3) :: (.int .u8 x131) :: dd u137 68 8 (dd u155 76 9 ((.int .u8 x55) :: dd u175 86 8 (dd u195 94 9 (un 24 ([])))))))))))).toArray, []⟩) a ∧ rNeutral_L4 N x90 x176 k l197 x198 = some c190 ∧ St [] w0 w [rowE .u8 23 A8 c9 l197] ∧ l10.length = l197.length) N ?_ ?_
             ·exact ⟨l76, x77, selfA_i (by kernel_rfl), hE191, hS174, hn75⟩
             ·rintro k199 _ w193 ⟨l197, x198, hq214, hL200, hS194, hn196⟩
              obtain ⟨u195, rfl⟩ := selfA_u hq214
              cases k199 with
              | zero => cases hL200
              | succ k199 =>
               first | rw [rNeutral_L4] at hL200 | unfold rNeutral_L4 at hL200
               refine gx_seq (fun K201 hK202 => ?_)
               refine gx_seq (fun K203 hK204 => ?_)
               refine gx_region ?_
               refine gx_k (.int .i64 x198) w193 (gx_k (.int .i64 x90) w193 ?_)
               rcases if_in hL200 with ⟨h205, hL200⟩ | ⟨h205, hL200⟩
               ·refine gx_v (.bool true) w193 (run_boolE (decide_eq_true h205) (by kernel_rfl)) ?_
                refine gx_nil ?_
                refine gx_thenN ?_
                refine hK204 _ _ ?_
                refine gx_yes (by kernel_rfl) ?_
                refine gx_pass ?_
                refine gx_thenN ?_
                refine hK202 _ _ ?_
                refine gx_seq (fun K206 hK207 => ?_)
                refine gx_block ?_
                refine gx_region ?_
                refine gx_k (.slice A8 l10.length c9) w193 (gx_k (.int .i64 x198) w193 (gx_k (.int .u8 x176) w193 ?_))
                obtain ⟨x208, hx209, hL200⟩ := bind_in hL200
                refine gx_v (.pointer (Option.map (fun (p : Addr) => p.add (Int.toNat x198 * 1)) A8)) w193 (run_ixaddr (E := 23) (s := 1) (k := .i64) (c := c9) rfl (by kernel_rfl) (by kernel_rfl) (by kernel_rfl) (fun _ => by kernel_rfl) (ix_in hx209).1 (lt_len hn196 (ix_in hx209).2.1) (nil_len hn196 (num_nil (hS194.row 0 rfl).1))) ?_
                obtain ⟨l212, hx213, hL200⟩ := bind_in hL200
                refine gx_s (st_storeix rfl (by kernel_rfl) (by kernel_rfl) (fun _ => by kernel_rfl) hS194 0 rfl hx213) ?_
                rintro w210 hS211
                have hS211 : St _ _ w210 [rowE .u8 23 A8 c9 l212] := hS211
                refine gx_nil ?_
                refine gx_blkN ?_
                refine gx_thenN ?_
                refine hK207 _ _ ?_
                refine gx_region ?_
                refine gx_k (.int .i64 x198) w210 (gx_k (.int .i64 (IntKind.i64.wrap (x198 + 1))) w210 (gx_k (.int .i64 (IntKind.i64.wrap (x198 + 1))) w210 ?_))
                refine gx_nil ?_
                refine gx_thenN ?_
                exact ⟨k199, Nat.lt_succ_self k199, l212, (IntKind.i64.wrap (x198 + 1)), selfA_i (by kernel_rfl), hL200, hS211, (hn196.trans (setx_len hx213).symm)⟩
               ·refine gx_v (.bool false) w193 (run_boolE (decide_eq_false h205) (by kernel_rfl)) ?_
                refine gx_nil ?_
                refine gx_thenN ?_
                refine hK204 _ _ ?_
                refine gx_no (by kernel_rfl) ?_
                refine gx_exit ?_
                refine gx_thenE ?_
                refine gx_thenE ?_
                refine gx_blkE ?_
                refine gx_thenN ?_
                exact ⟨l197, x198, selfA_i (by kernel_rfl), (Option.some.inj hL200), hS194, hn196⟩
            ·rintro _ w184 ⟨l188, x189, hq215, rfl, hS185, hn187⟩
             obtain ⟨u186, rfl⟩ := selfA_u hq215
             try dsimp only at hO192
             refine gx_blkN ?_
             refine gx_thenN ?_
             exact ⟨k78, Nat.lt_succ_self k78, l188, x189, selfA_i (by kernel_rfl), hO192, hS185, hn187⟩
      ·refine gx_v (.bool false) w72 (run_boolE (decide_eq_false h84) (by kernel_rfl)) ?_
       refine gx_nil ?_
       refine gx_thenN ?_
       refine hK83 _ _ ?_
       refine gx_no (by kernel_rfl) ?_
       refine gx_exit ?_
       refine gx_thenE ?_
       refine gx_thenE ?_
       refine gx_blkE ?_
       refine gx_thenN ?_
       exact ⟨l76, selfA_i (by kernel_rfl), (Option.some.inj hL79), hS73, hn75⟩
   ·rintro _ w62 ⟨l66, hq285, rfl, hS63, hn65⟩
    obtain ⟨u64, rfl⟩ := selfA_u hq285
    try dsimp only at hO69
    refine gx_seq (fun K221 hK222 => ?_)
    refine gx_region ?_
    refine gx_k (.slice none 0 0) w62 ?_
    refine gx_nil ?_
    refine gx_thenN ?_
    refine hK222 _ _ ?_
    refine gx_seq (fun K223 hK224 => ?_)
    refine gx_region ?_
    refine gx_k (.int .i64 0) w62 ?_
    refine gx_nil ?_
    refine gx_thenN ?_
    refine hK224 _ _ ?_
    obtain ⟨c231, hE232, hO233⟩ := bind_in hO69
    refine gx_cut (fun a w => ∃ (l230 : List Int) (A228 : Option Addr) (c229 : Nat), selfA (fun u227 => ⟨((u227 0) :: (.int .u8 p1) :: (.int .u8 p2) :: (.int .u8 p3) :: un 4 ((.slice none 0 0) :: (u227 9) :: (u7 10) :: (.int .u8 x55) :: dd u64 12 5 ((.slice A228 l230.length c229) :: dd u227 18 2 (dd u7 20 18 (dd u54 38 3 (dd u64 41 62 (dd u227 103 23 (undef :: [])))))))).toArray, []⟩) a ∧ l230 = c231 ∧ St [] w0 w [rowE .u8 23 A228 c229 l230]) ?_ ?_
    ·refine gx_seq (fun K234 hK235 => ?_)
     refine gx_region ?_
     refine gx_k (.int .i64 0) w62 ?_
     refine gx_nil ?_
     refine gx_thenN ?_
     refine hK235 _ _ ?_
     refine gx_block ?_
     have hS236 : St _ _ w62 [rowE .u8 23 A8 c9 l66, rowE .u8 23 none 0 ([])] := hS63.nilrow .u8 23
     refine gx_loop (fun k a w => ∃ (l242 : List Int) (x243 : Int) (x244 : Int) (A240 : Option Addr) (c241 : Nat), selfA (fun u239 => ⟨((.slice A0 p0.length c0) :: (.int .u8 p1) :: (.int .u8 p2) :: (.int .u8 p3) :: un 4 ((.slice none 0 0) :: (.slice A8 l10.length c9) :: (u7 10) :: (.int .u8 x55) :: dd u64 12 5 ((.slice A240 l242.length c241) :: (.int .i64 x243) :: (.int .i64 x244) :: dd u7 20 18 (dd u54 38 3 (dd u64 41 62 (dd u239 103 23 (undef :: []))))))).toArray, []⟩) a ∧ rNeutral_L5 N p0 l66 k l242 x243 x244 = some c231 ∧ St [] w0 w [rowE .u8 23 A8 c9 l66, rowE .u8 23 A240 c241 l242]) N ?_ ?_
     ·exact ⟨([]), 0, 0, none, 0, selfA_i (by kernel_rfl), hE232, hS236⟩
     ·rintro k245 _ w237 ⟨l242, x243, x244, A240, c241, hq281, hL246, hS238⟩
      obtain ⟨u239, rfl⟩ := selfA_u hq281
      cases k245 with
      | zero => cases hL246
      | succ k245 =>
       first | rw [rNeutral_L5] at hL246 | unfold rNeutral_L5 at hL246
       refine gx_seq (fun K247 hK248 => ?_)
       refine gx_seq (fun K249 hK250 => ?_)
       refine gx_region ?_
       refine gx_k (.int .i64 x244) w237 (gx_k (.slice A0 p0.length c0) w237 (gx_k (.int .i64 ((p0.length : Nat) : Int)) w237 ?_))
       rcases if_in hL246 with ⟨h251, hL246⟩ | ⟨h251, hL246⟩
       ·refine gx_v (.bool true) w237 (run_boolE (decide_eq_true h251) (by kernel_rfl)) ?_
        refine gx_nil ?_
        refine gx_thenN ?_
        refine hK250 _ _ ?_
        refine gx_yes (by kernel_rfl) ?_
        refine gx_pass ?_
        refine gx_thenN ?_
        refine hK248 _ _ ?_
        refine gx_seq (fun K252 hK253 => ?_)
        refine gx_block ?_
        refine gx_seq (fun K254 hK255 => ?_)
        refine gx_region ?_
        refine gx_k (.slice A0 p0.length c0) w237 (gx_k (.int .i64 x244) w237 ?_)
        obtain ⟨x256, hx257, hL246⟩ := bind_in hL246
        refine gx_v (.pointer (Option.map (fun (p : Addr) => p.add (Int.toNat x244 * 1)) A0)) w237 (run_ixaddr (E := 23) (s := 1) (k := .i64) (c := c0) rfl (by kernel_rfl) (by kernel_rfl) (by kernel_rfl) (fun _ => by kernel_rfl) (ix_in hx257).1 (ix_in hx257).2.1 (num_nil (hS238.view hv0))) ?_
        refine gx_v (.int .u8 x256) w237 (run_loadix rfl (by kernel_rfl) (fun _ => by kernel_rfl) (hS238.view hv0) hx257) ?_
        rcases if_in hL246 with ⟨h258, hL246⟩ | ⟨h258, hL246⟩
        ·refine gx_v (.bool true) w237 (run_boolE (decide_eq_true h258) (by kernel_rfl)) ?_
         refine gx_nil ?_
         refine gx_thenN ?_
         refine hK255 _ _ ?_
         refine gx_yes (by kernel_rfl) ?_
         refine gx_region ?_
         refine gx_k (.slice A240 l242.length c241) w237 ?_
         refine gx_r (st_made .u8 23 [10] hS238 (by show 1 ≤ 1000000000; decide) (by kernel_rfl)) ?_
         rintro _ w259 ⟨rfl, hS260⟩
         have hS260 : St _ _ w259 [rowE .u8 23 A8 c9 l66, rowE .u8 23 A240 c241 l242, rowE .u8 23 (some ⟨w237.heap.size, 0, none⟩) 1 ([10])] := hS260
         obtain ⟨l261, ha262, hL246⟩ := bind_in hL246
         obtain ⟨ha262, hq263⟩ := apx_in ha262
         refine gx_r (st_append rfl (by kernel_rfl) (by kernel_rfl) hS260 1 rfl (hS260.row 2 rfl).1 (hS260.row 2 rfl).2 ha262 (by kernel_rfl) (by kernel_rfl)) ?_
         rintro _ w266 ⟨A264, c265, rfl, hS267⟩
         rw [← hq263] at hS267 ⊢
         have hS267 : St _ _ w266 [rowE .u8 23 A8 c9 l66, rowE .u8 23 A264 c265 l261, rowE .u8 23 (some ⟨w237.heap.size, 0, none⟩) 1 ([10])] := hS267
         refine gx_k (.slice A264 l261.length c265) w266 ?_
         refine gx_nil ?_
         refine gx_blkN ?_
         refine gx_thenN ?_
         refine hK253 _ _ ?_
         refine gx_region ?_
         refine gx_k (.int .i64 x244) w266 (gx_k (.int .i64 (IntKind.i64.wrap (x244 + 1))) w266 (gx_k (.int .i64 (IntKind.i64.wrap (x244 + 1))) w266 ?_))
         refine gx_nil ?_
         refine gx_thenN ?_
         exact ⟨k245, Nat.lt_succ_self k245, l261, x243, (IntKind.i64.wrap (x244 + 1)), A264, c265, selfA_i (by kernel_rfl), hL246, (hS267.pick [0, 1] rfl rfl)⟩
        ·refine gx_v (.bool false) w237 (run_boolE (decide_eq_false h258) (by kernel_rfl)) ?_
         refine gx_nil ?_
         refine gx_thenN ?_
         refine hK255 _ _ ?_
         refine gx_no (by kernel_rfl) ?_
         refine gx_seq (fun K268 hK269 => ?_)
         refine gx_region ?_
         refine gx_k (.slice A240 l242.length c241) w237 (gx_k (.slice A8 l10.length c9) w237 (gx_k (.int .i64 x243) w237 ?_))
         obtain ⟨x270, hx271, hL246⟩ := bind_in hL246
         refine gx_v (.pointer (Option.map (fun (p : Addr) => p.add (Int.toNat x243 * 1)) A8)) w237 (run_ixaddr (E := 23) (s := 1) (k := .i64) (c := c9) rfl (by kernel_rfl) (by kernel_rfl) (by kernel_rfl) (fun _ => by kernel_rfl) (ix_in hx271).1 (lt_len hn65 (ix_in hx271).2.1) (nil_len hn65 (num_nil (hS238.row 0 rfl).1))) ?_
         refine gx_v (.int .u8 x270) w237 (run_loadix rfl (by kernel_rfl) (fun _ => by kernel_rfl) (hS238.row 0 rfl).1 hx271) ?_
         refine gx_r (st_made .u8 23 [x270] hS238 (by show 1 ≤ 1000000000; decide) (by kernel_rfl)) ?_
         rintro _ w272 ⟨rfl, hS273⟩
         have hS273 : St _ _ w272 [rowE .u8 23 A8 c9 l66, rowE .u8 23 A240 c241 l242, rowE .u8 23 (some ⟨w237.heap.size, 0, none⟩) 1 ([x270])] := hS273
         obtain ⟨l274, ha275, hL246⟩ := bind_in hL246
         obtain ⟨ha275, hq276⟩ := apx_in ha275
         refine gx_r (st_append rfl (by kernel_rfl) (by kernel_rfl) hS273 1 rfl (hS273.row 2 rfl).1 (hS273.row 2 rfl).2 ha275 (by kernel_rfl) (by kernel_rfl)) ?_
         rintro _ w279 ⟨A277, c278, rfl, hS280⟩
         rw [← hq276] at hS280 ⊢
         have hS280 : St _ _ w279 [rowE .u8 23 A8 c9 l66, rowE .u8 23 A277 c278 l274, rowE .u8 23 (some ⟨w237.heap.size, 0, none⟩) 1 ([x270])] := hS280
         refine gx_k (.slice A277 l274.length c278) w279 ?_
         refine gx_nil ?_
         refine gx_thenN ?_
         refine hK269 _ _ ?_
         refine gx_region ?_
         refine gx_k (.int .i64 x243) w279 (gx_k (.int .i64 (IntKind.i64.wrap (x243 + 1))) w279 (gx_k (.int .i64 (IntKind.i64.wrap (x243 + 1))) w279 ?_))
         refine gx_nil ?_
         refine gx_blkN ?_
         refine gx_thenN ?_
         refine hK253 _ _ ?_
         refine gx_region ?_
         refine gx_k (.int .i64 x244) w279 (gx_k (.int .i64 (IntKind.i64.wrap (x244 + 1))) w279 (gx_k (.int .i64 (IntKind.i64.wrap (x244 + 1))) w279 ?_))
         refine gx_nil ?_
         refine gx_thenN ?_
         exact ⟨k245, Nat.lt_succ_self k245, l274, (IntKind.i64.wrap (x243 + 1)), (IntKind.i64.wrap (x244 + 1)), A277, c278, selfA_i (by kernel_rfl), hL246, (hS280.pick [0, 1] rfl rfl)⟩
       ·refine gx_v (.bool false) w237 (run_boolE (decide_eq_false h251) (by kernel_rfl)) ?_
        refine gx_nil ?_
        refine gx_thenN ?_
        refine hK250 _ _ ?_
        refine gx_no (by kernel_rfl) ?_
        refine gx_exit ?_
        refine gx_thenE ?_
        refine gx_thenE ?_
        refine gx_blkE ?_
        refine gx_thenN ?_
        exact ⟨l242, A240, c241, selfA_i (by kernel_rfl), (Option.some.inj hL246), (hS238.pick [1] rfl rfl)⟩
    ·rintro _ w225 ⟨l230, A228, c229, hq284, rfl, hS226⟩
     obtain ⟨u227, rfl⟩ := selfA_u hq284
     try dsimp only at hO233
     refine gx_seq (fun K282 hK283 => ?_)
     refine gx_region ?_
     refine gx_k (.slice A228 l230.length c229) w225 (gx_k (.slice A228 l230.length c229) w225 ?_)
     refine gx_nil ?_
     refine gx_thenN ?_
     refine hK283 _ _ ?_
     refine gx_ret ?_
     obtain rfl := Option.some.inj hO233
     exact gx_fin (.slice A228 l230.length c229) (by kernel_rfl) (by kernel_rfl) ⟨_, rfl, A228, c229, rfl, hS226⟩

def rLvl_L1 (N : Nat) (p0 : List Int) (p1 : Int) : Nat → (List Int) → Int → Option (List Int)
 | 0, _, _ => none
 | k24+1, l22, x23 => (if x23 < ((p0.length : Nat) : Int) then ((((ix p0 x23).bind fun x42 => (if x42 = 4 then some (true) else ((ix p0 x23).bind fun x45 => (if x45 = 7 then some (true) else some (false))))) : Option (Bool)).bind fun b38 => (((((if (Int.tmod p1 2) = 0 then ((ix p0 x23).bind fun x65 => (if x65 = 2 then some (true) else some (false))) else some (false)) : Option (Bool)).bind fun b60 => (match b60 with | true => some (true) | false => (if (Int.tmod p1 2) = 1 then ((ix p0 x23).bind fun x69 => (if x69 = 1 then some (true) else some (b38))) else some (false)))) : Option (Bool)).bind fun b53 => (match b53 with | true => ((apx l22 ([(IntKind.u8.wrap (p1 + 1))])).bind fun l75 => rLvl_L1 N p0 p1 k24 l75 (IntKind.i64.wrap (x23 + 1))) | false => (if (Int.tmod p1 2) = 0 then (match b38 with | true => ((apx l22 ([(IntKind.u8.wrap (p1 + 2))])).bind fun l87 => rLvl_L1 N p0 p1 k24 l87 (IntKind.i64.wrap (x23 + 1))) | false => ((apx l22 ([p1])).bind fun l96 => rLvl_L1 N p0 p1 k24 l96 (IntKind.i64.wrap (x23 + 1)))) else ((apx l22 ([p1])).bind fun l105 => rLvl_L1 N p0 p1 k24 l105 (IntKind.i64.wrap (x23 + 1))))))) else some (l22))
def rLvl (N : Nat) (p0 : List Int) (p1 : Int) : Option (List Int) :=
 ((rLvl_L1 N p0 p1 N ([]) 0 : Option (List Int)).bind fun l10 => some l10)

set_option linter.unusedVariables false in
def rLvl_R (r : List Int) (w0 : World) (v : Value) (w : World) : Prop := ∃ (A0' : Option Addr) (c0' : Nat), v = .slice A0' r.length c0' ∧ St [] w0 w [rowE .u8 5 A0' c0' r]

set_option maxRecDepth 100000 in
set_option maxHeartbeats 4000000 in
theorem rLvl_ok (N : Nat) (p0 : List Int) (p1 : Int) (A0 : Option Addr) (c0 : Nat) (r : List Int) (hF : rLvl N p0 p1 = some r) (w0 : World) (hv0 : Vw [] .u8 w0 A0 c0 p0) :
  Calls Try.prog 24 #[.slice A0 p0.length c0, .int .u8 p1] w0 fun e w => ∃ v, e = .returned v ∧ rLvl_R r w0 v w := by
 have hS0 := St.start w0
 unfold rLvl at hF
 refine calls_of Try.func24 rfl ⟨((.slice A0 p0.length c0) :: (.int .u8 p1) :: un 66 ([])).toArray, []⟩ (by kernel_rfl) ?_
 refine gx_seq (fun K1 hK2 => ?_)
 refine gx_region ?_
 refine gx_k (.slice none 0 0) w0 ?_
 refine gx_nil ?_
 refine gx_thenN ?_
 refine hK2 _ _ ?_
 refine gx_seq (fun K3 hK4 => ?_)
 refine gx_region ?_
 refine gx_k (.slice none 0 0) w0 ?_
 refine gx_nil ?_
 refine gx_thenN ?_
 refine hK4 _ _ ?_
 obtain ⟨c11, hE12, hO13⟩ := bind_in hF
 refine gx_cut (fun a w => ∃ (l10 : List Int) (A8 : Option Addr) (c9 : Nat), selfA (fun u7 => ⟨((u7 0) :: (.int .u8 p1) :: undef :: undef :: (.slice none 0 0) :: (.slice A8 l10.length c9) :: dd u7 6 61 (undef :: [])).toArray, []⟩) a ∧ l10 = c11 ∧ St [] w0 w [rowE .u8 5 A8 c9 l10]) ?_ ?_
 ·refine gx_seq (fun K14 hK15 => ?_)
  refine gx_region ?_
  refine gx_k (.int .i64 0) w0 ?_
  refine gx_nil ?_
  refine gx_thenN ?_
  refine hK15 _ _ ?_
  refine gx_block ?_
  have hS16 : St _ _ w0 [rowE .u8 5 none 0 ([])] := hS0.nilrow .u8 5
  refine gx_loop (fun k a w => ∃ (l22 : List Int) (x23 : Int) (A20 : Option Addr) (c21 : Nat), selfA (fun u19 => ⟨((.slice A0 p0.length c0) :: (.int .u8 p1) :: undef :: undef :: (.slice none 0 0) :: (.slice A20 l22.length c21) :: (.int .i64 x23) :: dd u19 7 60 (undef :: [])).toArray, []⟩) a ∧ rLvl_L1 N p0 p1 k l22 x23 = some c11 ∧ St [] w0 w [rowE .u8 5 A20 c21 l22]) N ?_ ?_
  ·exact ⟨([]), 0, none, 0, selfA_i (by kernel_rfl), hE12, hS16⟩
  ·rintro k24 _ w17 ⟨l22, x23, A20, c21, hq114, hL25, hS18⟩
   obtain ⟨u19, rfl⟩ := selfA_u hq114
   cases k24 with
   | zero => cases hL25
   | succ k24 =>
    first | rw [rLvl_L1] at hL25 | unfold rLvl_L1 at hL25
    refine gx_seq (fun K26 hK27 => ?_)
    refine gx_seq (fun K28 hK29 => ?_)
    refine gx_region ?_
    refine gx_k (.int .i64 x23) w17 (gx_k (.slice A0 p0.length c0) w17 (gx_k (.int .i64 ((p0.length : Nat) : Int)) w17 ?_))
    rcases if_in hL25 with ⟨h30, hL25⟩ | ⟨h30, hL25⟩
    ·refine gx_v (.bool true) w17 (run_boolE (decide_eq_true h30) (by kernel_rfl)) ?_
     refine gx_nil ?_
     refine gx_thenN ?_
     refine hK29 _ _ ?_
     refine gx_yes (by kernel_rfl) ?_
     refine gx_pass ?_
     refine gx_thenN ?_
     refine hK27 _ _ ?_
     refine gx_seq (fun K31 hK32 => ?_)
     refine gx_block ?_
     refine gx_seq (fun K33 hK34 => ?_)
     refine gx_region ?_
     refine gx_k (.int .u8 p1) w17 (gx_k (.int .u8 p1) w17 ?_)
     refine gx_nil ?_
     refine gx_thenN ?_
     refine hK34 _ _ ?_
     obtain ⟨c39, hE40, hO41⟩ := bind_in hL25
     refine gx_cut (fun a w => ∃ (b38 : Bool), selfA (fun u37 => ⟨((.slice A0 p0.length c0) :: (.int .u8 p1) :: undef :: undef :: (.slice none 0 0) :: (.slice A20 l22.length c21) :: (.int .i64 x23) :: (.int .u8 p1) :: (.bool b38) :: (.int .i64 x23) :: (u37 10) :: (.int .i64 ((p0.length : Nat) : Int)) :: (.bool true) :: dd u19 13 2 ((.int .u8 p1) :: dd u37 16 12 (dd u19 28 39 (undef :: [])))).toArray, []⟩) a ∧ b38 = c39 ∧ St [] w0 w [rowE .u8 5 A20 c21 l22]) ?_ ?_
     ·refine gx_region ?_
      refine gx_k (.slice A0 p0.length c0) w17 (gx_k (.int .i64 x23) w17 ?_)
      obtain ⟨x42, hx43, hE40⟩ := bind_in hE40
      refine gx_v (.pointer (Option.map (fun (p : Addr) => p.add (Int.toNat x23 * 1)) A0)) w17 (run_ixaddr (E := 23) (s := 1) (k := .i64) (c := c0) rfl (by kernel_rfl) (by kernel_rfl) (by kernel_rfl) (fun _ => by kernel_rfl) (ix_in hx43).1 (ix_in hx43).2.1 (num_nil (hS18.view hv0))) ?_
      refine gx_v (.int .u8 x42) w17 (run_loadix rfl (by kernel_rfl) (fun _ => by kernel_rfl) (hS18.view hv0) hx43) ?_
      rcases if_in hE40 with ⟨h44, hE40⟩ | ⟨h44, hE40⟩
      ·refine gx_v (.bool true) w17 (run_boolE (decide_eq_true h44) (by kernel_rfl)) ?_
       refine gx_k (.bool true) w17 (gx_o (gx_o (gx_o (gx_o (gx_o (gx_k (.bool true) w17 (gx_k (.bool true) w17 ?_)))))))
       refine gx_nil ?_
       refine gx_thenN ?_
       exact ⟨true, selfA_i (by kernel_rfl), (Option.some.inj hE40), hS18⟩
      ·refine gx_v (.bool false) w17 (run_boolE (decide_eq_false h44) (by kernel_rfl)) ?_
       refine gx_k (.bool false) w17 (gx_k (.slice A0 p0.length c0) w17 (gx_k (.int .i64 x23) w17 ?_))
       obtain ⟨x45, hx46, hE40⟩ := bind_in hE40
       refine gx_v (.pointer (Option.map (fun (p : Addr) => p.add (Int.toNat x23 * 1)) A0)) w17 (run_ixaddr (E := 23) (s := 1) (k := .i64) (c := c0) rfl (by kernel_rfl) (by kernel_rfl) (by kernel_rfl) (fun _ => by kernel_rfl) (ix_in hx46).1 (ix_in hx46).2.1 (num_nil (hS18.view hv0))) ?_
       refine gx_v (.int .u8 x45) w17 (run_loadix rfl (by kernel_rfl) (fun _ => by kernel_rfl) (hS18.view hv0) hx46) ?_
       rcases if_in hE40 with ⟨h47, hE40⟩ | ⟨h47, hE40⟩
       ·refine gx_v (.bool true) w17 (run_boolE (decide_eq_true h47) (by kernel_rfl)) ?_
        refine gx_k (.bool true) w17 (gx_k (.bool true) w17 ?_)
        refine gx_nil ?_
        refine gx_thenN ?_
        exact ⟨true, selfA_i (by kernel_rfl), (Option.some.inj hE40), hS18⟩
       ·refine gx_v (.bool false) w17 (run_boolE (decide_eq_false h47) (by kernel_rfl)) ?_
        refine gx_k (.bool false) w17 (gx_k (.bool false) w17 ?_)
        refine gx_nil ?_
        refine gx_thenN ?_
        exact ⟨false, selfA_i (by kernel_rfl), (Option.some.inj hE40), hS18⟩
     ·rintro _ w35 ⟨b38, hq113, rfl, hS36⟩
      obtain ⟨u37, rfl⟩ := selfA_u hq113
      try dsimp only at hO41
      refine gx_seq (fun K48 hK49 => ?_)
      refine gx_block ?_
      obtain ⟨c54, hE55, hO56⟩ := bind_in hO41
      refine gx_cut (fun a w => ∃ (b53 : Bool), selfA (fun u52 => ⟨((.slice A0 p0.length c0) :: (.int .u8 p1) :: undef :: undef :: (.slice none 0 0) :: (.slice A20 l22.length c21) :: (.int .i64 x23) :: (.int .u8 p1) :: (.bool b38) :: (.int .i64 x23) :: (u37 10) :: (.int .i64 ((p0.length : Nat) : Int)) :: (.bool true) :: dd u19 13 2 ((.int .u8 p1) :: dd u37 16 12 ((.bool b53) :: dd u52 29 23 (dd u19 52 15 (undef :: []))))).toArray, []⟩) a ∧ b53 = c54 ∧ St [] w0 w [rowE .u8 5 A20 c21 l22]) ?_ ?_
      ·obtain ⟨c61, hE62, hO63⟩ := bind_in hE55
       refine gx_cut (fun a w => ∃ (b60 : Bool), selfA (fun u59 => ⟨((.slice A0 p0.length c0) :: (.int .u8 p1) :: undef :: undef :: (.slice none 0 0) :: (.slice A20 l22.length c21) :: (.int .i64 x23) :: (.int .u8 p1) :: (.bool b38) :: (.int .i64 x23) :: (u37 10) :: (.int .i64 ((p0.length : Nat) : Int)) :: (.bool true) :: dd u19 13 2 ((.int .u8 p1) :: dd u37 16 12 ((.bool b60) :: dd u59 29 10 (dd u19 39 28 (undef :: []))))).toArray, []⟩) a ∧ b60 = c61 ∧ St [] w0 w [rowE .u8 5 A20 c21 l22]) ?_ ?_
       ·refine gx_region ?_
        refine gx_k (.int .u8 p1) w35 (gx_k (.int .u8 (Int.tmod p1 2)) w35 ?_)
        rcases if_in hE62 with ⟨h64, hE62⟩ | ⟨h64, hE62⟩
        ·refine gx_v (.bool true) w35 (run_boolE (decide_eq_true h64) (by kernel_rfl)) ?_
         refine gx_k (.bool true) w35 (gx_k (.slice A0 p0.length c0) w35 (gx_k (.int .i64 x23) w35 ?_))
         obtain ⟨x65, hx66, hE62⟩ := bind_in hE62
         refine gx_v (.pointer (Option.map (fun (p : Addr) => p.add (Int.toNat x23 * 1)) A0)) w35 (run_ixaddr (E := 23) (s := 1) (k := .i64) (c := c0) rfl (by kernel_rfl) (by kernel_rfl) (by kernel_rfl) (fun _ => by kernel_rfl) (ix_in hx66).1 (ix_in hx66).2.1 (num_nil (hS36.view hv0))) ?_
         refine gx_v (.int .u8 x65) w35 (run_loadix rfl (by kernel_rfl) (fun _ => by kernel_rfl) (hS36.view hv0) hx66) ?_
         rcases if_in hE62 with ⟨h67, hE62⟩ | ⟨h67, hE62⟩
         ·refine gx_v (.bool true) w35 (run_boolE (decide_eq_true h67) (by kernel_rfl)) ?_
          refine gx_k (.bool true) w35 (gx_k (.bool true) w35 ?_)
          refine gx_nil ?_
          refine gx_thenN ?_
          exact ⟨true, selfA_i (by kernel_rfl), (Option.some.inj hE62), hS36⟩
         ·refine gx_v (.bool false) w35 (run_boolE (decide_eq_false h67) (by kernel_rfl)) ?_
          refine gx_k (.bool false) w35 (gx_k (.bool false) w35 ?_)
          refine gx_nil ?_
          refine gx_thenN ?_
          exact ⟨false, selfA_i (by kernel_rfl), (Option.some.inj hE62), hS36⟩
        ·refine gx_v (.bool false) w35 (run_boolE (decide_eq_false h64) (by kernel_rfl)) ?_
         refine gx_k (.bool false) w35 (gx_o (gx_o (gx_o (gx_o (gx_o (gx_k (.bool false) w35 (gx_k (.bool false) w35 ?_)))))))
         refine gx_nil ?_
         refine gx_thenN ?_
         exact ⟨false, selfA_i (by kernel_rfl), (Option.some.inj hE62), hS36⟩
       ·rintro _ w57 ⟨b60, hq72, rfl, hS58⟩
        obtain ⟨u59, rfl⟩ := selfA_u hq72
        try dsimp only at hO63
        cases b60 with
        | true =>
         try dsimp only at hO63
         refine gx_yes (by kernel_rfl) ?_
         refine gx_pass ?_
         refine gx_thenN ?_
         exact ⟨true, selfA_i (by kernel_rfl), (Option.some.inj hO63), hS58⟩
        | false =>
         try dsimp only at hO63
         refine gx_no (by kernel_rfl) ?_
         refine gx_region ?_
         refine gx_k (.int .u8 p1) w57 (gx_k (.int .u8 (Int.tmod p1 2)) w57 ?_)
         rcases if_in hO63 with ⟨h68, hO63⟩ | ⟨h68, hO63⟩
         ·refine gx_v (.bool true) w57 (run_boolE (decide_eq_true h68) (by kernel_rfl)) ?_
          refine gx_k (.bool true) w57 (gx_k (.slice A0 p0.length c0) w57 (gx_k (.int .i64 x23) w57 ?_))
          obtain ⟨x69, hx70, hO63⟩ := bind_in hO63
          refine gx_v (.pointer (Option.map (fun (p : Addr) => p.add (Int.toNat x23 * 1)) A0)) w57 (run_ixaddr (E := 23) (s := 1) (k := .i64) (c := c0) rfl (by kernel_rfl) (by kernel_rfl) (by kernel_rfl) (fun _ => by kernel_rfl) (ix_in hx70).1 (ix_in hx70).2.1 (num_nil (hS58.view hv0))) ?_
          refine gx_v (.int .u8 x69) w57 (run_loadix rfl (by kernel_rfl) (fun _ => by kernel_rfl) (hS58.view hv0) hx70) ?_
          rcases if_in hO63 with ⟨h71, hO63⟩ | ⟨h71, hO63⟩
          ·refine gx_v (.bool true) w57 (run_boolE (decide_eq_true h71) (by kernel_rfl)) ?_
           refine gx_k (.bool true) w57 (gx_o (gx_k (.bool true) w57 (gx_k (.bool true) w57 (gx_k (.bool true) w57 ?_))))
           refine gx_nil ?_
           refine gx_thenN ?_
           exact ⟨true, selfA_i (by kernel_rfl), (Option.some.inj hO63), hS58⟩
          ·refine gx_v (.bool false) w57 (run_boolE (decide_eq_false h71) (by kernel_rfl)) ?_
           refine gx_k (.bool false) w57 (gx_k (.bool b38) w57 (gx_k (.bool b38) w57 (gx_k (.bool b38) w57 (gx_k (.bool b38) w57 ?_))))
           refine gx_nil ?_
           refine gx_thenN ?_
           exact ⟨b38, selfA_i (by kernel_rfl), (Option.some.inj hO63), hS58⟩
         ·refine gx_v (.bool false) w57 (run_boolE (decide_eq_false h68) (by kernel_rfl)) ?_
          refine gx_k (.bool false) w57 (gx_o (gx_o (gx_o (gx_o (gx_o (gx_o (gx_o ?_)))))))
          refine gx_o (gx_k (.bool false) w57 (gx_k (.bool false) w57 ?_))
          refine gx_nil ?_
          refine gx_thenN ?_
          exact ⟨false, selfA_i (by kernel_rfl), (Option.some.inj hO63), hS58⟩
      ·rintro _ w50 ⟨b53, hq112, rfl, hS51⟩
       obtain ⟨u52, rfl⟩ := selfA_u hq112
       try dsimp only at hO56
       cases b53 with
       | true =>
        try dsimp only at hO56
        refine gx_yes (by kernel_rfl) ?_
        refine gx_region ?_
        refine gx_k (.int .u8 p1) w50 (gx_k (.int .u8 (IntKind.u8.wrap (p1 + 1))) w50 (gx_k (.int .u8 (IntKind.u8.wrap (p1 + 1))) w50 ?_))
        refine gx_nil ?_
        refine gx_blkN ?_
        refine gx_thenN ?_
        refine hK49 _ _ ?_
        refine gx_region ?_
        refine gx_k (.slice A20 l22.length c21) w50 (gx_k (.int .u8 (IntKind.u8.wrap (p1 + 1))) w50 ?_)
        refine gx_r (st_made .u8 5 [(IntKind.u8.wrap (p1 + 1))] hS51 (by show 1 ≤ 1000000000; decide) (by kernel_rfl)) ?_
        rintro _ w73 ⟨rfl, hS74⟩
        have hS74 : St _ _ w73 [rowE .u8 5 A20 c21 l22, rowE .u8 5 (some ⟨w50.heap.size, 0, none⟩) 1 ([(IntKind.u8.wrap (p1 + 1))])] := hS74
        obtain ⟨l75, ha76, hO56⟩ := bind_in hO56
        obtain ⟨ha76, hq77⟩ := apx_in ha76
        refine gx_r (st_append rfl (by kernel_rfl) (by kernel_rfl) hS74 0 rfl (hS74.row 1 rfl).1 (hS74.row 1 rfl).2 ha76 (by kernel_rfl) (by kernel_rfl)) ?_
        rintro _ w80 ⟨A78, c79, rfl, hS81⟩
        rw [← hq77] at hS81 ⊢
        have hS81 : St _ _ w80 [rowE .u8 5 A78 c79 l75, rowE .u8 5 (some ⟨w50.heap.size, 0, none⟩) 1 ([(IntKind.u8.wrap (p1 + 1))])] := hS81
        refine gx_k (.slice A78 l75.length c79) w80 ?_
        refine gx_nil ?_
        refine gx_blkN ?_
        refine gx_thenN ?_
        refine hK32 _ _ ?_
        refine gx_region ?_
        refine gx_k (.int .i64 x23) w80 (gx_k (.int .i64 (IntKind.i64.wrap (x23 + 1))) w80 (gx_k (.int .i64 (IntKind.i64.wrap (x23 + 1))) w80 ?_))
        refine gx_nil ?_
        refine gx_thenN ?_
        exact ⟨k24, Nat.lt_succ_self k24, l75, (IntKind.i64.wrap (x23 + 1)), A78, c79, selfA_i (by kernel_rfl), hO56, (hS81.pick [0] rfl rfl)⟩
       | false =>
        try dsimp only at hO56
        refine gx_no (by kernel_rfl) ?_
        refine gx_seq (fun K82 hK83 => ?_)
        refine gx_region ?_
        refine gx_k (.int .u8 p1) w50 (gx_k (.int .u8 (Int.tmod p1 2)) w50 ?_)
        rcases if_in hO56 with ⟨h84, hO56⟩ | ⟨h84, hO56⟩
        ·refine gx_v (.bool true) w50 (run_boolE (decide_eq_true h84) (by kernel_rfl)) ?_
         refine gx_k (.bool true) w50 (gx_k (.bool b38) w50 (gx_k (.bool b38) w50 (gx_k (.bool b38) w50 ?_)))
         refine gx_nil ?_
         refine gx_thenN ?_
         refine hK83 _ _ ?_
         cases b38 with
         | true =>
          try dsimp only at hO56
          refine gx_yes (by kernel_rfl) ?_
          refine gx_region ?_
          refine gx_k (.int .u8 p1) w50 (gx_k (.int .u8 (IntKind.u8.wrap (p1 + 2))) w50 (gx_k (.int .u8 (IntKind.u8.wrap (p1 + 2))) w50 ?_))
          refine gx_nil ?_
          refine gx_blkN ?_
          refine gx_thenN ?_
          refine hK49 _ _ ?_
          refine gx_region ?_
          refine gx_k (.slice A20 l22.length c21) w50 (gx_k (.int .u8 (IntKind.u8.wrap (p1 + 2))) w50 ?_)
          refine gx_r (st_made .u8 5 [(IntKind.u8.wrap (p1 + 2))] hS51 (by show 1 ≤ 1000000000; decide) (by kernel_rfl)) ?_
          rintro _ w85 ⟨rfl, hS86⟩
          have hS86 : St _ _ w85 [rowE .u8 5 A20 c21 l22, rowE .u8 5 (some ⟨w50.heap.size, 0, none⟩) 1 ([(IntKind.u8.wrap (p1 + 2))])] := hS86
          obtain ⟨l87, ha88, hO56⟩ := bind_in hO56
          obtain ⟨ha88, hq89⟩ := apx_in ha88
          refine gx_r (st_append rfl (by kernel_rfl) (by kernel_rfl) hS86 0 rfl (hS86.row 1 rfl).1 (hS86.row 1 rfl).2 ha88 (by kernel_rfl) (by kernel_rfl)) ?_
          rintro _ w92 ⟨A90, c91, rfl, hS93⟩
          rw [← hq89] at hS93 ⊢
          have hS93 : St _ _ w92 [rowE .u8 5 A90 c91 l87, rowE .u8 5 (some ⟨w50.heap.size, 0, none⟩) 1 ([(IntKind.u8.wrap (p1 + 2))])] := hS93
          refine gx_k (.slice A90 l87.length c91) w92 ?_
          refine gx_nil ?_
          refine gx_blkN ?_
          refine gx_thenN ?_
          refine hK32 _ _ ?_
          refine gx_region ?_
          refine gx_k (.int .i64 x23) w92 (gx_k (.int .i64 (IntKind.i64.wrap (x23 + 1))) w92 (gx_k (.int .i64 (IntKind.i64.wrap (x23 + 1))) w92 ?_))
          refine gx_nil ?_
          refine gx_thenN ?_
          exact ⟨k24, Nat.lt_succ_self k24, l87, (IntKind.i64.wrap (x23 + 1)), A90, c91, selfA_i (by kernel_rfl), hO56, (hS93.pick [0] rfl rfl)⟩
         | false =>
          try dsimp only at hO56
          refine gx_no (by kernel_rfl) ?_
          refine gx_pass ?_
          refine gx_blkN ?_
          refine gx_thenN ?_
          refine hK49 _ _ ?_
          refine gx_region ?_
          refine gx_k (.slice A20 l22.length c21) w50 (gx_k (.int .u8 p1) w50 ?_)
          refine gx_r (st_made .u8 5 [p1] hS51 (by show 1 ≤ 1000000000; decide) (by kernel_rfl)) ?_
          rintro _ w94 ⟨rfl, hS95⟩
          have hS95 : St _ _ w94 [rowE .u8 5 A20 c21 l22, rowE .u8 5 (some ⟨w50.heap.size, 0, none⟩) 1 ([p1])] := hS95
          obtain ⟨l96, ha97, hO56⟩ := bind_in hO56
          obtain ⟨ha97, hq98⟩ := apx_in ha97
          refine gx_r (st_append rfl (by kernel_rfl) (by kernel_rfl) hS95 0 rfl (hS95.row 1 rfl).1 (hS95.row 1 rfl).2 ha97 (by kernel_rfl) (by kernel_rfl)) ?_
          rintro _ w101 ⟨A99, c100, rfl, hS102⟩
          rw [← hq98] at hS102 ⊢
          have hS102 : St _ _ w101 [rowE .u8 5 A99 c100 l96, rowE .u8 5 (some ⟨w50.heap.size, 0, none⟩) 1 ([p1])] := hS102
          refine gx_k (.slice A99 l96.length c100) w101 ?_
          refine gx_nil ?_
          refine gx_blkN ?_
          refine gx_thenN ?_
          refine hK32 _ _ ?_
          refine gx_region ?_
          refine gx_k (.int .i64 x23) w101 (gx_k (.int .i64 (IntKind.i64.wrap (x23 + 1))) w101 (gx_k (.int .i64 (IntKind.i64.wrap (x23 + 1))) w101 ?_))
          refine gx_nil ?_
          refine gx_thenN ?_
          exact ⟨k24, Nat.lt_succ_self k24, l96, (IntKind.i64.wrap (x23 + 1)), A99, c100, selfA_i (by kernel_rfl), hO56, (hS102.pick [0] rfl rfl)⟩
        ·refine gx_v (.bool false) w50 (run_boolE (decide_eq_false h84) (by kernel_rfl)) ?_
         refine gx_k (.bool false) w50 (gx_o (gx_k (.bool false) w50 (gx_k (.bool false) w50 ?_)))
         refine gx_nil ?_
         refine gx_thenN ?_
         refine hK83 _ _ ?_
         refine gx_no (by kernel_rfl) ?_
         refine gx_pass ?_
         refine gx_blkN ?_
         refine gx_thenN ?_
         refine hK49 _ _ ?_
         refine gx_region ?_
         refine gx_k (.slice A20 l22.length c21) w50 (gx_k (.int .u8 p1) w50 ?_)
         refine gx_r (st_made .u8 5 [p1] hS51 (by show 1 ≤ 1000000000; decide) (by kernel_rfl)) ?_
         rintro _ w103 ⟨rfl, hS104⟩
         have hS104 : St _ _ w103 [rowE .u8 5 A20 c21 l22, rowE .u8 5 (some ⟨w50.heap.size, 0, none⟩) 1 ([p1])] := hS104
         obtain ⟨l105, ha106, hO56⟩ := bind_in hO56
         obtain ⟨ha106, hq107⟩ := apx_in ha106
         refine gx_r (st_append rfl (by kernel_rfl) (by kernel_rfl) hS104 0 rfl (hS104.row 1 rfl).1 (hS104.row 1 rfl).2 ha106 (by kernel_rfl) (by kernel_rfl)) ?_
         rintro _ w110 ⟨A108, c109, rfl, hS111⟩
         rw [← hq107] at hS111 ⊢
         have hS111 : St _ _ w110 [rowE .u8 5 A108 c109 l105, rowE .u8 5 (some ⟨w50.heap.size, 0, none⟩) 1 ([p1])] := hS111
         refine gx_k (.slice A108 l105.length c109) w110 ?_
         refine gx_nil ?_
         refine gx_blkN ?_
         refine gx_thenN ?_
         refine hK32 _ _ ?_
         refine gx_region ?_
         refine gx_k (.int .i64 x23) w110 (gx_k (.int .i64 (IntKind.i64.wrap (x23 + 1))) w110 (gx_k (.int .i64 (IntKind.i64.wrap (x23 + 1))) w110 ?_))
         refine gx_nil ?_
         refine gx_thenN ?_
         exact ⟨k24, Nat.lt_succ_self k24, l105, (IntKind.i64.wrap (x23 + 1)), A108, c109, selfA_i (by kernel_rfl), hO56, (hS111.pick [0] rfl rfl)⟩
    ·refine gx_v (.bool false) w17 (run_boolE (decide_eq_false h30) (by kernel_rfl)) ?_
     refine gx_nil ?_
     refine gx_thenN ?_
     refine hK29 _ _ ?_
     refine gx_no (by kernel_rfl) ?_
     refine gx_exit ?_
     refine gx_thenE ?_
     refine gx_thenE ?_
     refine gx_blkE ?_
     refine gx_thenN ?_
     exact ⟨l22, A20, c21, selfA_i (by kernel_rfl), (Option.some.inj hL25), hS18⟩
 ·rintro _ w5 ⟨l10, A8, c9, hq117, rfl, hS6⟩
  obtain ⟨u7, rfl⟩ := selfA_u hq117
  try dsimp only at hO13
  refine gx_seq (fun K115 hK116 => ?_)
  refine gx_region ?_
  refine gx_k (.slice A8 l10.length c9) w5 (gx_k (.slice A8 l10.length c9) w5 ?_)
  refine gx_nil ?_
  refine gx_thenN ?_
  refine hK116 _ _ ?_
  refine gx_ret ?_
  obtain rfl := Option.some.inj hO13
  exact gx_fin (.slice A8 l10.length c9) (by kernel_rfl) (by kernel_rfl) ⟨_, rfl, A8, c9, rfl, hS6⟩

end Go.Proofs.Ytdpcaidhpccaiaa
