/-
  EmbedOnce, walked.
-/
import Derived.Test.YtjndolnjhbgflaaF1
namespace Go.Proofs.Ytjndolnjhbgflaa
open Go Go.RowKit
set_option linter.unusedVariables false

def fOnce_L3 (N : Nat) (p0 : List Int) (l73 : List Int) (x147 : Int) (x148 : Int) (x219 : Int) : Nat → Int → Option (Ctl (Unit) (Bool))
 | 0, _ => none
 | k338+1, x337 => (if x148 > 0 then (if x337 < x219 then ((ix p0 x337).bind fun x350 => ((rRem N x350).bind fun b354 => (match b354 with | true => fOnce_L3 N p0 l73 x147 x148 x219 k338 (IntKind.i64.wrap (x337 + 1)) | false => ((ix l73 x147).bind fun x358 => (if x358 ≠ x219 then some (Ctl.ret false) else fOnce_L3 N p0 l73 x147 x148 x219 k338 (IntKind.i64.wrap (x337 + 1))))))) else some (Ctl.go ())) else some (Ctl.go ()))
def fOnce_L2 (N : Nat) (p0 : List Int) (l20 : List Int) (l48 : List (List Int × Int × Int × Int)) (l73 : List Int) (x108 : Int) : Nat → (List (Bool)) → Int → Int → Option (Ctl (List (Bool)) (Bool))
 | 0, _, _, _ => none
 | k149+1, l144, x147, x148 => ((ixg l48 x108).bind fun x155 => (if x148 < (((x155.1).length : Nat) : Int) then ((((ixg l48 x108).bind fun x194 => ((ix x194.1 x148).bind fun x219 => (((((if x219 ≤ x147 then some (true) else (if x219 ≥ ((p0.length : Nat) : Int) then some (true) else some (false))) : Option (Bool)).bind fun b234 => (((match b234 with | true => some (true) | false => ((ixg l144 x219).bind fun x251 => some (x251))) : Option (Bool)).bind fun b245 => (((match b245 with | true => some (true) | false => ((ix p0 x219).bind fun x269 => ((rRem N x269).bind fun b273 => some (b273)))) : Option (Bool)).bind fun b263 => (match b263 with | true => some (Ctl.ret false) | false => ((ix l20 x219).bind fun x279 => ((ixg l48 x108).bind fun x281 => (if x279 ≠ x281.2.1 then some (Ctl.ret false) else some (Ctl.go ())))))))) : Option (Ctl (Unit) (Bool))).bind fun | Ctl.go () => ((ixg l144 x219).bind fun _x311 => ((setg l144 x219 true).bind fun l320 => ((fOnce_L3 N p0 l73 x147 x148 x219 N (IntKind.i64.wrap (x147 + 1)) : Option (Ctl (Unit) (Bool))).bind fun | Ctl.go () => some (Ctl.go (l320, x219)) | Ctl.ret r => some (Ctl.ret r)))) | Ctl.ret r => some (Ctl.ret r)))) : Option (Ctl (List (Bool) × Int) (Bool))).bind fun | Ctl.go (l185, x188) => fOnce_L2 N p0 l20 l48 l73 x108 k149 l185 x188 (IntKind.i64.wrap (x148 + 1)) | Ctl.ret r => some (Ctl.ret r)) else some (Ctl.go l144)))
def fOnce_L1 (N : Nat) (p0 : List Int) (l20 : List Int) (l48 : List (List Int × Int × Int × Int)) (l73 : List Int) : Nat → (List (Bool)) → Int → Option (Ctl (List (Bool)) (Bool))
 | 0, _, _ => none
 | k109+1, l105, x108 => (if x108 < ((l48.length : Nat) : Int) then ((((fOnce_L2 N p0 l20 l48 l73 x108 N l105 (-1) 0 : Option (Ctl (List (Bool)) (Bool))).bind fun | Ctl.go l132 => ((ixg l48 x108).bind fun x372 => (if (((x372.1).length : Nat) : Int) = 0 then some (Ctl.ret false) else (if x108 > 0 then ((ixg l48 x108).bind fun x401 => ((ix x401.1 (0 : Int)).bind fun x426 => ((ixg l48 (IntKind.i64.wrap (x108 - 1))).bind fun x428 => ((ix x428.1 (0 : Int)).bind fun x453 => (if x426 ≤ x453 then some (Ctl.ret false) else some (Ctl.go l132)))))) else some (Ctl.go l132)))) | Ctl.ret r => some (Ctl.ret r)) : Option (Ctl (List (Bool)) (Bool))).bind fun | Ctl.go l120 => fOnce_L1 N p0 l20 l48 l73 k109 l120 (IntKind.i64.wrap (x108 + 1)) | Ctl.ret r => some (Ctl.ret r)) else some (Ctl.go l105))
def fOnce_L4 (N : Nat) (p0 : List Int) (l93 : List (Bool)) : Nat → Int → Option (Ctl (Unit) (Bool))
 | 0, _ => none
 | k473+1, x472 => (if x472 < ((p0.length : Nat) : Int) then ((ixg l93 x472).bind fun x486 => ((ix p0 x472).bind fun x495 => ((rRem N x495).bind fun b499 => (match x486 with | true => (match b499 with | true => some (Ctl.ret false) | false => fOnce_L4 N p0 l93 k473 (IntKind.i64.wrap (x472 + 1))) | false => (match b499 with | true => fOnce_L4 N p0 l93 k473 (IntKind.i64.wrap (x472 + 1)) | false => some (Ctl.ret false)))))) else some (Ctl.go ()))
def fOnce (N : Nat) (p0 : List Int) (p1 : Int) : Option (Bool) :=
 (if ((p0.length : Nat) : Int) > 2000 then ((kIso N ).bind fun b12 => some b12) else ((rLevels N p0 p1).bind fun (l20, _l23, x26, x27) => (if x27 ≠ 0 then ((kIso N ).bind fun b40 => some b40) else ((pSeqs N p0 l20 x26).bind fun (l48, x52) => (if x52 ≠ 0 then some false else ((rMatch N p0).bind fun l73 => ((mkg ((p0.length : Nat) : Int) (false : Bool)).bind fun l81 => ((fOnce_L1 N p0 l20 l48 l73 N l81 0 : Option (Ctl (List (Bool)) (Bool))).bind fun | Ctl.go l93 => ((fOnce_L4 N p0 l93 N 0 : Option (Ctl (Unit) (Bool))).bind fun | Ctl.go () => ((kIso N ).bind fun b512 => some b512) | Ctl.ret r => some r) | Ctl.ret r => some r))))))))

set_option linter.unusedVariables false in
def fOnce_R (r : Bool) (w0 : World) (v : Value) (w : World) : Prop := v = .bool r ∧ St [] w0 w []

set_option maxRecDepth 100000 in
set_option maxHeartbeats 4000000 in
theorem fOnce_ok (N : Nat) (p0 : List Int) (p1 : Int) (A0 : Option Addr) (c0 : Nat) (r : Bool) (hF : fOnce N p0 p1 = some r) (w0 : World) (hv0 : Vw [] .u8 w0 A0 c0 p0) :
  Calls Try.prog 4 #[.slice A0 p0.length c0, .int .u8 p1] w0 fun e w => ∃ v, e = .returned v ∧ fOnce_R r w0 v w := by
 have hS0 := (St.start w0).pool0
 unfold fOnce at hF
 refine calls_of Try.func4 rfl ⟨((.slice A0 p0.length c0) :: (.int .u8 p1) :: un 179 ([])).toArray, []⟩ (by as_aux_lemma => kernel_rfl) ?_
 refine gx_seq (fun K1 hK2 => ?_)
 refine gx_region ?_
 refine gx_kA (.bool false) w0 ?_
 refine gx_nil ?_
 refine gx_thenN ?_
 refine hK2 _ _ ?_
 refine gx_seq (fun K3 hK4 => ?_)
 refine gx_seq (fun K5 hK6 => ?_)
 refine gx_region ?_
 refine gx_kA (.slice A0 p0.length c0) w0 (gx_kA (.int .i64 ((p0.length : Nat) : Int)) w0 ?_)
 rcases if_in hF with ⟨h7, hF⟩ | ⟨h7, hF⟩
 ·refine gx_vA (.bool true) w0 (run_boolE (decide_eq_true h7) (by as_aux_lemma => kernel_rfl)) ?_
  refine gx_nil ?_
  refine gx_thenN ?_
  refine hK6 _ _ ?_
  refine gx_yes (by as_aux_lemma => kernel_rfl) ?_
  refine gx_seq (fun K8 hK9 => ?_)
  refine gx_region ?_
  have hP10 : St _ _ w0 ([] ++ [poolE ([]) w0]) := hS0
  obtain ⟨b12, hc11, hF⟩ := bind_in hF
  try dsimp only at hF
  refine gx_cA (kIso_R b12 w0) (kIso_ok N  _ hc11 w0 ) ?_
  rintro _ w13 ⟨rfl, hT15⟩
  have hS14 : St _ _ w13 [poolE ([]) w0] := hS0.take _ hT15
  refine gx_kA (.bool b12) w13 ?_
  refine gx_nil ?_
  refine gx_thenN ?_
  refine hK9 _ _ ?_
  refine gx_ret ?_
  refine gx_thenR ?_
  obtain rfl := Option.some.inj hF
  exact gx_fin (.bool b12) (by as_aux_lemma => kernel_rfl) (by as_aux_lemma => kernel_rfl) ⟨_, rfl, rfl, (hS14.pick [] rfl rfl)⟩
 ·refine gx_vA (.bool false) w0 (run_boolE (decide_eq_false h7) (by as_aux_lemma => kernel_rfl)) ?_
  refine gx_nil ?_
  refine gx_thenN ?_
  refine hK6 _ _ ?_
  refine gx_no (by as_aux_lemma => kernel_rfl) ?_
  refine gx_pass ?_
  refine gx_thenN ?_
  refine hK4 _ _ ?_
  refine gx_seq (fun K16 hK17 => ?_)
  refine gx_region ?_
  refine gx_kA (.slice A0 p0.length c0) w0 (gx_kA (.int .u8 p1) w0 ?_)
  have hP18 : St _ _ w0 ([] ++ [poolE ([]) w0]) := hS0
  obtain ⟨⟨l20, l23, x26, x27⟩, hc19, hF⟩ := bind_in hF
  try dsimp only at hF
  refine gx_cA (rLevels_R (l20, l23, x26, x27) w0) (rLevels_ok N p0 p1 A0 c0 _ hc19 w0 (hP18.vwA hv0)) ?_
  rintro _ w28 ⟨A21, c22, A24, c25, rfl, hT30⟩
  have hS29 : St _ _ w28 [poolE ([]) w0, rowE .u8 5 A21 c22 l20, rowE .u8 34 A24 c25 l23] := hS0.take _ hT30
  refine gx_kA (.tuple #[.slice A21 l20.length c22, .slice A24 l23.length c25, .int .u8 x26, .int .i64 x27]) w28 (gx_kA (.slice A21 l20.length c22) w28 (gx_kA (.slice A24 l23.length c25) w28 (gx_kA (.int .u8 x26) w28 (gx_kA (.int .i64 x27) w28 (gx_kA (.slice A21 l20.length c22) w28 (gx_kA (.slice A24 l23.length c25) w28 (gx_kA (.int .u8 x26) w28 ?_)))))))
  refine gx_kA (.int .i64 x27) w28 ?_
  refine gx_nil ?_
  refine gx_thenN ?_
  refine hK17 _ _ ?_
  refine gx_seq (fun K31 hK32 => ?_)
  refine gx_seq (fun K33 hK34 => ?_)
  refine gx_region ?_
  refine gx_kA (.int .i64 x27) w28 ?_
  rcases if_in hF with ⟨h35, hF⟩ | ⟨h35, hF⟩
  ·refine gx_vA (.bool true) w28 (run_boolE (ne_yes h35) (by as_aux_lemma => kernel_rfl)) ?_
   refine gx_nil ?_
   refine gx_thenN ?_
   refine hK34 _ _ ?_
   refine gx_yes (by as_aux_lemma => kernel_rfl) ?_
   refine gx_seq (fun K36 hK37 => ?_)
   refine gx_region ?_
   have hP38 : St _ _ w28 ([] ++ [poolE ([]) w0, rowE .u8 5 A21 c22 l20, rowE .u8 34 A24 c25 l23]) := hS29
   obtain ⟨b40, hc39, hF⟩ := bind_in hF
   try dsimp only at hF
   refine gx_cA (kIso_R b40 w28) (kIso_ok N  _ hc39 w28 ) ?_
   rintro _ w41 ⟨rfl, hT43⟩
   have hS42 : St _ _ w41 [poolE ([]) w0, rowE .u8 5 A21 c22 l20, rowE .u8 34 A24 c25 l23] := hS29.take _ hT43
   refine gx_kA (.bool b40) w41 ?_
   refine gx_nil ?_
   refine gx_thenN ?_
   refine hK37 _ _ ?_
   refine gx_ret ?_
   refine gx_thenR ?_
   obtain rfl := Option.some.inj hF
   exact gx_fin (.bool b40) (by as_aux_lemma => kernel_rfl) (by as_aux_lemma => kernel_rfl) ⟨_, rfl, rfl, (hS42.pick [] rfl rfl)⟩
  ·refine gx_vA (.bool false) w28 (run_boolE (ne_no h35) (by as_aux_lemma => kernel_rfl)) ?_
   refine gx_nil ?_
   refine gx_thenN ?_
   refine hK34 _ _ ?_
   refine gx_no (by as_aux_lemma => kernel_rfl) ?_
   refine gx_pass ?_
   refine gx_thenN ?_
   refine hK32 _ _ ?_
   refine gx_seq (fun K44 hK45 => ?_)
   refine gx_region ?_
   refine gx_kA (.slice A0 p0.length c0) w28 (gx_kA (.slice A21 l20.length c22) w28 (gx_kA (.int .u8 x26) w28 ?_))
   have hP46 : St _ _ w28 ([] ++ [poolE ([]) w0, rowE .u8 5 A21 c22 l20, rowE .u8 34 A24 c25 l23]) := hS29
   obtain ⟨⟨l48, x52⟩, hc47, hF⟩ := bind_in hF
   try dsimp only at hF
   refine gx_cA (pSeqs_R (l48, x52) w28) (pSeqs_ok N p0 l20 x26 A0 c0 A21 c22 _ hc47 w28 (hP46.vwA hv0) (hP46.vwB 1 rfl)) ?_
   rintro _ w53 ⟨A49, c50, ads51, rfl, hT55⟩
   have hS54 : St _ _ w53 [poolE ([]) w0, rowE .u8 5 A21 c22 l20, rowE .u8 34 A24 c25 l23, rowO oembedSeq 36 A49 l48.length c50 ads51 l48] := hS29.take _ hT55
   obtain ⟨ft56, W57, hS58, hT59, hf60, hn61⟩ := hS54.freezeO 3 0 rfl rfl (by decide)
   have hS58 : St _ _ w53 [poolE ft56 W57, rowE .u8 5 A21 c22 l20, rowE .u8 34 A24 c25 l23, rowG 36 4 (.slice A49 l48.length c50) l48.length (cellsB oembedSeq ads51 l48)] := hS58
   have hT59 : Turn [] w0 w0 ([]) W57 ft56 := hT59
   have hf60 : (fEach encembedSeq (cellsB oembedSeq ads51 l48) l48).rd W57 ft56 := hf60
   refine gx_kA (.tuple #[.slice A49 l48.length c50, .int .i64 x52]) w53 (gx_kA (.slice A49 l48.length c50) w53 (gx_kA (.int .i64 x52) w53 (gx_kA (.slice A49 l48.length c50) w53 (gx_kA (.int .i64 x52) w53 ?_))))
   refine gx_nil ?_
   refine gx_thenN ?_
   refine hK45 _ _ ?_
   refine gx_seq (fun K62 hK63 => ?_)
   refine gx_seq (fun K64 hK65 => ?_)
   refine gx_region ?_
   refine gx_kA (.int .i64 x52) w53 ?_
   rcases if_in hF with ⟨h66, hF⟩ | ⟨h66, hF⟩
   ·refine gx_vA (.bool true) w53 (run_boolE (ne_yes h66) (by as_aux_lemma => kernel_rfl)) ?_
    refine gx_nil ?_
    refine gx_thenN ?_
    refine hK65 _ _ ?_
    refine gx_yes (by as_aux_lemma => kernel_rfl) ?_
    refine gx_seq (fun K67 hK68 => ?_)
    refine gx_region ?_
    refine gx_kA (.bool false) w53 ?_
    refine gx_nil ?_
    refine gx_thenN ?_
    refine hK68 _ _ ?_
    refine gx_ret ?_
    refine gx_thenR ?_
    obtain rfl := Option.some.inj hF
    exact gx_fin (.bool false) (by as_aux_lemma => kernel_rfl) (by as_aux_lemma => kernel_rfl) ⟨_, rfl, rfl, (hS58.pick [] rfl rfl)⟩
   ·refine gx_vA (.bool false) w53 (run_boolE (ne_no h66) (by as_aux_lemma => kernel_rfl)) ?_
    refine gx_nil ?_
    refine gx_thenN ?_
    refine hK65 _ _ ?_
    refine gx_no (by as_aux_lemma => kernel_rfl) ?_
    refine gx_pass ?_
    refine gx_thenN ?_
    refine hK63 _ _ ?_
    refine gx_seq (fun K69 hK70 => ?_)
    refine gx_region ?_
    refine gx_kA (.slice A0 p0.length c0) w53 ?_
    have hP71 : St _ _ w53 ([] ++ [poolE ft56 W57, rowE .u8 5 A21 c22 l20, rowE .u8 34 A24 c25 l23, rowG 36 4 (.slice A49 l48.length c50) l48.length (cellsB oembedSeq ads51 l48)]) := hS58
    obtain ⟨l73, hc72, hF⟩ := bind_in hF
    try dsimp only at hF
    refine gx_cA (rMatch_R l73 w53) (rMatch_ok N p0 A0 c0 _ hc72 w53 (hP71.vwA hv0)) ?_
    rintro _ w76 ⟨A74, c75, rfl, hT78⟩
    have hS77 : St _ _ w76 [poolE ft56 W57, rowE .u8 5 A21 c22 l20, rowE .u8 34 A24 c25 l23, rowG 36 4 (.slice A49 l48.length c50) l48.length (cellsB oembedSeq ads51 l48), rowE .i64 3 A74 c75 l73] := hS58.take _ hT78
    refine gx_kA (.slice A74 l73.length c75) w76 ?_
    refine gx_nil ?_
    refine gx_thenN ?_
    refine hK70 _ _ ?_
    refine gx_seq (fun K79 hK80 => ?_)
    refine gx_region ?_
    refine gx_kA (.slice A0 p0.length c0) w76 (gx_kA (.int .i64 ((p0.length : Nat) : Int)) w76 ?_)
    obtain ⟨l81, hm82, hF⟩ := bind_in hF
    refine gx_rA (st_makeP (k1 := .i64) (k2 := .i64) (e := boolE) (T := 4) (by_ := 1) (z := (.bool false)) (W := W57) (ft := ft56) rfl (by as_aux_lemma => kernel_rfl) (by as_aux_lemma => kernel_rfl) (by as_aux_lemma => kernel_rfl) (by as_aux_lemma => kernel_rfl) (by as_aux_lemma => kernel_rfl) (by decide) (rd_bool false) hS77 hm82) ?_
    rintro _ w83 ⟨A85, c86, vs87, rfl, hf88, hS84⟩
    have hS84 : St _ _ w83 [poolE ft56 W57, rowE .u8 5 A21 c22 l20, rowE .u8 34 A24 c25 l23, rowG 36 4 (.slice A49 l48.length c50) l48.length (cellsB oembedSeq ads51 l48), rowE .i64 3 A74 c75 l73, rowG 4 1 (.slice A85 l81.length c86) l81.length vs87] := hS84
    refine gx_kA (.slice A85 l81.length c86) w83 ?_
    refine gx_nil ?_
    refine gx_thenN ?_
    refine hK80 _ _ ?_
    obtain ⟨c96, hE97, hO98⟩ := bind_in hF
    refine gx_cut (fun a w => ∃ (l93 : List (Bool)) (vs94 : List Value), selfA (fun u91 => ⟨((.slice A0 p0.length c0) :: (.int .u8 p1) :: undef :: undef :: dd u91 4 3 ((.int .u8 x26) :: (.int .i64 x27) :: (u91 9) :: (.int .i64 x52) :: (u91 11) :: (.slice A85 l81.length c86) :: dd u91 13 5 (undef :: (u91 19) :: (.int .i64 ((p0.length : Nat) : Int)) :: (.bool false) :: undef :: dd u91 23 2 ((.int .u8 p1) :: dd u91 26 3 ((.int .u8 x26) :: (.int .i64 x27) :: (.int .i64 x27) :: (.bool false) :: undef :: dd u91 34 3 ((.int .u8 x26) :: dd u91 38 2 ((.int .i64 x52) :: (.int .i64 x52) :: (.bool false) :: dd u91 43 3 ((.int .i64 ((p0.length : Nat) : Int)) :: dd u91 47 117 (un 17 ([])))))))))).toArray, []⟩) a ∧ Ctl.go l93 = c96 ∧ St [] w0 w [poolE ft56 W57, rowG 4 1 (.slice A85 l81.length c86) l81.length vs94] ∧ (fEach boolE vs94 l93).rd W57 ft56 ∧ l81.length = l93.length) ?_ ?_
    ·refine gx_seq (fun K99 hK100 => ?_)
     refine gx_region ?_
     refine gx_kA (.int .i64 0) w83 ?_
     refine gx_nil ?_
     refine gx_thenN ?_
     refine hK100 _ _ ?_
     refine gx_block ?_
     refine gx_loop (fun k a w => ∃ (l105 : List (Bool)) (x108 : Int) (vs106 : List Value), selfA (fun u103 => ⟨((.slice A0 p0.length c0) :: (.int .u8 p1) :: undef :: undef :: (u103 4) :: (.slice A21 l20.length c22) :: (u103 6) :: (.int .u8 x26) :: (.int .i64 x27) :: (.slice A49 l48.length c50) :: (.int .i64 x52) :: (.slice A74 l73.length c75) :: (.slice A85 l81.length c86) :: (.int .i64 x108) :: dd u103 14 4 (undef :: (u103 19) :: (.int .i64 ((p0.length : Nat) : Int)) :: (.bool false) :: undef :: dd u103 23 2 ((.int .u8 p1) :: dd u103 26 3 ((.int .u8 x26) :: (.int .i64 x27) :: (.int .i64 x27) :: (.bool false) :: undef :: dd u103 34 3 ((.int .u8 x26) :: dd u103 38 2 ((.int .i64 x52) :: (.int .i64 x52) :: (.bool false) :: dd u103 43 3 ((.int .i64 ((p0.length : Nat) : Int)) :: dd u103 47 117 (un 17 ([]))))))))).toArray, []⟩) a ∧ fOnce_L1 N p0 l20 l48 l73 k l105 x108 = some c96 ∧ St [] w0 w [poolE ft56 W57, rowE .u8 5 A21 c22 l20, rowG 36 4 (.slice A49 l48.length c50) l48.length (cellsB oembedSeq ads51 l48), rowE .i64 3 A74 c75 l73, rowG 4 1 (.slice A85 l81.length c86) l81.length vs106] ∧ (fEach boolE vs106 l105).rd W57 ft56 ∧ l81.length = l105.length) N ?_ ?_
     ·exact ⟨l81, 0, vs87, selfA_i (by as_aux_lemma => kernel_rfl), hE97, (hS84.pick [0, 1, 3, 4, 5] rfl rfl), hf88, rfl⟩
     ·rintro k109 _ w101 ⟨l105, x108, vs106, hq460, hL110, hS102, hf107, hn104⟩
      obtain ⟨u103, rfl⟩ := selfA_u hq460
      cases k109 with
      | zero => cases hL110
      | succ k109 =>
       first | rw [fOnce_L1] at hL110 | unfold fOnce_L1 at hL110
       refine gx_seq (fun K111 hK112 => ?_)
       refine gx_seq (fun K113 hK114 => ?_)
       refine gx_region ?_
       refine gx_kA (.int .i64 x108) w101 (gx_kA (.slice A49 l48.length c50) w101 (gx_kA (.int .i64 ((l48.length : Nat) : Int)) w101 ?_))
       rcases if_in hL110 with ⟨h115, hL110⟩ | ⟨h115, hL110⟩
       ·refine gx_vA (.bool true) w101 (run_boolE (decide_eq_true h115) (by as_aux_lemma => kernel_rfl)) ?_
        refine gx_nil ?_
        refine gx_thenN ?_
        refine hK114 _ _ ?_
        refine gx_yes (by as_aux_lemma => kernel_rfl) ?_
        refine gx_pass ?_
        refine gx_thenN ?_
        refine hK112 _ _ ?_
        obtain ⟨c123, hE124, hO125⟩ := bind_in hL110
        refine gx_cut (fun a w => ∃ (l120 : List (Bool)) (vs121 : List Value), selfA (fun u118 => ⟨((.slice A0 p0.length c0) :: (.int .u8 p1) :: undef :: undef :: (u118 4) :: (.slice A21 l20.length c22) :: (u103 6) :: (.int .u8 x26) :: (.int .i64 x27) :: (.slice A49 l48.length c50) :: (.int .i64 x52) :: (.slice A74 l73.length c75) :: (.slice A85 l81.length c86) :: (.int .i64 x108) :: dd u118 14 4 (undef :: (u103 19) :: (.int .i64 ((p0.length : Nat) : Int)) :: (.bool false) :: undef :: dd u103 23 2 ((.int .u8 p1) :: dd u103 26 3 ((.int .u8 x26) :: (.int .i64 x27) :: (.int .i64 x27) :: (.bool false) :: undef :: dd u103 34 3 ((.int .u8 x26) :: dd u103 38 2 ((.int .i64 x52) :: (.int .i64 x52) :: (.bool false) :: dd u103 43 3 ((.int .i64 ((p0.length : Nat) : Int)) :: (u103 47) :: (.int .i64 x108) :: (u118 49) :: (.int .i64 ((l48.length : Nat) : Int)) :: (.bool true) :: dd u103 52 2 (dd u118 54 110 (un 17 ([])))))))))).toArray, []⟩) a ∧ Ctl.go l120 = c123 ∧ St [] w0 w [poolE ft56 W57, rowE .u8 5 A21 c22 l20, rowG 36 4 (.slice A49 l48.length c50) l48.length (cellsB oembedSeq ads51 l48), rowE .i64 3 A74 c75 l73, rowG 4 1 (.slice A85 l81.length c86) l81.length vs121] ∧ (fEach boolE vs121 l120).rd W57 ft56 ∧ l81.length = l120.length) ?_ ?_
        ·refine gx_block ?_
         refine gx_seq (fun K126 hK127 => ?_)
         refine gx_region ?_
         refine gx_kA (.int .i64 (-1)) w101 ?_
         refine gx_nil ?_
         refine gx_thenN ?_
         refine hK127 _ _ ?_
         obtain ⟨c135, hE136, hO137⟩ := bind_in hE124
         refine gx_cut (fun a w => ∃ (l132 : List (Bool)) (vs133 : List Value), selfA (fun u130 => ⟨((.slice A0 p0.length c0) :: (.int .u8 p1) :: undef :: undef :: (u130 4) :: (.slice A21 l20.length c22) :: (u103 6) :: (.int .u8 x26) :: (.int .i64 x27) :: (.slice A49 l48.length c50) :: (.int .i64 x52) :: (.slice A74 l73.length c75) :: (.slice A85 l81.length c86) :: (.int .i64 x108) :: dd u130 14 4 (undef :: (u103 19) :: (.int .i64 ((p0.length : Nat) : Int)) :: (.bool false) :: undef :: dd u103 23 2 ((.int .u8 p1) :: dd u103 26 3 ((.int .u8 x26) :: (.int .i64 x27) :: (.int .i64 x27) :: (.bool false) :: undef :: dd u103 34 3 ((.int .u8 x26) :: dd u103 38 2 ((.int .i64 x52) :: (.int .i64 x52) :: (.bool false) :: dd u103 43 3 ((.int .i64 ((p0.length : Nat) : Int)) :: (u103 47) :: (.int .i64 x108) :: (u130 49) :: (.int .i64 ((l48.length : Nat) : Int)) :: (.bool true) :: dd u103 52 2 (dd u130 54 81 (dd u103 135 29 (un 17 ([]))))))))))).toArray, []⟩) a ∧ Ctl.go l132 = c135 ∧ St [] w0 w [poolE ft56 W57, rowE .u8 5 A21 c22 l20, rowG 36 4 (.slice A49 l48.length c50) l48.length (cellsB oembedSeq ads51 l48), rowE .i64 3 A74 c75 l73, rowG 4 1 (.slice A85 l81.length c86) l81.length vs133] ∧ (fEach boolE vs133 l132).rd W57 ft56 ∧ l81.length = l132.length) ?_ ?_
         ·refine gx_seq (fun K138 hK139 => ?_)
          refine gx_region ?_
          refine gx_kA (.int .i64 0) w101 ?_
          refine gx_nil ?_
          refine gx_thenN ?_
          refine hK139 _ _ ?_
          refine gx_block ?_
          refine gx_loop (fun k a w => ∃ (l144 : List (Bool)) (x147 : Int) (x148 : Int) (vs145 : List Value), selfA (fun u142 => ⟨((.slice A0 p0.length c0) :: (.int .u8 p1) :: undef :: undef :: (u142 4) :: (.slice A21 l20.length c22) :: (u103 6) :: (.int .u8 x26) :: (.int .i64 x27) :: (.slice A49 l48.length c50) :: (.int .i64 x52) :: (.slice A74 l73.length c75) :: (.slice A85 l81.length c86) :: (.int .i64 x108) :: (.int .i64 x147) :: (.int .i64 x148) :: dd u142 16 2 (undef :: (u103 19) :: (.int .i64 ((p0.length : Nat) : Int)) :: (.bool false) :: undef :: dd u103 23 2 ((.int .u8 p1) :: dd u103 26 3 ((.int .u8 x26) :: (.int .i64 x27) :: (.int .i64 x27) :: (.bool false) :: undef :: dd u103 34 3 ((.int .u8 x26) :: dd u103 38 2 ((.int .i64 x52) :: (.int .i64 x52) :: (.bool false) :: dd u103 43 3 ((.int .i64 ((p0.length : Nat) : Int)) :: (u103 47) :: (.int .i64 x108) :: (u142 49) :: (.int .i64 ((l48.length : Nat) : Int)) :: (.bool true) :: dd u103 52 2 (dd u142 54 81 (dd u103 135 29 (un 17 ([]))))))))))).toArray, []⟩) a ∧ fOnce_L2 N p0 l20 l48 l73 x108 k l144 x147 x148 = some c135 ∧ St [] w0 w [poolE ft56 W57, rowE .u8 5 A21 c22 l20, rowG 36 4 (.slice A49 l48.length c50) l48.length (cellsB oembedSeq ads51 l48), rowE .i64 3 A74 c75 l73, rowG 4 1 (.slice A85 l81.length c86) l81.length vs145] ∧ (fEach boolE vs145 l144).rd W57 ft56 ∧ l81.length = l144.length) N ?_ ?_
          ·exact ⟨l105, (-1), 0, vs106, selfA_i (by as_aux_lemma => kernel_rfl), hE136, hS102, hf107, hn104⟩
          ·rintro k149 _ w140 ⟨l144, x147, x148, vs145, hq367, hL150, hS141, hf146, hn143⟩
           obtain ⟨u142, rfl⟩ := selfA_u hq367
           cases k149 with
           | zero => cases hL150
           | succ k149 =>
            first | rw [fOnce_L2] at hL150 | unfold fOnce_L2 at hL150
            refine gx_seq (fun K151 hK152 => ?_)
            refine gx_seq (fun K153 hK154 => ?_)
            refine gx_region ?_
            refine gx_kA (.int .i64 x148) w140 (gx_kA (.slice A49 l48.length c50) w140 (gx_kA (.int .i64 x108) w140 ?_))
            obtain ⟨x155, hx156, hL150⟩ := bind_in hL150
            obtain ⟨g157, o158, e159, hA160, he161, h162, ha163⟩ := elem_at (e := encembedSeq) (rowG_lies (e := encembedSeq) hn61 (hS141.get 2 rfl)) hf60 hx156 (by decide)
            obtain ⟨e164, e165, rfl, h166, h167⟩ := h162
            obtain ⟨A168, c169, vs170, rfl, hf171⟩ := h166
            obtain ⟨e172, e173, rfl, h174, h175⟩ := h167
            obtain rfl := h174
            obtain ⟨e176, e177, rfl, h178, h179⟩ := h175
            obtain rfl := h178
            obtain rfl := h179
            have ha163 : ∀ w', Lies w' A49 (cellsB oembedSeq ads51 l48) → w'.rangeAt g157 o158 [.slice A168 ((x155.1).length) c169, .int .u8 x155.2.1, .int .u8 x155.2.2.1, .int .u8 x155.2.2.2] := ha163
            refine gx_vA (.pointer (some ⟨g157, o158, none⟩)) w140 (run_ixaddrN (E := 36) (s := 4) (k := .i64) (c := c50) rfl (by as_aux_lemma => kernel_rfl) (by as_aux_lemma => kernel_rfl) (by as_aux_lemma => kernel_rfl) (fun _ => by kernel_rfl) (ixg_in hx156).1 (lt_len hn61 (ixg_in hx156).2.1) hA160) ?_
            refine gx_kA (.pointer (some ⟨g157, o158, none⟩)) w140 ?_
            refine gx_vA (.slice A168 ((x155.1).length) c169) w140 (run_loadN1 0 rfl (by as_aux_lemma => kernel_rfl) (fun _ => by kernel_rfl) (ha163 _ (rowG_lies (e := encembedSeq) hn61 (hS141.get 2 rfl))) rfl) ?_
            refine gx_kA (.int .i64 (((x155.1).length : Nat) : Int)) w140 ?_
            rcases if_in hL150 with ⟨h180, hL150⟩ | ⟨h180, hL150⟩
            ·refine gx_vA (.bool true) w140 (run_boolE (decide_eq_true h180) (by as_aux_lemma => kernel_rfl)) ?_
             refine gx_nil ?_
             refine gx_thenN ?_
             refine hK154 _ _ ?_
             refine gx_yes (by as_aux_lemma => kernel_rfl) ?_
             refine gx_pass ?_
             refine gx_thenN ?_
             refine hK152 _ _ ?_
             obtain ⟨c189, hE190, hO191⟩ := bind_in hL150
             refine gx_cut (fun a w => ∃ (l185 : List (Bool)) (x188 : Int) (vs186 : List Value), selfA (fun u183 => ⟨((.slice A0 p0.length c0) :: (.int .u8 p1) :: undef :: undef :: (u183 4) :: (.slice A21 l20.length c22) :: (u103 6) :: (.int .u8 x26) :: (.int .i64 x27) :: (.slice A49 l48.length c50) :: (.int .i64 x52) :: (.slice A74 l73.length c75) :: (.slice A85 l81.length c86) :: (.int .i64 x108) :: (.int .i64 x188) :: (.int .i64 x148) :: dd u183 16 2 (undef :: (u103 19) :: (.int .i64 ((p0.length : Nat) : Int)) :: (.bool false) :: undef :: dd u103 23 2 ((.int .u8 p1) :: dd u103 26 3 ((.int .u8 x26) :: (.int .i64 x27) :: (.int .i64 x27) :: (.bool false) :: undef :: dd u103 34 3 ((.int .u8 x26) :: dd u103 38 2 ((.int .i64 x52) :: (.int .i64 x52) :: (.bool false) :: dd u103 43 3 ((.int .i64 ((p0.length : Nat) : Int)) :: (u103 47) :: (.int .i64 x108) :: (u142 49) :: (.int .i64 ((l48.length : Nat) : Int)) :: (.bool true) :: dd u103 52 2 ((.int .i64 x148) :: (u183 55) :: (.int .i64 x108) :: dd u183 57 3 ((.int .i64 (((x155.1).length : Nat) : Int)) :: (.bool true) :: dd u142 62 2 (dd u183 64 71 (dd u103 135 29 (un 17 ([]))))))))))))).toArray, []⟩) a ∧ Ctl.go (l185, x188) = c189 ∧ St [] w0 w [poolE ft56 W57, rowE .u8 5 A21 c22 l20, rowG 36 4 (.slice A49 l48.length c50) l48.length (cellsB oembedSeq ads51 l48), rowE .i64 3 A74 c75 l73, rowG 4 1 (.slice A85 l81.length c86) l81.length vs186] ∧ (fEach boolE vs186 l185).rd W57 ft56 ∧ l81.length = l185.length) ?_ ?_
             ·refine gx_block ?_
              refine gx_seq (fun K192 hK193 => ?_)
              refine gx_region ?_
              refine gx_kA (.slice A49 l48.length c50) w140 (gx_kA (.int .i64 x108) w140 ?_)
              obtain ⟨x194, hx195, hE190⟩ := bind_in hE190
              obtain ⟨g196, o197, e198, hA199, he200, h201, ha202⟩ := elem_at (e := encembedSeq) (rowG_lies (e := encembedSeq) hn61 (hS141.get 2 rfl)) hf60 hx195 (by decide)
              obtain ⟨e203, e204, rfl, h205, h206⟩ := h201
              obtain ⟨A207, c208, vs209, rfl, hf210⟩ := h205
              obtain ⟨e211, e212, rfl, h213, h214⟩ := h206
              obtain rfl := h213
              obtain ⟨e215, e216, rfl, h217, h218⟩ := h214
              obtain rfl := h217
              obtain rfl := h218
              have ha202 : ∀ w', Lies w' A49 (cellsB oembedSeq ads51 l48) → w'.rangeAt g196 o197 [.slice A207 ((x194.1).length) c208, .int .u8 x194.2.1, .int .u8 x194.2.2.1, .int .u8 x194.2.2.2] := ha202
              refine gx_vA (.pointer (some ⟨g196, o197, none⟩)) w140 (run_ixaddrN (E := 36) (s := 4) (k := .i64) (c := c50) rfl (by as_aux_lemma => kernel_rfl) (by as_aux_lemma => kernel_rfl) (by as_aux_lemma => kernel_rfl) (fun _ => by kernel_rfl) (ixg_in hx195).1 (lt_len hn61 (ixg_in hx195).2.1) hA199) ?_
              refine gx_kA (.pointer (some ⟨g196, o197, none⟩)) w140 ?_
              refine gx_vA (.slice A207 ((x194.1).length) c208) w140 (run_loadN1 0 rfl (by as_aux_lemma => kernel_rfl) (fun _ => by kernel_rfl) (ha202 _ (rowG_lies (e := encembedSeq) hn61 (hS141.get 2 rfl))) rfl) ?_
              refine gx_kA (.int .i64 x148) w140 ?_
              obtain ⟨x219, hx220, hE190⟩ := bind_in hE190
              refine gx_vA (.pointer (Option.map (fun (p : Addr) => p.add (Int.toNat x148 * 1)) A207)) w140 (run_ixaddr (E := 3) (s := 1) (k := .i64) (c := c208) rfl (by as_aux_lemma => kernel_rfl) (by as_aux_lemma => kernel_rfl) (by as_aux_lemma => kernel_rfl) (fun _ => by kernel_rfl) (ix_in hx220).1 (ix_in hx220).2.1 (num_nil (num_sl (hS141.now 0 rfl hf210)))) ?_
              refine gx_vA (.int .i64 x219) w140 (run_loadix rfl (by as_aux_lemma => kernel_rfl) (fun _ => by kernel_rfl) (num_sl (hS141.now 0 rfl hf210)) hx220) ?_
              refine gx_kA (.int .i64 x219) w140 ?_
              refine gx_nil ?_
              refine gx_thenN ?_
              refine hK193 _ _ ?_
              obtain ⟨c224, hE225, hO226⟩ := bind_in hE190
              refine gx_cut (fun a w => selfA (fun u223 => ⟨((.slice A0 p0.length c0) :: (.int .u8 p1) :: undef :: undef :: (u223 4) :: (.slice A21 l20.length c22) :: (u103 6) :: (.int .u8 x26) :: (.int .i64 x27) :: (.slice A49 l48.length c50) :: (.int .i64 x52) :: (.slice A74 l73.length c75) :: (.slice A85 l81.length c86) :: (.int .i64 x108) :: (.int .i64 x147) :: (.int .i64 x148) :: (.int .i64 x219) :: (u142 17) :: undef :: (u103 19) :: (.int .i64 ((p0.length : Nat) : Int)) :: (.bool false) :: undef :: dd u103 23 2 ((.int .u8 p1) :: dd u103 26 3 ((.int .u8 x26) :: (.int .i64 x27) :: (.int .i64 x27) :: (.bool false) :: undef :: dd u103 34 3 ((.int .u8 x26) :: dd u103 38 2 ((.int .i64 x52) :: (.int .i64 x52) :: (.bool false) :: dd u103 43 3 ((.int .i64 ((p0.length : Nat) : Int)) :: (u103 47) :: (.int .i64 x108) :: (u142 49) :: (.int .i64 ((l48.length : Nat) : Int)) :: (.bool true) :: dd u103 52 2 ((.int .i64 x148) :: (u223 55) :: (.int .i64 x108) :: dd u223 57 3 ((.int .i64 (((x155.1).length : Nat) : Int)) :: (.bool true) :: dd u142 62 2 ((u223 64) :: (.int .i64 x108) :: dd u223 66 3 ((.int .i64 x148) :: (.pointer (Option.map (fun (p : Addr) => p.add (Int.toNat x148 * 1)) A207)) :: (.int .i64 x219) :: dd u223 72 34 (dd u142 106 29 (dd u103 135 29 (un 17 ([])))))))))))))).toArray, []⟩) a ∧ Ctl.go () = c224 ∧ St [] w0 w [poolE ft56 W57, rowE .u8 5 A21 c22 l20, rowG 36 4 (.slice A49 l48.length c50) l48.length (cellsB oembedSeq ads51 l48), rowE .i64 3 A74 c75 l73, rowG 4 1 (.slice A85 l81.length c86) l81.length vs145]) ?_ ?_
              ·refine gx_seq (fun K227 hK228 => ?_)
               refine gd_start (fun w => St [] w0 w [poolE ft56 W57, rowE .u8 5 A21 c22 l20, rowG 36 4 (.slice A49 l48.length c50) l48.length (cellsB oembedSeq ads51 l48), rowE .i64 3 A74 c75 l73, rowG 4 1 (.slice A85 l81.length c86) l81.length vs145]) 34 #[false, false, false, false, false, false, false, false, false, false, false, false, false, false, false, false, false, false, false, false, false, false, false, false, false, false, false, false, false, false, false, false, false, false] (by as_aux_lemma => kernel_rfl) (by as_aux_lemma => kernel_rfl) ?_
               have hS230 := hS141.drew
               generalize w140.drew = w229 at hS230 ⊢
               refine gd1 0 { dst := some 72, op := _, type := _, pos := _, after := _, guard := _ } (.int .i64 x219) rfl hS230 (fun w hSw => by kernel_rfl) ?_
               refine gd1 1 { dst := some 73, op := _, type := _, pos := _, after := _, guard := _ } (.int .i64 x147) rfl hS230 (fun w hSw => by kernel_rfl) ?_
               obtain ⟨c235, hE236, hO237⟩ := bind_in hE225
               refine gd_mid (fun a w => ∃ (b234 : Bool), selfA (fun u233 => ⟨((.slice A0 p0.length c0) :: (.int .u8 p1) :: undef :: undef :: (u142 4) :: (.slice A21 l20.length c22) :: (u103 6) :: (.int .u8 x26) :: (.int .i64 x27) :: (.slice A49 l48.length c50) :: (.int .i64 x52) :: (.slice A74 l73.length c75) :: (.slice A85 l81.length c86) :: (.int .i64 x108) :: (.int .i64 x147) :: (.int .i64 x148) :: (.int .i64 x219) :: (u142 17) :: undef :: (u103 19) :: (.int .i64 ((p0.length : Nat) : Int)) :: (.bool false) :: undef :: dd u103 23 2 ((.int .u8 p1) :: dd u103 26 3 ((.int .u8 x26) :: (.int .i64 x27) :: (.int .i64 x27) :: (.bool false) :: undef :: dd u103 34 3 ((.int .u8 x26) :: dd u103 38 2 ((.int .i64 x52) :: (.int .i64 x52) :: (.bool false) :: dd u103 43 3 ((.int .i64 ((p0.length : Nat) : Int)) :: (u103 47) :: (.int .i64 x108) :: (u142 49) :: (.int .i64 ((l48.length : Nat) : Int)) :: (.bool true) :: dd u103 52 2 ((.int .i64 x148) :: (u233 55) :: (.int .i64 x108) :: dd u233 57 3 ((.int .i64 (((x155.1).length : Nat) : Int)) :: (.bool true) :: dd u142 62 2 ((u233 64) :: (.int .i64 x108) :: dd u233 66 3 ((.int .i64 x148) :: (.pointer (Option.map (fun (p : Addr) => p.add (Int.toNat x148 * 1)) A207)) :: (.int .i64 x219) :: (.int .i64 x219) :: (.int .i64 x147) :: dd u233 74 6 ((.bool b234) :: dd u142 81 54 (dd u103 135 29 (un 17 ([])))))))))))))).toArray, []⟩) a ∧ b234 = c235 ∧ St [] w0 w [poolE ft56 W57, rowE .u8 5 A21 c22 l20, rowG 36 4 (.slice A49 l48.length c50) l48.length (cellsB oembedSeq ads51 l48), rowE .i64 3 A74 c75 l73, rowG 4 1 (.slice A85 l81.length c86) l81.length vs145]) 25 #[true, true, true, true, true, true, true, true, true, false, false, false, false, false, false, false, false, false, false, false, false, false, false, false, false, false, false, false, false, false, false, false, false, false] ?_ ?_
               ·rintro _ w231 ⟨b234, hq238, rfl, hS232⟩
                obtain ⟨u233, rfl⟩ := selfA_u hq238
                try dsimp only at hO237
                obtain ⟨c246, hE247, hO248⟩ := bind_in hO237
                refine gd_mid (fun a w => ∃ (b245 : Bool), selfA (fun u244 => ⟨((.slice A0 p0.length c0) :: (.int .u8 p1) :: undef :: undef :: (u142 4) :: (.slice A21 l20.length c22) :: (u103 6) :: (.int .u8 x26) :: (.int .i64 x27) :: (.slice A49 l48.length c50) :: (.int .i64 x52) :: (.slice A74 l73.length c75) :: (.slice A85 l81.length c86) :: (.int .i64 x108) :: (.int .i64 x147) :: (.int .i64 x148) :: (.int .i64 x219) :: (u142 17) :: undef :: (u103 19) :: (.int .i64 ((p0.length : Nat) : Int)) :: (.bool false) :: undef :: dd u103 23 2 ((.int .u8 p1) :: dd u103 26 3 ((.int .u8 x26) :: (.int .i64 x27) :: (.int .i64 x27) :: (.bool false) :: undef :: dd u103 34 3 ((.int .u8 x26) :: dd u103 38 2 ((.int .i64 x52) :: (.int .i64 x52) :: (.bool false) :: dd u103 43 3 ((.int .i64 ((p0.length : Nat) : Int)) :: (u103 47) :: (.int .i64 x108) :: (u142 49) :: (.int .i64 ((l48.length : Nat) : Int)) :: (.bool true) :: dd u103 52 2 ((.int .i64 x148) :: (u233 55) :: (.int .i64 x108) :: dd u233 57 3 ((.int .i64 (((x155.1).length : Nat) : Int)) :: (.bool true) :: dd u142 62 2 ((u233 64) :: (.int .i64 x108) :: dd u233 66 3 ((.int .i64 x148) :: (.pointer (Option.map (fun (p : Addr) => p.add (Int.toNat x148 * 1)) A207)) :: (.int .i64 x219) :: (.int .i64 x219) :: (.int .i64 x147) :: dd u233 74 6 ((.bool b234) :: dd u244 81 5 ((.bool b245) :: dd u142 87 48 (dd u103 135 29 (un 17 ([]))))))))))))))).toArray, []⟩) a ∧ b245 = c246 ∧ St [] w0 w [poolE ft56 W57, rowE .u8 5 A21 c22 l20, rowG 36 4 (.slice A49 l48.length c50) l48.length (cellsB oembedSeq ads51 l48), rowE .i64 3 A74 c75 l73, rowG 4 1 (.slice A85 l81.length c86) l81.length vs145]) 19 #[true, true, true, true, true, true, true, true, true, true, true, true, true, true, true, false, false, false, false, false, false, false, false, false, false, false, false, false, false, false, false, false, false, false] ?_ ?_
                ·rintro _ w242 ⟨b245, hq249, rfl, hS243⟩
                 obtain ⟨u244, rfl⟩ := selfA_u hq249
                 try dsimp only at hO248
                 obtain ⟨c264, hE265, hO266⟩ := bind_in hO248
                 refine gd_mid (fun a w => ∃ (b263 : Bool), selfA (fun u262 => ⟨((.slice A0 p0.length c0) :: (.int .u8 p1) :: undef :: undef :: (u142 4) :: (.slice A21 l20.length c22) :: (u103 6) :: (.int .u8 x26) :: (.int .i64 x27) :: (.slice A49 l48.length c50) :: (.int .i64 x52) :: (.slice A74 l73.length c75) :: (.slice A85 l81.length c86) :: (.int .i64 x108) :: (.int .i64 x147) :: (.int .i64 x148) :: (.int .i64 x219) :: (u142 17) :: undef :: (u103 19) :: (.int .i64 ((p0.length : Nat) : Int)) :: (.bool false) :: undef :: dd u103 23 2 ((.int .u8 p1) :: dd u103 26 3 ((.int .u8 x26) :: (.int .i64 x27) :: (.int .i64 x27) :: (.bool false) :: undef :: dd u103 34 3 ((.int .u8 x26) :: dd u103 38 2 ((.int .i64 x52) :: (.int .i64 x52) :: (.bool false) :: dd u103 43 3 ((.int .i64 ((p0.length : Nat) : Int)) :: (u103 47) :: (.int .i64 x108) :: (u142 49) :: (.int .i64 ((l48.length : Nat) : Int)) :: (.bool true) :: dd u103 52 2 ((.int .i64 x148) :: (u233 55) :: (.int .i64 x108) :: dd u233 57 3 ((.int .i64 (((x155.1).length : Nat) : Int)) :: (.bool true) :: dd u142 62 2 ((u233 64) :: (.int .i64 x108) :: dd u233 66 3 ((.int .i64 x148) :: (.pointer (Option.map (fun (p : Addr) => p.add (Int.toNat x148 * 1)) A207)) :: (.int .i64 x219) :: (.int .i64 x219) :: (.int .i64 x147) :: dd u233 74 6 ((.bool b234) :: dd u244 81 5 ((.bool b245) :: dd u262 87 6 ((.bool b263) :: dd u142 94 41 (dd u103 135 29 (un 17 ([])))))))))))))))).toArray, []⟩) a ∧ b263 = c264 ∧ St [] w0 w [poolE ft56 W57, rowE .u8 5 A21 c22 l20, rowG 36 4 (.slice A49 l48.length c50) l48.length (cellsB oembedSeq ads51 l48), rowE .i64 3 A74 c75 l73, rowG 4 1 (.slice A85 l81.length c86) l81.length vs145]) 12 #[true, true, true, true, true, true, true, true, true, true, true, true, true, true, true, true, true, true, true, true, true, true, false, false, false, false, false, false, false, false, false, false, false, false] ?_ ?_
                 ·rintro _ w260 ⟨b263, hq267, rfl, hS261⟩
                  obtain ⟨u262, rfl⟩ := selfA_u hq267
                  try dsimp only at hO266
                  refine gd1 22 { dst := some 94, op := _, type := _, pos := _, after := _, guard := _ } (.bool b263) rfl hS261 (fun w hSw => by kernel_rfl) ?_
                  cases b263 with
                  | true =>
                   try dsimp only at hO266
                   refine gd0 23 { dst := some 95, op := _, type := _, pos := _, after := _, guard := _ } rfl hS261 ?_
                   refine gd0 24 { dst := some 96, op := _, type := _, pos := _, after := _, guard := _ } rfl hS261 ?_
                   refine gd0 25 { dst := some 97, op := _, type := _, pos := _, after := _, guard := _ } rfl hS261 ?_
                   refine gd0 26 { dst := some 98, op := _, type := _, pos := _, after := _, guard := _ } rfl hS261 ?_
                   refine gd0 27 { dst := some 99, op := _, type := _, pos := _, after := _, guard := _ } rfl hS261 ?_
                   refine gd0 28 { dst := some 100, op := _, type := _, pos := _, after := _, guard := _ } rfl hS261 ?_
                   refine gd0 29 { dst := some 101, op := _, type := _, pos := _, after := _, guard := _ } rfl hS261 ?_
                   refine gd0 30 { dst := some 102, op := _, type := _, pos := _, after := _, guard := _ } rfl hS261 ?_
                   refine gd0 31 { dst := some 103, op := _, type := _, pos := _, after := _, guard := _ } rfl hS261 ?_
                   refine gd0 32 { dst := some 104, op := _, type := _, pos := _, after := _, guard := _ } rfl hS261 ?_
                   refine gd1 33 { dst := some 105, op := _, type := _, pos := _, after := _, guard := _ } (.bool true) rfl hS261 (fun w hSw => by kernel_rfl) ?_
                   refine gd_done (by as_aux_lemma => kernel_rfl) ?_
                   refine gx_thenN ?_
                   refine hK228 _ _ ?_
                   refine gx_yes (by as_aux_lemma => kernel_rfl) ?_
                   refine gx_seq (fun K277 hK278 => ?_)
                   refine gx_region ?_
                   refine gx_kA (.bool false) w260 ?_
                   refine gx_nil ?_
                   refine gx_thenN ?_
                   refine hK278 _ _ ?_
                   refine gx_ret ?_
                   refine gx_thenR ?_
                   obtain rfl := Option.some.inj hO266
                   try dsimp only at hO226
                   refine gx_blkR ?_
                   refine gx_thenR ?_
                   obtain rfl := Option.some.inj hO226
                   try dsimp only at hO191
                   refine gx_thenR ?_
                   refine gx_blkR ?_
                   refine gx_thenR ?_
                   obtain rfl := Option.some.inj hO191
                   try dsimp only at hO137
                   refine gx_blkR ?_
                   refine gx_thenR ?_
                   obtain rfl := Option.some.inj hO137
                   try dsimp only at hO125
                   refine gx_thenR ?_
                   refine gx_blkR ?_
                   refine gx_thenR ?_
                   obtain rfl := Option.some.inj hO125
                   try dsimp only at hO98
                   obtain rfl := Option.some.inj hO98
                   exact gx_fin (.bool false) (by as_aux_lemma => kernel_rfl) (by as_aux_lemma => kernel_rfl) ⟨_, rfl, rfl, (hS261.pick [] rfl rfl)⟩
                  | false =>
                   try dsimp only at hO266
                   refine gd1 23 { dst := some 95, op := _, type := _, pos := _, after := _, guard := _ } (.slice A21 l20.length c22) rfl hS261 (fun w hSw => by kernel_rfl) ?_
                   refine gd1 24 { dst := some 96, op := _, type := _, pos := _, after := _, guard := _ } (.int .i64 x219) rfl hS261 (fun w hSw => by kernel_rfl) ?_
                   obtain ⟨x279, hx280, hO266⟩ := bind_in hO266
                   refine gd1 25 { dst := some 97, op := _, type := _, pos := _, after := _, guard := _ } (.pointer (Option.map (fun (p : Addr) => p.add (Int.toNat x219 * 1)) A21)) rfl hS261 (fun w hSw => run_ixaddr (E := 5) (s := 1) (k := .i64) (c := c22) rfl (by as_aux_lemma => kernel_rfl) (by as_aux_lemma => kernel_rfl) (by as_aux_lemma => kernel_rfl) (fun _ => by kernel_rfl) (ix_in hx280).1 (ix_in hx280).2.1 (num_nil (hS261.row 1 rfl).1)) ?_
                   refine gd1 26 { dst := some 98, op := _, type := _, pos := _, after := _, guard := _ } (.int .u8 x279) rfl hS261 (fun w hSw => run_loadix rfl (by as_aux_lemma => kernel_rfl) (fun _ => by kernel_rfl) (hSw.row 1 rfl).1 hx280) ?_
                   refine gd1 27 { dst := some 99, op := _, type := _, pos := _, after := _, guard := _ } (.slice A49 l48.length c50) rfl hS261 (fun w hSw => by kernel_rfl) ?_
                   refine gd1 28 { dst := some 100, op := _, type := _, pos := _, after := _, guard := _ } (.int .i64 x108) rfl hS261 (fun w hSw => by kernel_rfl) ?_
                   obtain ⟨x281, hx282, hO266⟩ := bind_in hO266
                   obtain ⟨g283, o284, e285, hA286, he287, h288, ha289⟩ := elem_at (e := encembedSeq) (rowG_lies (e := encembedSeq) hn61 (hS261.get 2 rfl)) hf60 hx282 (by decide)
                   obtain ⟨e290, e291, rfl, h292, h293⟩ := h288
                   obtain ⟨A294, c295, vs296, rfl, hf297⟩ := h292
                   obtain ⟨e298, e299, rfl, h300, h301⟩ := h293
                   obtain rfl := h300
                   obtain ⟨e302, e303, rfl, h304, h305⟩ := h301
                   obtain rfl := h304
                   obtain rfl := h305
                   have ha289 : ∀ w', Lies w' A49 (cellsB oembedSeq ads51 l48) → w'.rangeAt g283 o284 [.slice A294 ((x281.1).length) c295, .int .u8 x281.2.1, .int .u8 x281.2.2.1, .int .u8 x281.2.2.2] := ha289
                   refine gd1 29 { dst := some 101, op := _, type := _, pos := _, after := _, guard := _ } (.pointer (some ⟨g283, o284, none⟩)) rfl hS261 (fun w hSw => run_ixaddrN (E := 36) (s := 4) (k := .i64) (c := c50) rfl (by as_aux_lemma => kernel_rfl) (by as_aux_lemma => kernel_rfl) (by as_aux_lemma => kernel_rfl) (fun _ => by kernel_rfl) (ixg_in hx282).1 (lt_len hn61 (ixg_in hx282).2.1) hA286) ?_
                   refine gd1 30 { dst := some 102, op := _, type := _, pos := _, after := _, guard := _ } (.pointer (some ⟨g283, o284 + 1, none⟩)) rfl hS261 (fun w hSw => by kernel_rfl) ?_
                   refine gd1 31 { dst := some 103, op := _, type := _, pos := _, after := _, guard := _ } (.int .u8 x281.2.1) rfl hS261 (fun w hSw => run_loadN1 1 rfl (by as_aux_lemma => kernel_rfl) (fun _ => by kernel_rfl) (ha289 _ (rowG_lies (e := encembedSeq) hn61 (hSw.get 2 rfl))) rfl) ?_
                   rcases if_in hO266 with ⟨h306, hO266⟩ | ⟨h306, hO266⟩
                   ·refine gd1 32 { dst := some 104, op := _, type := _, pos := _, after := _, guard := _ } (.bool true) rfl hS261 (fun w hSw => run_boolE (ne_yes h306) (by as_aux_lemma => kernel_rfl)) ?_
                    refine gd1 33 { dst := some 105, op := _, type := _, pos := _, after := _, guard := _ } (.bool true) rfl hS261 (fun w hSw => by kernel_rfl) ?_
                    refine gd_done (by as_aux_lemma => kernel_rfl) ?_
                    refine gx_thenN ?_
                    refine hK228 _ _ ?_
                    refine gx_yes (by as_aux_lemma => kernel_rfl) ?_
                    refine gx_seq (fun K307 hK308 => ?_)
                    refine gx_region ?_
                    refine gx_kA (.bool false) w260 ?_
                    refine gx_nil ?_
                    refine gx_thenN ?_
                    refine hK308 _ _ ?_
                    refine gx_ret ?_
                    refine gx_thenR ?_
                    obtain rfl := Option.some.inj hO266
                    try dsimp only at hO226
                    refine gx_blkR ?_
                    refine gx_thenR ?_
                    obtain rfl := Option.some.inj hO226
                    try dsimp only at hO191
                    refine gx_thenR ?_
                    refine gx_blkR ?_
                    refine gx_thenR ?_
                    obtain rfl := Option.some.inj hO191
                    try dsimp only at hO137
                    refine gx_blkR ?_
                    refine gx_thenR ?_
                    obtain rfl := Option.some.inj hO137
                    try dsimp only at hO125
                    refine gx_thenR ?_
                    refine gx_blkR ?_
                    refine gx_thenR ?_
                    obtain rfl := Option.some.inj hO125
                    try dsimp only at hO98
                    obtain rfl := Option.some.inj hO98
                    exact gx_fin (.bool false) (by as_aux_lemma => kernel_rfl) (by as_aux_lemma => kernel_rfl) ⟨_, rfl, rfl, (hS261.pick [] rfl rfl)⟩
                   ·refine gd1 32 { dst := some 104, op := _, type := _, pos := _, after := _, guard := _ } (.bool false) rfl hS261 (fun w hSw => run_boolE (ne_no h306) (by as_aux_lemma => kernel_rfl)) ?_
                    refine gd1 33 { dst := some 105, op := _, type := _, pos := _, after := _, guard := _ } (.bool false) rfl hS261 (fun w hSw => by kernel_rfl) ?_
                    refine gd_done (by as_aux_lemma => kernel_rfl) ?_
                    refine gx_thenN ?_
                    refine hK228 _ _ ?_
                    refine gx_no (by as_aux_lemma => kernel_rfl) ?_
                    refine gx_pass ?_
                    refine gx_thenN ?_
                    exact ⟨selfA_i (by as_aux_lemma => kernel_rfl), (Option.some.inj hO266), hS261⟩
                 ·intro hK268
                  refine gd1 15 { dst := some 87, op := _, type := _, pos := _, after := _, guard := _ } (.bool b245) rfl hS243 (fun w hSw => by kernel_rfl) ?_
                  cases b245 with
                  | true =>
                   try dsimp only at hE265
                   refine gd0 16 { dst := some 88, op := _, type := _, pos := _, after := _, guard := _ } rfl hS243 ?_
                   refine gd0 17 { dst := some 89, op := _, type := _, pos := _, after := _, guard := _ } rfl hS243 ?_
                   refine gd0 18 { dst := some 90, op := _, type := _, pos := _, after := _, guard := _ } rfl hS243 ?_
                   refine gd0 19 { dst := some 91, op := _, type := _, pos := _, after := _, guard := _ } rfl hS243 ?_
                   refine gd0 20 { dst := some 92, op := _, type := _, pos := _, after := _, guard := _ } rfl hS243 ?_
                   refine gd1 21 { dst := some 93, op := _, type := _, pos := _, after := _, guard := _ } (.bool true) rfl hS243 (fun w hSw => by kernel_rfl) ?_
                   exact gd_to hK268 (by as_aux_lemma => kernel_rfl) ⟨true, selfA_i (by as_aux_lemma => kernel_rfl), (Option.some.inj hE265), hS243⟩
                  | false =>
                   try dsimp only at hE265
                   refine gd1 16 { dst := some 88, op := _, type := _, pos := _, after := _, guard := _ } (.slice A0 p0.length c0) rfl hS243 (fun w hSw => by kernel_rfl) ?_
                   refine gd1 17 { dst := some 89, op := _, type := _, pos := _, after := _, guard := _ } (.int .i64 x219) rfl hS243 (fun w hSw => by kernel_rfl) ?_
                   obtain ⟨x269, hx270, hE265⟩ := bind_in hE265
                   refine gd1 18 { dst := some 90, op := _, type := _, pos := _, after := _, guard := _ } (.pointer (Option.map (fun (p : Addr) => p.add (Int.toNat x219 * 1)) A0)) rfl hS243 (fun w hSw => run_ixaddr (E := 34) (s := 1) (k := .i64) (c := c0) rfl (by as_aux_lemma => kernel_rfl) (by as_aux_lemma => kernel_rfl) (by as_aux_lemma => kernel_rfl) (fun _ => by kernel_rfl) (ix_in hx270).1 (ix_in hx270).2.1 (num_nil (hS243.view hv0))) ?_
                   refine gd1 19 { dst := some 91, op := _, type := _, pos := _, after := _, guard := _ } (.int .u8 x269) rfl hS243 (fun w hSw => run_loadix rfl (by as_aux_lemma => kernel_rfl) (fun _ => by kernel_rfl) (hSw.view hv0) hx270) ?_
                   have hP271 : St _ _ w242 ([] ++ [poolE ft56 W57, rowE .u8 5 A21 c22 l20, rowG 36 4 (.slice A49 l48.length c50) l48.length (cellsB oembedSeq ads51 l48), rowE .i64 3 A74 c75 l73, rowG 4 1 (.slice A85 l81.length c86) l81.length vs145]) := hS243
                   obtain ⟨b273, hc272, hE265⟩ := bind_in hE265
                   try dsimp only at hE265
                   refine gdC 20 { dst := some 92, op := _, type := _, pos := _, after := _, guard := _ } (rRem_R b273 w242) rfl (by as_aux_lemma => kernel_rfl) (rRem_ok N x269 _ hc272 w242 ) ?_
                   rintro _ w274 ⟨rfl, hT276⟩
                   have hS275 : St _ _ w274 [poolE ft56 W57, rowE .u8 5 A21 c22 l20, rowG 36 4 (.slice A49 l48.length c50) l48.length (cellsB oembedSeq ads51 l48), rowE .i64 3 A74 c75 l73, rowG 4 1 (.slice A85 l81.length c86) l81.length vs145] := hS243.take _ hT276
                   refine ⟨hS275, ?_⟩
                   refine gd1 21 { dst := some 93, op := _, type := _, pos := _, after := _, guard := _ } (.bool b273) rfl hS275 (fun w hSw => by kernel_rfl) ?_
                   exact gd_to hK268 (by as_aux_lemma => kernel_rfl) ⟨b273, selfA_i (by as_aux_lemma => kernel_rfl), (Option.some.inj hE265), hS275⟩
                ·intro hK250
                 refine gd1 9 { dst := some 81, op := _, type := _, pos := _, after := _, guard := _ } (.bool b234) rfl hS232 (fun w hSw => by kernel_rfl) ?_
                 cases b234 with
                 | true =>
                  try dsimp only at hE247
                  refine gd0 10 { dst := some 82, op := _, type := _, pos := _, after := _, guard := _ } rfl hS232 ?_
                  refine gd0 11 { dst := some 83, op := _, type := _, pos := _, after := _, guard := _ } rfl hS232 ?_
                  refine gd0 12 { dst := some 84, op := _, type := _, pos := _, after := _, guard := _ } rfl hS232 ?_
                  refine gd0 13 { dst := some 85, op := _, type := _, pos := _, after := _, guard := _ } rfl hS232 ?_
                  refine gd1 14 { dst := some 86, op := _, type := _, pos := _, after := _, guard := _ } (.bool true) rfl hS232 (fun w hSw => by kernel_rfl) ?_
                  exact gd_to hK250 (by as_aux_lemma => kernel_rfl) ⟨true, selfA_i (by as_aux_lemma => kernel_rfl), (Option.some.inj hE247), hS232⟩
                 | false =>
                  try dsimp only at hE247
                  refine gd1 10 { dst := some 82, op := _, type := _, pos := _, after := _, guard := _ } (.slice A85 l81.length c86) rfl hS232 (fun w hSw => by kernel_rfl) ?_
                  refine gd1 11 { dst := some 83, op := _, type := _, pos := _, after := _, guard := _ } (.int .i64 x219) rfl hS232 (fun w hSw => by kernel_rfl) ?_
                  obtain ⟨x251, hx252, hE247⟩ := bind_in hE247
                  obtain ⟨g253, o254, e255, hA256, he257, h258, ha259⟩ := elem_at (e := boolE) (rowG_lies (e := boolE) hn143 (hS232.get 4 rfl)) hf146 hx252 (by decide)
                  obtain rfl := h258
                  have ha259 : ∀ w', Lies w' A85 vs145 → w'.rangeAt g253 o254 [.bool x251] := ha259
                  refine gd1 12 { dst := some 84, op := _, type := _, pos := _, after := _, guard := _ } (.pointer (some ⟨g253, o254, none⟩)) rfl hS232 (fun w hSw => run_ixaddrN (E := 4) (s := 1) (k := .i64) (c := c86) rfl (by as_aux_lemma => kernel_rfl) (by as_aux_lemma => kernel_rfl) (by as_aux_lemma => kernel_rfl) (fun _ => by kernel_rfl) (ixg_in hx252).1 (lt_len hn143 (ixg_in hx252).2.1) hA256) ?_
                  refine gd1 13 { dst := some 85, op := _, type := _, pos := _, after := _, guard := _ } (.bool x251) rfl hS232 (fun w hSw => run_loadN1 0 rfl (by as_aux_lemma => kernel_rfl) (fun _ => by kernel_rfl) (ha259 _ (rowG_lies (e := boolE) hn143 (hSw.get 4 rfl))) rfl) ?_
                  refine gd1 14 { dst := some 86, op := _, type := _, pos := _, after := _, guard := _ } (.bool x251) rfl hS232 (fun w hSw => by kernel_rfl) ?_
                  exact gd_to hK250 (by as_aux_lemma => kernel_rfl) ⟨x251, selfA_i (by as_aux_lemma => kernel_rfl), (Option.some.inj hE247), hS232⟩
               ·intro hK239
                rcases if_in hE236 with ⟨h240, hE236⟩ | ⟨h240, hE236⟩
                ·refine gd1 2 { dst := some 74, op := _, type := _, pos := _, after := _, guard := _ } (.bool true) rfl hS230 (fun w hSw => run_boolE (decide_eq_true h240) (by as_aux_lemma => kernel_rfl)) ?_
                 refine gd1 3 { dst := some 75, op := _, type := _, pos := _, after := _, guard := _ } (.bool true) rfl hS230 (fun w hSw => by kernel_rfl) ?_
                 refine gd0 4 { dst := some 76, op := _, type := _, pos := _, after := _, guard := _ } rfl hS230 ?_
                 refine gd0 5 { dst := some 77, op := _, type := _, pos := _, after := _, guard := _ } rfl hS230 ?_
                 refine gd0 6 { dst := some 78, op := _, type := _, pos := _, after := _, guard := _ } rfl hS230 ?_
                 refine gd0 7 { dst := some 79, op := _, type := _, pos := _, after := _, guard := _ } rfl hS230 ?_
                 refine gd1 8 { dst := some 80, op := _, type := _, pos := _, after := _, guard := _ } (.bool true) rfl hS230 (fun w hSw => by kernel_rfl) ?_
                 exact gd_to hK239 (by as_aux_lemma => kernel_rfl) ⟨true, selfA_i (by as_aux_lemma => kernel_rfl), (Option.some.inj hE236), hS230⟩
                ·refine gd1 2 { dst := some 74, op := _, type := _, pos := _, after := _, guard := _ } (.bool false) rfl hS230 (fun w hSw => run_boolE (decide_eq_false h240) (by as_aux_lemma => kernel_rfl)) ?_
                 refine gd1 3 { dst := some 75, op := _, type := _, pos := _, after := _, guard := _ } (.bool false) rfl hS230 (fun w hSw => by kernel_rfl) ?_
                 refine gd1 4 { dst := some 76, op := _, type := _, pos := _, after := _, guard := _ } (.int .i64 x219) rfl hS230 (fun w hSw => by kernel_rfl) ?_
                 refine gd1 5 { dst := some 77, op := _, type := _, pos := _, after := _, guard := _ } (.slice A0 p0.length c0) rfl hS230 (fun w hSw => by kernel_rfl) ?_
                 refine gd1 6 { dst := some 78, op := _, type := _, pos := _, after := _, guard := _ } (.int .i64 ((p0.length : Nat) : Int)) rfl hS230 (fun w hSw => by kernel_rfl) ?_
                 rcases if_in hE236 with ⟨h241, hE236⟩ | ⟨h241, hE236⟩
                 ·refine gd1 7 { dst := some 79, op := _, type := _, pos := _, after := _, guard := _ } (.bool true) rfl hS230 (fun w hSw => run_boolE (decide_eq_true h241) (by as_aux_lemma => kernel_rfl)) ?_
                  refine gd1 8 { dst := some 80, op := _, type := _, pos := _, after := _, guard := _ } (.bool true) rfl hS230 (fun w hSw => by kernel_rfl) ?_
                  exact gd_to hK239 (by as_aux_lemma => kernel_rfl) ⟨true, selfA_i (by as_aux_lemma => kernel_rfl), (Option.some.inj hE236), hS230⟩
                 ·refine gd1 7 { dst := some 79, op := _, type := _, pos := _, after := _, guard := _ } (.bool false) rfl hS230 (fun w hSw => run_boolE (decide_eq_false h241) (by as_aux_lemma => kernel_rfl)) ?_
                  refine gd1 8 { dst := some 80, op := _, type := _, pos := _, after := _, guard := _ } (.bool false) rfl hS230 (fun w hSw => by kernel_rfl) ?_
                  exact gd_to hK239 (by as_aux_lemma => kernel_rfl) ⟨false, selfA_i (by as_aux_lemma => kernel_rfl), (Option.some.inj hE236), hS230⟩
              ·rintro _ w221 ⟨hq365, rfl, hS222⟩
               obtain ⟨u223, rfl⟩ := selfA_u hq365
               try dsimp only at hO226
               refine gx_seq (fun K309 hK310 => ?_)
               refine gx_region ?_
               refine gx_kA (.slice A85 l81.length c86) w221 (gx_kA (.int .i64 x219) w221 ?_)
               obtain ⟨x311, hx312, hO226⟩ := bind_in hO226
               obtain ⟨g313, o314, e315, hA316, he317, h318, ha319⟩ := elem_at (e := boolE) (rowG_lies (e := boolE) hn143 (hS222.get 4 rfl)) hf146 hx312 (by decide)
               obtain rfl := h318
               have ha319 : ∀ w', Lies w' A85 vs145 → w'.rangeAt g313 o314 [.bool x311] := ha319
               refine gx_vA (.pointer (some ⟨g313, o314, none⟩)) w221 (run_ixaddrN (E := 4) (s := 1) (k := .i64) (c := c86) rfl (by as_aux_lemma => kernel_rfl) (by as_aux_lemma => kernel_rfl) (by as_aux_lemma => kernel_rfl) (fun _ => by kernel_rfl) (ixg_in hx312).1 (lt_len hn143 (ixg_in hx312).2.1) hA316) ?_
               obtain ⟨l320, hx321, hO226⟩ := bind_in hO226
               refine gx_sA (st_setN1 (e := boolE) (ec := [.bool x311]) 0 rfl (by as_aux_lemma => kernel_rfl) (by as_aux_lemma => kernel_rfl) rfl (fun _ => by kernel_rfl) hS222 4 rfl hn143 hf146 hA316 he317 (by decide) (rd_bool true) hx321) ?_
               rintro w322 ⟨vs324, hf325, hS323⟩
               have hS323 : St _ _ w322 [poolE ft56 W57, rowE .u8 5 A21 c22 l20, rowG 36 4 (.slice A49 l48.length c50) l48.length (cellsB oembedSeq ads51 l48), rowE .i64 3 A74 c75 l73, rowG 4 1 (.slice A85 l81.length c86) l81.length vs324] := hS323
               refine gx_nil ?_
               refine gx_thenN ?_
               refine hK310 _ _ ?_
               obtain ⟨c329, hE330, hO331⟩ := bind_in hO226
               refine gx_cut (fun a w => selfA (fun u328 => ⟨((.slice A0 p0.length c0) :: (.int .u8 p1) :: undef :: undef :: (u328 4) :: (.slice A21 l20.length c22) :: (u103 6) :: (.int .u8 x26) :: (.int .i64 x27) :: (.slice A49 l48.length c50) :: (.int .i64 x52) :: (.slice A74 l73.length c75) :: (.slice A85 l81.length c86) :: (.int .i64 x108) :: (.int .i64 x147) :: (.int .i64 x148) :: (.int .i64 x219) :: (u328 17) :: undef :: (u103 19) :: (.int .i64 ((p0.length : Nat) : Int)) :: (.bool false) :: undef :: dd u103 23 2 ((.int .u8 p1) :: dd u103 26 3 ((.int .u8 x26) :: (.int .i64 x27) :: (.int .i64 x27) :: (.bool false) :: undef :: dd u103 34 3 ((.int .u8 x26) :: dd u103 38 2 ((.int .i64 x52) :: (.int .i64 x52) :: (.bool false) :: dd u103 43 3 ((.int .i64 ((p0.length : Nat) : Int)) :: (u103 47) :: (.int .i64 x108) :: (u142 49) :: (.int .i64 ((l48.length : Nat) : Int)) :: (.bool true) :: dd u103 52 2 ((.int .i64 x148) :: (u223 55) :: (.int .i64 x108) :: dd u223 57 3 ((.int .i64 (((x155.1).length : Nat) : Int)) :: (.bool true) :: dd u142 62 2 ((u223 64) :: (.int .i64 x108) :: dd u223 66 3 ((.int .i64 x148) :: (.pointer (Option.map (fun (p : Addr) => p.add (Int.toNat x148 * 1)) A207)) :: (.int .i64 x219) :: dd u223 72 34 ((u328 106) :: (.int .i64 x219) :: dd u328 108 26 ((u142 134) :: dd u103 135 29 (un 17 ([])))))))))))))).toArray, []⟩) a ∧ Ctl.go () = c329 ∧ St [] w0 w [poolE ft56 W57, rowE .u8 5 A21 c22 l20, rowG 36 4 (.slice A49 l48.length c50) l48.length (cellsB oembedSeq ads51 l48), rowE .i64 3 A74 c75 l73, rowG 4 1 (.slice A85 l81.length c86) l81.length vs324]) ?_ ?_
               ·refine gx_seq (fun K332 hK333 => ?_)
                refine gx_region ?_
                refine gx_kA (.int .i64 x147) w322 (gx_kA (.int .i64 (IntKind.i64.wrap (x147 + 1))) w322 (gx_kA (.int .i64 (IntKind.i64.wrap (x147 + 1))) w322 ?_))
                refine gx_nil ?_
                refine gx_thenN ?_
                refine hK333 _ _ ?_
                refine gx_block ?_
                refine gx_loop (fun k a w => ∃ (x337 : Int), selfA (fun u336 => ⟨((.slice A0 p0.length c0) :: (.int .u8 p1) :: undef :: undef :: (u336 4) :: (.slice A21 l20.length c22) :: (u103 6) :: (.int .u8 x26) :: (.int .i64 x27) :: (.slice A49 l48.length c50) :: (.int .i64 x52) :: (.slice A74 l73.length c75) :: (.slice A85 l81.length c86) :: (.int .i64 x108) :: (.int .i64 x147) :: (.int .i64 x148) :: (.int .i64 x219) :: (.int .i64 x337) :: undef :: (u103 19) :: (.int .i64 ((p0.length : Nat) : Int)) :: (.bool false) :: undef :: dd u103 23 2 ((.int .u8 p1) :: dd u103 26 3 ((.int .u8 x26) :: (.int .i64 x27) :: (.int .i64 x27) :: (.bool false) :: undef :: dd u103 34 3 ((.int .u8 x26) :: dd u103 38 2 ((.int .i64 x52) :: (.int .i64 x52) :: (.bool false) :: dd u103 43 3 ((.int .i64 ((p0.length : Nat) : Int)) :: (u103 47) :: (.int .i64 x108) :: (u142 49) :: (.int .i64 ((l48.length : Nat) : Int)) :: (.bool true) :: dd u103 52 2 ((.int .i64 x148) :: (u223 55) :: (.int .i64 x108) :: dd u223 57 3 ((.int .i64 (((x155.1).length : Nat) : Int)) :: (.bool true) :: dd u142 62 2 ((u223 64) :: (.int .i64 x108) :: dd u223 66 3 ((.int .i64 x148) :: (.pointer (Option.map (fun (p : Addr) => p.add (Int.toNat x148 * 1)) A207)) :: (.int .i64 x219) :: dd u223 72 34 ((u336 106) :: (.int .i64 x219) :: (u336 108) :: (.int .i64 x147) :: (.int .i64 (IntKind.i64.wrap (x147 + 1))) :: dd u336 111 23 ((u142 134) :: dd u103 135 29 (un 17 ([])))))))))))))).toArray, []⟩) a ∧ fOnce_L3 N p0 l73 x147 x148 x219 k x337 = some c329 ∧ St [] w0 w [poolE ft56 W57, rowE .u8 5 A21 c22 l20, rowG 36 4 (.slice A49 l48.length c50) l48.length (cellsB oembedSeq ads51 l48), rowE .i64 3 A74 c75 l73, rowG 4 1 (.slice A85 l81.length c86) l81.length vs324]) N ?_ ?_
                ·exact ⟨(IntKind.i64.wrap (x147 + 1)), selfA_i (by as_aux_lemma => kernel_rfl), hE330, hS323⟩
                ·rintro k338 _ w334 ⟨x337, hq363, hL339, hS335⟩
                 obtain ⟨u336, rfl⟩ := selfA_u hq363
                 cases k338 with
                 | zero => cases hL339
                 | succ k338 =>
                  first | rw [fOnce_L3] at hL339 | unfold fOnce_L3 at hL339
                  refine gx_seq (fun K340 hK341 => ?_)
                  refine gx_seq (fun K342 hK343 => ?_)
                  refine gx_region ?_
                  refine gx_kA (.int .i64 x148) w334 ?_
                  rcases if_in hL339 with ⟨h344, hL339⟩ | ⟨h344, hL339⟩
                  ·refine gx_vA (.bool true) w334 (run_boolE (decide_eq_true h344) (by as_aux_lemma => kernel_rfl)) ?_
                   refine gx_kA (.bool true) w334 (gx_kA (.int .i64 x337) w334 (gx_kA (.int .i64 x219) w334 ?_))
                   rcases if_in hL339 with ⟨h345, hL339⟩ | ⟨h345, hL339⟩
                   ·refine gx_vA (.bool true) w334 (run_boolE (decide_eq_true h345) (by as_aux_lemma => kernel_rfl)) ?_
                    refine gx_kA (.bool true) w334 ?_
                    refine gx_nil ?_
                    refine gx_thenN ?_
                    refine hK343 _ _ ?_
                    refine gx_yes (by as_aux_lemma => kernel_rfl) ?_
                    refine gx_pass ?_
                    refine gx_thenN ?_
                    refine hK341 _ _ ?_
                    refine gx_seq (fun K346 hK347 => ?_)
                    refine gx_block ?_
                    refine gx_seq (fun K348 hK349 => ?_)
                    refine gx_region ?_
                    refine gx_kA (.slice A0 p0.length c0) w334 (gx_kA (.int .i64 x337) w334 ?_)
                    obtain ⟨x350, hx351, hL339⟩ := bind_in hL339
                    refine gx_vA (.pointer (Option.map (fun (p : Addr) => p.add (Int.toNat x337 * 1)) A0)) w334 (run_ixaddr (E := 34) (s := 1) (k := .i64) (c := c0) rfl (by as_aux_lemma => kernel_rfl) (by as_aux_lemma => kernel_rfl) (by as_aux_lemma => kernel_rfl) (fun _ => by kernel_rfl) (ix_in hx351).1 (ix_in hx351).2.1 (num_nil (hS335.view hv0))) ?_
                    refine gx_vA (.int .u8 x350) w334 (run_loadix rfl (by as_aux_lemma => kernel_rfl) (fun _ => by kernel_rfl) (hS335.view hv0) hx351) ?_
                    have hP352 : St _ _ w334 ([] ++ [poolE ft56 W57, rowE .u8 5 A21 c22 l20, rowG 36 4 (.slice A49 l48.length c50) l48.length (cellsB oembedSeq ads51 l48), rowE .i64 3 A74 c75 l73, rowG 4 1 (.slice A85 l81.length c86) l81.length vs324]) := hS335
                    obtain ⟨b354, hc353, hL339⟩ := bind_in hL339
                    try dsimp only at hL339
                    refine gx_cA (rRem_R b354 w334) (rRem_ok N x350 _ hc353 w334 ) ?_
                    rintro _ w355 ⟨rfl, hT357⟩
                    have hS356 : St _ _ w355 [poolE ft56 W57, rowE .u8 5 A21 c22 l20, rowG 36 4 (.slice A49 l48.length c50) l48.length (cellsB oembedSeq ads51 l48), rowE .i64 3 A74 c75 l73, rowG 4 1 (.slice A85 l81.length c86) l81.length vs324] := hS335.take _ hT357
                    cases b354 with
                    | true =>
                     try dsimp only at hL339
                     refine gx_kA (.bool false) w355 (gx_kA (.bool false) w355 (gx_oA (gx_oA (gx_oA (gx_oA (gx_oA (gx_oA ?_)))))))
                     refine gx_kA (.bool false) w355 ?_
                     refine gx_nil ?_
                     refine gx_thenN ?_
                     refine hK349 _ _ ?_
                     refine gx_no (by as_aux_lemma => kernel_rfl) ?_
                     refine gx_pass ?_
                     refine gx_blkN ?_
                     refine gx_thenN ?_
                     refine hK347 _ _ ?_
                     refine gx_region ?_
                     refine gx_kA (.int .i64 x337) w355 (gx_kA (.int .i64 (IntKind.i64.wrap (x337 + 1))) w355 (gx_kA (.int .i64 (IntKind.i64.wrap (x337 + 1))) w355 ?_))
                     refine gx_nil ?_
                     refine gx_thenN ?_
                     exact ⟨k338, Nat.lt_succ_self k338, (IntKind.i64.wrap (x337 + 1)), selfA_i (by as_aux_lemma => kernel_rfl), hL339, hS356⟩
                    | false =>
                     try dsimp only at hL339
                     refine gx_kA (.bool true) w355 (gx_kA (.bool true) w355 (gx_kA (.slice A74 l73.length c75) w355 (gx_kA (.int .i64 x147) w355 ?_)))
                     obtain ⟨x358, hx359, hL339⟩ := bind_in hL339
                     refine gx_vA (.pointer (Option.map (fun (p : Addr) => p.add (Int.toNat x147 * 1)) A74)) w355 (run_ixaddr (E := 3) (s := 1) (k := .i64) (c := c75) rfl (by as_aux_lemma => kernel_rfl) (by as_aux_lemma => kernel_rfl) (by as_aux_lemma => kernel_rfl) (fun _ => by kernel_rfl) (ix_in hx359).1 (ix_in hx359).2.1 (num_nil (hS356.row 3 rfl).1)) ?_
                     refine gx_vA (.int .i64 x358) w355 (run_loadix rfl (by as_aux_lemma => kernel_rfl) (fun _ => by kernel_rfl) (hS356.row 3 rfl).1 hx359) ?_
                     refine gx_kA (.int .i64 x219) w355 ?_
                     rcases if_in hL339 with ⟨h360, hL339⟩ | ⟨h360, hL339⟩
                     ·refine gx_vA (.bool true) w355 (run_boolE (ne_yes h360) (by as_aux_lemma => kernel_rfl)) ?_
                      refine gx_kA (.bool true) w355 ?_
                      refine gx_nil ?_
                      refine gx_thenN ?_
                      refine hK349 _ _ ?_
                      refine gx_yes (by as_aux_lemma => kernel_rfl) ?_
                      refine gx_seq (fun K361 hK362 => ?_)
                      refine gx_region ?_
                      refine gx_kA (.bool false) w355 ?_
                      refine gx_nil ?_
                      refine gx_thenN ?_
                      refine hK362 _ _ ?_
                      refine gx_ret ?_
                      refine gx_blkR ?_
                      refine gx_thenR ?_
                      refine gx_thenR ?_
                      refine gx_blkR ?_
                      refine gx_thenR ?_
                      obtain rfl := Option.some.inj hL339
                      try dsimp only at hO331
                      refine gx_blkR ?_
                      refine gx_thenR ?_
                      obtain rfl := Option.some.inj hO331
                      try dsimp only at hO191
                      refine gx_thenR ?_
                      refine gx_blkR ?_
                      refine gx_thenR ?_
                      obtain rfl := Option.some.inj hO191
                      try dsimp only at hO137
                      refine gx_blkR ?_
                      refine gx_thenR ?_
                      obtain rfl := Option.some.inj hO137
                      try dsimp only at hO125
                      refine gx_thenR ?_
                      refine gx_blkR ?_
                      refine gx_thenR ?_
                      obtain rfl := Option.some.inj hO125
                      try dsimp only at hO98
                      obtain rfl := Option.some.inj hO98
                      exact gx_fin (.bool false) (by as_aux_lemma => kernel_rfl) (by as_aux_lemma => kernel_rfl) ⟨_, rfl, rfl, (hS356.pick [] rfl rfl)⟩
                     ·refine gx_vA (.bool false) w355 (run_boolE (ne_no h360) (by as_aux_lemma => kernel_rfl)) ?_
                      refine gx_kA (.bool false) w355 ?_
                      refine gx_nil ?_
                      refine gx_thenN ?_
                      refine hK349 _ _ ?_
                      refine gx_no (by as_aux_lemma => kernel_rfl) ?_
                      refine gx_pass ?_
                      refine gx_blkN ?_
                      refine gx_thenN ?_
                      refine hK347 _ _ ?_
                      refine gx_region ?_
                      refine gx_kA (.int .i64 x337) w355 (gx_kA (.int .i64 (IntKind.i64.wrap (x337 + 1))) w355 (gx_kA (.int .i64 (IntKind.i64.wrap (x337 + 1))) w355 ?_))
                      refine gx_nil ?_
                      refine gx_thenN ?_
                      exact ⟨k338, Nat.lt_succ_self k338, (IntKind.i64.wrap (x337 + 1)), selfA_i (by as_aux_lemma => kernel_rfl), hL339, hS356⟩
                   ·refine gx_vA (.bool false) w334 (run_boolE (decide_eq_false h345) (by as_aux_lemma => kernel_rfl)) ?_
                    refine gx_kA (.bool false) w334 ?_
                    refine gx_nil ?_
                    refine gx_thenN ?_
                    refine hK343 _ _ ?_
                    refine gx_no (by as_aux_lemma => kernel_rfl) ?_
                    refine gx_exit ?_
                    refine gx_thenE ?_
                    refine gx_thenE ?_
                    refine gx_blkE ?_
                    refine gx_thenN ?_
                    exact ⟨selfA_i (by as_aux_lemma => kernel_rfl), (Option.some.inj hL339), hS335⟩
                  ·refine gx_vA (.bool false) w334 (run_boolE (decide_eq_false h344) (by as_aux_lemma => kernel_rfl)) ?_
                   refine gx_kA (.bool false) w334 (gx_oA (gx_oA (gx_oA (gx_kA (.bool false) w334 ?_))))
                   refine gx_nil ?_
                   refine gx_thenN ?_
                   refine hK343 _ _ ?_
                   refine gx_no (by as_aux_lemma => kernel_rfl) ?_
                   refine gx_exit ?_
                   refine gx_thenE ?_
                   refine gx_thenE ?_
                   refine gx_blkE ?_
                   refine gx_thenN ?_
                   exact ⟨selfA_i (by as_aux_lemma => kernel_rfl), (Option.some.inj hL339), hS335⟩
               ·rintro _ w326 ⟨hq364, rfl, hS327⟩
                obtain ⟨u328, rfl⟩ := selfA_u hq364
                try dsimp only at hO331
                refine gx_region ?_
                refine gx_kA (.int .i64 x219) w326 (gx_kA (.int .i64 x219) w326 ?_)
                refine gx_nil ?_
                refine gx_blkN ?_
                refine gx_thenN ?_
                exact ⟨l320, x219, vs324, selfA_i (by as_aux_lemma => kernel_rfl), (Option.some.inj hO331), hS327, hf325, (hn143.trans (setg_len hx321).symm)⟩
             ·rintro _ w181 ⟨l185, x188, vs186, hq366, rfl, hS182, hf187, hn184⟩
              obtain ⟨u183, rfl⟩ := selfA_u hq366
              try dsimp only at hO191
              refine gx_region ?_
              refine gx_kA (.int .i64 x148) w181 (gx_kA (.int .i64 (IntKind.i64.wrap (x148 + 1))) w181 (gx_kA (.int .i64 (IntKind.i64.wrap (x148 + 1))) w181 ?_))
              refine gx_nil ?_
              refine gx_thenN ?_
              exact ⟨k149, Nat.lt_succ_self k149, l185, x188, (IntKind.i64.wrap (x148 + 1)), vs186, selfA_i (by as_aux_lemma => kernel_rfl), hO191, hS182, hf187, hn184⟩
            ·refine gx_vA (.bool false) w140 (run_boolE (decide_eq_false h180) (by as_aux_lemma => kernel_rfl)) ?_
             refine gx_nil ?_
             refine gx_thenN ?_
             refine hK154 _ _ ?_
             refine gx_no (by as_aux_lemma => kernel_rfl) ?_
             refine gx_exit ?_
             refine gx_thenE ?_
             refine gx_thenE ?_
             refine gx_blkE ?_
             refine gx_thenN ?_
             exact ⟨l144, vs145, selfA_i (by as_aux_lemma => kernel_rfl), (Option.some.inj hL150), hS141, hf146, hn143⟩
         ·rintro _ w128 ⟨l132, vs133, hq458, rfl, hS129, hf134, hn131⟩
          obtain ⟨u130, rfl⟩ := selfA_u hq458
          try dsimp only at hO137
          refine gx_seq (fun K368 hK369 => ?_)
          refine gd_start (fun w => St [] w0 w [poolE ft56 W57, rowE .u8 5 A21 c22 l20, rowG 36 4 (.slice A49 l48.length c50) l48.length (cellsB oembedSeq ads51 l48), rowE .i64 3 A74 c75 l73, rowG 4 1 (.slice A85 l81.length c86) l81.length vs133]) 29 #[false, false, false, false, false, false, false, false, false, false, false, false, false, false, false, false, false, false, false, false, false, false, false, false, false, false, false, false, false] (by as_aux_lemma => kernel_rfl) (by as_aux_lemma => kernel_rfl) ?_
          have hS371 := hS129.drew
          generalize w128.drew = w370 at hS371 ⊢
          refine gd1 0 { dst := some 135, op := _, type := _, pos := _, after := _, guard := _ } (.slice A49 l48.length c50) rfl hS371 (fun w hSw => by kernel_rfl) ?_
          refine gd1 1 { dst := some 136, op := _, type := _, pos := _, after := _, guard := _ } (.int .i64 x108) rfl hS371 (fun w hSw => by kernel_rfl) ?_
          obtain ⟨x372, hx373, hO137⟩ := bind_in hO137
          obtain ⟨g374, o375, e376, hA377, he378, h379, ha380⟩ := elem_at (e := encembedSeq) (rowG_lies (e := encembedSeq) hn61 (hS371.get 2 rfl)) hf60 hx373 (by decide)
          obtain ⟨e381, e382, rfl, h383, h384⟩ := h379
          obtain ⟨A385, c386, vs387, rfl, hf388⟩ := h383
          obtain ⟨e389, e390, rfl, h391, h392⟩ := h384
          obtain rfl := h391
          obtain ⟨e393, e394, rfl, h395, h396⟩ := h392
          obtain rfl := h395
          obtain rfl := h396
          have ha380 : ∀ w', Lies w' A49 (cellsB oembedSeq ads51 l48) → w'.rangeAt g374 o375 [.slice A385 ((x372.1).length) c386, .int .u8 x372.2.1, .int .u8 x372.2.2.1, .int .u8 x372.2.2.2] := ha380
          refine gd1 2 { dst := some 137, op := _, type := _, pos := _, after := _, guard := _ } (.pointer (some ⟨g374, o375, none⟩)) rfl hS371 (fun w hSw => run_ixaddrN (E := 36) (s := 4) (k := .i64) (c := c50) rfl (by as_aux_lemma => kernel_rfl) (by as_aux_lemma => kernel_rfl) (by as_aux_lemma => kernel_rfl) (fun _ => by kernel_rfl) (ixg_in hx373).1 (lt_len hn61 (ixg_in hx373).2.1) hA377) ?_
          refine gd1 3 { dst := some 138, op := _, type := _, pos := _, after := _, guard := _ } (.pointer (some ⟨g374, o375, none⟩)) rfl hS371 (fun w hSw => by kernel_rfl) ?_
          refine gd1 4 { dst := some 139, op := _, type := _, pos := _, after := _, guard := _ } (.slice A385 ((x372.1).length) c386) rfl hS371 (fun w hSw => run_loadN1 0 rfl (by as_aux_lemma => kernel_rfl) (fun _ => by kernel_rfl) (ha380 _ (rowG_lies (e := encembedSeq) hn61 (hSw.get 2 rfl))) rfl) ?_
          refine gd1 5 { dst := some 140, op := _, type := _, pos := _, after := _, guard := _ } (.int .i64 (((x372.1).length : Nat) : Int)) rfl hS371 (fun w hSw => by kernel_rfl) ?_
          rcases if_in hO137 with ⟨h397, hO137⟩ | ⟨h397, hO137⟩
          ·refine gd1 6 { dst := some 141, op := _, type := _, pos := _, after := _, guard := _ } (.bool true) rfl hS371 (fun w hSw => run_boolE (decide_eq_true h397) (by as_aux_lemma => kernel_rfl)) ?_
           refine gd1 7 { dst := some 142, op := _, type := _, pos := _, after := _, guard := _ } (.bool true) rfl hS371 (fun w hSw => by kernel_rfl) ?_
           refine gd0 8 { dst := some 143, op := _, type := _, pos := _, after := _, guard := _ } rfl hS371 ?_
           refine gd0 9 { dst := some 144, op := _, type := _, pos := _, after := _, guard := _ } rfl hS371 ?_
           refine gd0 10 { dst := some 145, op := _, type := _, pos := _, after := _, guard := _ } rfl hS371 ?_
           refine gd0 11 { dst := some 146, op := _, type := _, pos := _, after := _, guard := _ } rfl hS371 ?_
           refine gd0 12 { dst := some 147, op := _, type := _, pos := _, after := _, guard := _ } rfl hS371 ?_
           refine gd0 13 { dst := some 148, op := _, type := _, pos := _, after := _, guard := _ } rfl hS371 ?_
           refine gd0 14 { dst := some 149, op := _, type := _, pos := _, after := _, guard := _ } rfl hS371 ?_
           refine gd0 15 { dst := some 150, op := _, type := _, pos := _, after := _, guard := _ } rfl hS371 ?_
           refine gd0 16 { dst := some 151, op := _, type := _, pos := _, after := _, guard := _ } rfl hS371 ?_
           refine gd0 17 { dst := some 152, op := _, type := _, pos := _, after := _, guard := _ } rfl hS371 ?_
           refine gd0 18 { dst := some 153, op := _, type := _, pos := _, after := _, guard := _ } rfl hS371 ?_
           refine gd0 19 { dst := some 154, op := _, type := _, pos := _, after := _, guard := _ } rfl hS371 ?_
           refine gd0 20 { dst := some 155, op := _, type := _, pos := _, after := _, guard := _ } rfl hS371 ?_
           refine gd0 21 { dst := some 156, op := _, type := _, pos := _, after := _, guard := _ } rfl hS371 ?_
           refine gd0 22 { dst := some 157, op := _, type := _, pos := _, after := _, guard := _ } rfl hS371 ?_
           refine gd0 23 { dst := some 158, op := _, type := _, pos := _, after := _, guard := _ } rfl hS371 ?_
           refine gd0 24 { dst := some 159, op := _, type := _, pos := _, after := _, guard := _ } rfl hS371 ?_
           refine gd0 25 { dst := some 160, op := _, type := _, pos := _, after := _, guard := _ } rfl hS371 ?_
           refine gd0 26 { dst := some 161, op := _, type := _, pos := _, after := _, guard := _ } rfl hS371 ?_
           refine gd0 27 { dst := some 162, op := _, type := _, pos := _, after := _, guard := _ } rfl hS371 ?_
           refine gd1 28 { dst := some 163, op := _, type := _, pos := _, after := _, guard := _ } (.bool true) rfl hS371 (fun w hSw => by kernel_rfl) ?_
           refine gd_done (by as_aux_lemma => kernel_rfl) ?_
           refine gx_thenN ?_
           refine hK369 _ _ ?_
           refine gx_yes (by as_aux_lemma => kernel_rfl) ?_
           refine gx_seq (fun K398 hK399 => ?_)
           refine gx_region ?_
           refine gx_kA (.bool false) w370 ?_
           refine gx_nil ?_
           refine gx_thenN ?_
           refine hK399 _ _ ?_
           refine gx_ret ?_
           refine gx_blkR ?_
           refine gx_thenR ?_
           obtain rfl := Option.some.inj hO137
           try dsimp only at hO125
           refine gx_thenR ?_
           refine gx_blkR ?_
           refine gx_thenR ?_
           obtain rfl := Option.some.inj hO125
           try dsimp only at hO98
           obtain rfl := Option.some.inj hO98
           exact gx_fin (.bool false) (by as_aux_lemma => kernel_rfl) (by as_aux_lemma => kernel_rfl) ⟨_, rfl, rfl, (hS371.pick [] rfl rfl)⟩
          ·refine gd1 6 { dst := some 141, op := _, type := _, pos := _, after := _, guard := _ } (.bool false) rfl hS371 (fun w hSw => run_boolE (decide_eq_false h397) (by as_aux_lemma => kernel_rfl)) ?_
           refine gd1 7 { dst := some 142, op := _, type := _, pos := _, after := _, guard := _ } (.bool false) rfl hS371 (fun w hSw => by kernel_rfl) ?_
           refine gd1 8 { dst := some 143, op := _, type := _, pos := _, after := _, guard := _ } (.int .i64 x108) rfl hS371 (fun w hSw => by kernel_rfl) ?_
           rcases if_in hO137 with ⟨h400, hO137⟩ | ⟨h400, hO137⟩
           ·refine gd1 9 { dst := some 144, op := _, type := _, pos := _, after := _, guard := _ } (.bool true) rfl hS371 (fun w hSw => run_boolE (decide_eq_true h400) (by as_aux_lemma => kernel_rfl)) ?_
            refine gd1 10 { dst := some 145, op := _, type := _, pos := _, after := _, guard := _ } (.bool true) rfl hS371 (fun w hSw => by kernel_rfl) ?_
            refine gd1 11 { dst := some 146, op := _, type := _, pos := _, after := _, guard := _ } (.slice A49 l48.length c50) rfl hS371 (fun w hSw => by kernel_rfl) ?_
            refine gd1 12 { dst := some 147, op := _, type := _, pos := _, after := _, guard := _ } (.int .i64 x108) rfl hS371 (fun w hSw => by kernel_rfl) ?_
            obtain ⟨x401, hx402, hO137⟩ := bind_in hO137
            obtain ⟨g403, o404, e405, hA406, he407, h408, ha409⟩ := elem_at (e := encembedSeq) (rowG_lies (e := encembedSeq) hn61 (hS371.get 2 rfl)) hf60 hx402 (by decide)
            obtain ⟨e410, e411, rfl, h412, h413⟩ := h408
            obtain ⟨A414, c415, vs416, rfl, hf417⟩ := h412
            obtain ⟨e418, e419, rfl, h420, h421⟩ := h413
            obtain rfl := h420
            obtain ⟨e422, e423, rfl, h424, h425⟩ := h421
            obtain rfl := h424
            obtain rfl := h425
            have ha409 : ∀ w', Lies w' A49 (cellsB oembedSeq ads51 l48) → w'.rangeAt g403 o404 [.slice A414 ((x401.1).length) c415, .int .u8 x401.2.1, .int .u8 x401.2.2.1, .int .u8 x401.2.2.2] := ha409
            refine gd1 13 { dst := some 148, op := _, type := _, pos := _, after := _, guard := _ } (.pointer (some ⟨g403, o404, none⟩)) rfl hS371 (fun w hSw => run_ixaddrN (E := 36) (s := 4) (k := .i64) (c := c50) rfl (by as_aux_lemma => kernel_rfl) (by as_aux_lemma => kernel_rfl) (by as_aux_lemma => kernel_rfl) (fun _ => by kernel_rfl) (ixg_in hx402).1 (lt_len hn61 (ixg_in hx402).2.1) hA406) ?_
            refine gd1 14 { dst := some 149, op := _, type := _, pos := _, after := _, guard := _ } (.pointer (some ⟨g403, o404, none⟩)) rfl hS371 (fun w hSw => by kernel_rfl) ?_
            refine gd1 15 { dst := some 150, op := _, type := _, pos := _, after := _, guard := _ } (.slice A414 ((x401.1).length) c415) rfl hS371 (fun w hSw => run_loadN1 0 rfl (by as_aux_lemma => kernel_rfl) (fun _ => by kernel_rfl) (ha409 _ (rowG_lies (e := encembedSeq) hn61 (hSw.get 2 rfl))) rfl) ?_
            obtain ⟨x426, hx427, hO137⟩ := bind_in hO137
            refine gd1 16 { dst := some 151, op := _, type := _, pos := _, after := _, guard := _ } (.pointer (Option.map (fun (p : Addr) => p.add (Int.toNat 0 * 1)) A414)) rfl hS371 (fun w hSw => run_ixaddr (E := 3) (s := 1) (k := .i64) (c := c415) rfl (by as_aux_lemma => kernel_rfl) (by as_aux_lemma => kernel_rfl) (by as_aux_lemma => kernel_rfl) (fun _ => by kernel_rfl) (ix_in hx427).1 (ix_in hx427).2.1 (num_nil (num_sl (hS371.now 0 rfl hf417)))) ?_
            refine gd1 17 { dst := some 152, op := _, type := _, pos := _, after := _, guard := _ } (.int .i64 x426) rfl hS371 (fun w hSw => run_loadix rfl (by as_aux_lemma => kernel_rfl) (fun _ => by kernel_rfl) (num_sl (hSw.now 0 rfl hf417)) hx427) ?_
            refine gd1 18 { dst := some 153, op := _, type := _, pos := _, after := _, guard := _ } (.slice A49 l48.length c50) rfl hS371 (fun w hSw => by kernel_rfl) ?_
            refine gd1 19 { dst := some 154, op := _, type := _, pos := _, after := _, guard := _ } (.int .i64 x108) rfl hS371 (fun w hSw => by kernel_rfl) ?_
            refine gd1 20 { dst := some 155, op := _, type := _, pos := _, after := _, guard := _ } (.int .i64 (IntKind.i64.wrap (x108 - 1))) rfl hS371 (fun w hSw => by kernel_rfl) ?_
            obtain ⟨x428, hx429, hO137⟩ := bind_in hO137
            obtain ⟨g430, o431, e432, hA433, he434, h435, ha436⟩ := elem_at (e := encembedSeq) (rowG_lies (e := encembedSeq) hn61 (hS371.get 2 rfl)) hf60 hx429 (by decide)
            obtain ⟨e437, e438, rfl, h439, h440⟩ := h435
            obtain ⟨A441, c442, vs443, rfl, hf444⟩ := h439
            obtain ⟨e445, e446, rfl, h447, h448⟩ := h440
            obtain rfl := h447
            obtain ⟨e449, e450, rfl, h451, h452⟩ := h448
            obtain rfl := h451
            obtain rfl := h452
            have ha436 : ∀ w', Lies w' A49 (cellsB oembedSeq ads51 l48) → w'.rangeAt g430 o431 [.slice A441 ((x428.1).length) c442, .int .u8 x428.2.1, .int .u8 x428.2.2.1, .int .u8 x428.2.2.2] := ha436
            refine gd1 21 { dst := some 156, op := _, type := _, pos := _, after := _, guard := _ } (.pointer (some ⟨g430, o431, none⟩)) rfl hS371 (fun w hSw => run_ixaddrN (E := 36) (s := 4) (k := .i64) (c := c50) rfl (by as_aux_lemma => kernel_rfl) (by as_aux_lemma => kernel_rfl) (by as_aux_lemma => kernel_rfl) (fun _ => by kernel_rfl) (ixg_in hx429).1 (lt_len hn61 (ixg_in hx429).2.1) hA433) ?_
            refine gd1 22 { dst := some 157, op := _, type := _, pos := _, after := _, guard := _ } (.pointer (some ⟨g430, o431, none⟩)) rfl hS371 (fun w hSw => by kernel_rfl) ?_
            refine gd1 23 { dst := some 158, op := _, type := _, pos := _, after := _, guard := _ } (.slice A441 ((x428.1).length) c442) rfl hS371 (fun w hSw => run_loadN1 0 rfl (by as_aux_lemma => kernel_rfl) (fun _ => by kernel_rfl) (ha436 _ (rowG_lies (e := encembedSeq) hn61 (hSw.get 2 rfl))) rfl) ?_
            obtain ⟨x453, hx454, hO137⟩ := bind_in hO137
            refine gd1 24 { dst := some 159, op := _, type := _, pos := _, after := _, guard := _ } (.pointer (Option.map (fun (p : Addr) => p.add (Int.toNat 0 * 1)) A441)) rfl hS371 (fun w hSw => run_ixaddr (E := 3) (s := 1) (k := .i64) (c := c442) rfl (by as_aux_lemma => kernel_rfl) (by as_aux_lemma => kernel_rfl) (by as_aux_lemma => kernel_rfl) (fun _ => by kernel_rfl) (ix_in hx454).1 (ix_in hx454).2.1 (num_nil (num_sl (hS371.now 0 rfl hf444)))) ?_
            refine gd1 25 { dst := some 160, op := _, type := _, pos := _, after := _, guard := _ } (.int .i64 x453) rfl hS371 (fun w hSw => run_loadix rfl (by as_aux_lemma => kernel_rfl) (fun _ => by kernel_rfl) (num_sl (hSw.now 0 rfl hf444)) hx454) ?_
            rcases if_in hO137 with ⟨h455, hO137⟩ | ⟨h455, hO137⟩
            ·refine gd1 26 { dst := some 161, op := _, type := _, pos := _, after := _, guard := _ } (.bool true) rfl hS371 (fun w hSw => run_boolE (decide_eq_true h455) (by as_aux_lemma => kernel_rfl)) ?_
             refine gd1 27 { dst := some 162, op := _, type := _, pos := _, after := _, guard := _ } (.bool true) rfl hS371 (fun w hSw => by kernel_rfl) ?_
             refine gd1 28 { dst := some 163, op := _, type := _, pos := _, after := _, guard := _ } (.bool true) rfl hS371 (fun w hSw => by kernel_rfl) ?_
             refine gd_done (by as_aux_lemma => kernel_rfl) ?_
             refine gx_thenN ?_
             refine hK369 _ _ ?_
             refine gx_yes (by as_aux_lemma => kernel_rfl) ?_
             refine gx_seq (fun K456 hK457 => ?_)
             refine gx_region ?_
             refine gx_kA (.bool false) w370 ?_
             refine gx_nil ?_
             refine gx_thenN ?_
             refine hK457 _ _ ?_
             refine gx_ret ?_
             refine gx_blkR ?_
             refine gx_thenR ?_
             obtain rfl := Option.some.inj hO137
             try dsimp only at hO125
             refine gx_thenR ?_
             refine gx_blkR ?_
             refine gx_thenR ?_
             obtain rfl := Option.some.inj hO125
             try dsimp only at hO98
             obtain rfl := Option.some.inj hO98
             exact gx_fin (.bool false) (by as_aux_lemma => kernel_rfl) (by as_aux_lemma => kernel_rfl) ⟨_, rfl, rfl, (hS371.pick [] rfl rfl)⟩
            ·refine gd1 26 { dst := some 161, op := _, type := _, pos := _, after := _, guard := _ } (.bool false) rfl hS371 (fun w hSw => run_boolE (decide_eq_false h455) (by as_aux_lemma => kernel_rfl)) ?_
             refine gd1 27 { dst := some 162, op := _, type := _, pos := _, after := _, guard := _ } (.bool false) rfl hS371 (fun w hSw => by kernel_rfl) ?_
             refine gd1 28 { dst := some 163, op := _, type := _, pos := _, after := _, guard := _ } (.bool false) rfl hS371 (fun w hSw => by kernel_rfl) ?_
             refine gd_done (by as_aux_lemma => kernel_rfl) ?_
             refine gx_thenN ?_
             refine hK369 _ _ ?_
             refine gx_no (by as_aux_lemma => kernel_rfl) ?_
             refine gx_pass ?_
             refine gx_blkN ?_
             refine gx_thenN ?_
             exact ⟨l132, vs133, selfA_i (by as_aux_lemma => kernel_rfl), (Option.some.inj hO137), hS371, hf134, hn131⟩
           ·refine gd1 9 { dst := some 144, op := _, type := _, pos := _, after := _, guard := _ } (.bool false) rfl hS371 (fun w hSw => run_boolE (decide_eq_false h400) (by as_aux_lemma => kernel_rfl)) ?_
            refine gd1 10 { dst := some 145, op := _, type := _, pos := _, after := _, guard := _ } (.bool false) rfl hS371 (fun w hSw => by kernel_rfl) ?_
            refine gd0 11 { dst := some 146, op := _, type := _, pos := _, after := _, guard := _ } rfl hS371 ?_
            refine gd0 12 { dst := some 147, op := _, type := _, pos := _, after := _, guard := _ } rfl hS371 ?_
            refine gd0 13 { dst := some 148, op := _, type := _, pos := _, after := _, guard := _ } rfl hS371 ?_
            refine gd0 14 { dst := some 149, op := _, type := _, pos := _, after := _, guard := _ } rfl hS371 ?_
            refine gd0 15 { dst := some 150, op := _, type := _, pos := _, after := _, guard := _ } rfl hS371 ?_
            refine gd0 16 { dst := some 151, op := _, type := _, pos := _, after := _, guard := _ } rfl hS371 ?_
            refine gd0 17 { dst := some 152, op := _, type := _, pos := _, after := _, guard := _ } rfl hS371 ?_
            refine gd0 18 { dst := some 153, op := _, type := _, pos := _, after := _, guard := _ } rfl hS371 ?_
            refine gd0 19 { dst := some 154, op := _, type := _, pos := _, after := _, guard := _ } rfl hS371 ?_
            refine gd0 20 { dst := some 155, op := _, type := _, pos := _, after := _, guard := _ } rfl hS371 ?_
            refine gd0 21 { dst := some 156, op := _, type := _, pos := _, after := _, guard := _ } rfl hS371 ?_
            refine gd0 22 { dst := some 157, op := _, type := _, pos := _, after := _, guard := _ } rfl hS371 ?_
            refine gd0 23 { dst := some 158, op := _, type := _, pos := _, after := _, guard := _ } rfl hS371 ?_
            refine gd0 24 { dst := some 159, op := _, type := _, pos := _, after := _, guard := _ } rfl hS371 ?_
            refine gd0 25 { dst := some 160, op := _, type := _, pos := _, after := _, guard := _ } rfl hS371 ?_
            refine gd0 26 { dst := some 161, op := _, type := _, pos := _, after := _, guard := _ } rfl hS371 ?_
            refine gd1 27 { dst := some 162, op := _, type := _, pos := _, after := _, guard := _ } (.bool false) rfl hS371 (fun w hSw => by kernel_rfl) ?_
            refine gd1 28 { dst := some 163, op := _, type := _, pos := _, after := _, guard := _ } (.bool false) rfl hS371 (fun w hSw => by kernel_rfl) ?_
            refine gd_done (by as_aux_lemma => kernel_rfl) ?_
            refine gx_thenN ?_
            refine hK369 _ _ ?_
            refine gx_no (by as_aux_lemma => kernel_rfl) ?_
            refine gx_pass ?_
            refine gx_blkN ?_
            refine gx_thenN ?_
            exact ⟨l132, vs133, selfA_i (by as_aux_lemma => kernel_rfl), (Option.some.inj hO137), hS371, hf134, hn131⟩
        ·rintro _ w116 ⟨l120, vs121, hq459, rfl, hS117, hf122, hn119⟩
         obtain ⟨u118, rfl⟩ := selfA_u hq459
         try dsimp only at hO125
         refine gx_region ?_
         refine gx_kA (.int .i64 x108) w116 (gx_kA (.int .i64 (IntKind.i64.wrap (x108 + 1))) w116 (gx_kA (.int .i64 (IntKind.i64.wrap (x108 + 1))) w116 ?_))
         refine gx_nil ?_
         refine gx_thenN ?_
         exact ⟨k109, Nat.lt_succ_self k109, l120, (IntKind.i64.wrap (x108 + 1)), vs121, selfA_i (by as_aux_lemma => kernel_rfl), hO125, hS117, hf122, hn119⟩
       ·refine gx_vA (.bool false) w101 (run_boolE (decide_eq_false h115) (by as_aux_lemma => kernel_rfl)) ?_
        refine gx_nil ?_
        refine gx_thenN ?_
        refine hK114 _ _ ?_
        refine gx_no (by as_aux_lemma => kernel_rfl) ?_
        refine gx_exit ?_
        refine gx_thenE ?_
        refine gx_thenE ?_
        refine gx_blkE ?_
        refine gx_thenN ?_
        exact ⟨l105, vs106, selfA_i (by as_aux_lemma => kernel_rfl), (Option.some.inj hL110), (hS102.pick [0, 4] rfl rfl), hf107, hn104⟩
    ·rintro _ w89 ⟨l93, vs94, hq517, rfl, hS90, hf95, hn92⟩
     obtain ⟨u91, rfl⟩ := selfA_u hq517
     try dsimp only at hO98
     obtain ⟨c464, hE465, hO466⟩ := bind_in hO98
     refine gx_cut (fun a w => selfA (fun u463 => ⟨((u463 0) :: (.int .u8 p1) :: undef :: undef :: (u463 4) :: dd u91 5 2 ((.int .u8 x26) :: (.int .i64 x27) :: (u91 9) :: (.int .i64 x52) :: (u91 11) :: (u463 12) :: dd u91 13 5 ((u463 18) :: (u91 19) :: (.int .i64 ((p0.length : Nat) : Int)) :: (.bool false) :: undef :: dd u91 23 2 ((.int .u8 p1) :: dd u91 26 3 ((.int .u8 x26) :: (.int .i64 x27) :: (.int .i64 x27) :: (.bool false) :: undef :: dd u91 34 3 ((.int .u8 x26) :: dd u91 38 2 ((.int .i64 x52) :: (.int .i64 x52) :: (.bool false) :: dd u91 43 3 ((.int .i64 ((p0.length : Nat) : Int)) :: dd u91 47 117 (dd u463 164 16 (undef :: [])))))))))).toArray, []⟩) a ∧ Ctl.go () = c464 ∧ St [] w0 w [poolE ft56 W57]) ?_ ?_
     ·refine gx_seq (fun K467 hK468 => ?_)
      refine gx_region ?_
      refine gx_kA (.int .i64 0) w89 ?_
      refine gx_nil ?_
      refine gx_thenN ?_
      refine hK468 _ _ ?_
      refine gx_block ?_
      refine gx_loop (fun k a w => ∃ (x472 : Int), selfA (fun u471 => ⟨((.slice A0 p0.length c0) :: (.int .u8 p1) :: undef :: undef :: (u471 4) :: dd u91 5 2 ((.int .u8 x26) :: (.int .i64 x27) :: (u91 9) :: (.int .i64 x52) :: (u91 11) :: (.slice A85 l81.length c86) :: dd u91 13 5 ((.int .i64 x472) :: (u91 19) :: (.int .i64 ((p0.length : Nat) : Int)) :: (.bool false) :: undef :: dd u91 23 2 ((.int .u8 p1) :: dd u91 26 3 ((.int .u8 x26) :: (.int .i64 x27) :: (.int .i64 x27) :: (.bool false) :: undef :: dd u91 34 3 ((.int .u8 x26) :: dd u91 38 2 ((.int .i64 x52) :: (.int .i64 x52) :: (.bool false) :: dd u91 43 3 ((.int .i64 ((p0.length : Nat) : Int)) :: dd u91 47 117 (dd u471 164 16 (undef :: [])))))))))).toArray, []⟩) a ∧ fOnce_L4 N p0 l93 k x472 = some c464 ∧ St [] w0 w [poolE ft56 W57, rowG 4 1 (.slice A85 l81.length c86) l81.length vs94]) N ?_ ?_
      ·exact ⟨0, selfA_i (by as_aux_lemma => kernel_rfl), hE465, hS90⟩
      ·rintro k473 _ w469 ⟨x472, hq507, hL474, hS470⟩
       obtain ⟨u471, rfl⟩ := selfA_u hq507
       cases k473 with
       | zero => cases hL474
       | succ k473 =>
        first | rw [fOnce_L4] at hL474 | unfold fOnce_L4 at hL474
        refine gx_seq (fun K475 hK476 => ?_)
        refine gx_seq (fun K477 hK478 => ?_)
        refine gx_region ?_
        refine gx_kA (.int .i64 x472) w469 (gx_kA (.slice A0 p0.length c0) w469 (gx_kA (.int .i64 ((p0.length : Nat) : Int)) w469 ?_))
        rcases if_in hL474 with ⟨h479, hL474⟩ | ⟨h479, hL474⟩
        ·refine gx_vA (.bool true) w469 (run_boolE (decide_eq_true h479) (by as_aux_lemma => kernel_rfl)) ?_
         refine gx_nil ?_
         refine gx_thenN ?_
         refine hK478 _ _ ?_
         refine gx_yes (by as_aux_lemma => kernel_rfl) ?_
         refine gx_pass ?_
         refine gx_thenN ?_
         refine hK476 _ _ ?_
         refine gx_seq (fun K480 hK481 => ?_)
         refine gx_block ?_
         refine gx_seq (fun K482 hK483 => ?_)
         refine gd_start (fun w => St [] w0 w [poolE ft56 W57, rowG 4 1 (.slice A85 l81.length c86) l81.length vs94]) 10 #[false, false, false, false, false, false, false, false, false, false] (by as_aux_lemma => kernel_rfl) (by as_aux_lemma => kernel_rfl) ?_
         have hS485 := hS470.drew
         generalize w469.drew = w484 at hS485 ⊢
         refine gd1 0 { dst := some 170, op := _, type := _, pos := _, after := _, guard := _ } (.slice A85 l81.length c86) rfl hS485 (fun w hSw => by kernel_rfl) ?_
         refine gd1 1 { dst := some 171, op := _, type := _, pos := _, after := _, guard := _ } (.int .i64 x472) rfl hS485 (fun w hSw => by kernel_rfl) ?_
         obtain ⟨x486, hx487, hL474⟩ := bind_in hL474
         obtain ⟨g488, o489, e490, hA491, he492, h493, ha494⟩ := elem_at (e := boolE) (rowG_lies (e := boolE) hn92 (hS485.get 1 rfl)) hf95 hx487 (by decide)
         obtain rfl := h493
         have ha494 : ∀ w', Lies w' A85 vs94 → w'.rangeAt g488 o489 [.bool x486] := ha494
         refine gd1 2 { dst := some 172, op := _, type := _, pos := _, after := _, guard := _ } (.pointer (some ⟨g488, o489, none⟩)) rfl hS485 (fun w hSw => run_ixaddrN (E := 4) (s := 1) (k := .i64) (c := c86) rfl (by as_aux_lemma => kernel_rfl) (by as_aux_lemma => kernel_rfl) (by as_aux_lemma => kernel_rfl) (fun _ => by kernel_rfl) (ixg_in hx487).1 (lt_len hn92 (ixg_in hx487).2.1) hA491) ?_
         refine gd1 3 { dst := some 173, op := _, type := _, pos := _, after := _, guard := _ } (.bool x486) rfl hS485 (fun w hSw => run_loadN1 0 rfl (by as_aux_lemma => kernel_rfl) (fun _ => by kernel_rfl) (ha494 _ (rowG_lies (e := boolE) hn92 (hSw.get 1 rfl))) rfl) ?_
         refine gd1 4 { dst := some 174, op := _, type := _, pos := _, after := _, guard := _ } (.slice A0 p0.length c0) rfl hS485 (fun w hSw => by kernel_rfl) ?_
         refine gd1 5 { dst := some 175, op := _, type := _, pos := _, after := _, guard := _ } (.int .i64 x472) rfl hS485 (fun w hSw => by kernel_rfl) ?_
         obtain ⟨x495, hx496, hL474⟩ := bind_in hL474
         refine gd1 6 { dst := some 176, op := _, type := _, pos := _, after := _, guard := _ } (.pointer (Option.map (fun (p : Addr) => p.add (Int.toNat x472 * 1)) A0)) rfl hS485 (fun w hSw => run_ixaddr (E := 34) (s := 1) (k := .i64) (c := c0) rfl (by as_aux_lemma => kernel_rfl) (by as_aux_lemma => kernel_rfl) (by as_aux_lemma => kernel_rfl) (fun _ => by kernel_rfl) (ix_in hx496).1 (ix_in hx496).2.1 (num_nil (hS485.view hv0))) ?_
         refine gd1 7 { dst := some 177, op := _, type := _, pos := _, after := _, guard := _ } (.int .u8 x495) rfl hS485 (fun w hSw => run_loadix rfl (by as_aux_lemma => kernel_rfl) (fun _ => by kernel_rfl) (hSw.view hv0) hx496) ?_
         have hP497 : St _ _ w484 ([] ++ [poolE ft56 W57, rowG 4 1 (.slice A85 l81.length c86) l81.length vs94]) := hS485
         obtain ⟨b499, hc498, hL474⟩ := bind_in hL474
         try dsimp only at hL474
         refine gdC 8 { dst := some 178, op := _, type := _, pos := _, after := _, guard := _ } (rRem_R b499 w484) rfl (by as_aux_lemma => kernel_rfl) (rRem_ok N x495 _ hc498 w484 ) ?_
         rintro _ w500 ⟨rfl, hT502⟩
         have hS501 : St _ _ w500 [poolE ft56 W57, rowG 4 1 (.slice A85 l81.length c86) l81.length vs94] := hS485.take _ hT502
         refine ⟨hS501, ?_⟩
         cases x486 with
         | true =>
          try dsimp only at hL474
          cases b499 with
          | true =>
           try dsimp only at hL474
           refine gd1 9 { dst := some 179, op := _, type := _, pos := _, after := _, guard := _ } (.bool true) rfl hS501 (fun w hSw => by kernel_rfl) ?_
           refine gd_done (by as_aux_lemma => kernel_rfl) ?_
           refine gx_thenN ?_
           refine hK483 _ _ ?_
           refine gx_yes (by as_aux_lemma => kernel_rfl) ?_
           refine gx_seq (fun K503 hK504 => ?_)
           refine gx_region ?_
           refine gx_kA (.bool false) w500 ?_
           refine gx_nil ?_
           refine gx_thenN ?_
           refine hK504 _ _ ?_
           refine gx_ret ?_
           refine gx_blkR ?_
           refine gx_thenR ?_
           refine gx_thenR ?_
           refine gx_blkR ?_
           refine gx_thenR ?_
           obtain rfl := Option.some.inj hL474
           try dsimp only at hO466
           obtain rfl := Option.some.inj hO466
           exact gx_fin (.bool false) (by as_aux_lemma => kernel_rfl) (by as_aux_lemma => kernel_rfl) ⟨_, rfl, rfl, (hS501.pick [] rfl rfl)⟩
          | false =>
           try dsimp only at hL474
           refine gd1 9 { dst := some 179, op := _, type := _, pos := _, after := _, guard := _ } (.bool false) rfl hS501 (fun w hSw => by kernel_rfl) ?_
           refine gd_done (by as_aux_lemma => kernel_rfl) ?_
           refine gx_thenN ?_
           refine hK483 _ _ ?_
           refine gx_no (by as_aux_lemma => kernel_rfl) ?_
           refine gx_pass ?_
           refine gx_blkN ?_
           refine gx_thenN ?_
           refine hK481 _ _ ?_
           refine gx_region ?_
           refine gx_kA (.int .i64 x472) w500 (gx_kA (.int .i64 (IntKind.i64.wrap (x472 + 1))) w500 (gx_kA (.int .i64 (IntKind.i64.wrap (x472 + 1))) w500 ?_))
           refine gx_nil ?_
           refine gx_thenN ?_
           exact ⟨k473, Nat.lt_succ_self k473, (IntKind.i64.wrap (x472 + 1)), selfA_i (by as_aux_lemma => kernel_rfl), hL474, hS501⟩
         | false =>
          try dsimp only at hL474
          cases b499 with
          | true =>
           try dsimp only at hL474
           refine gd1 9 { dst := some 179, op := _, type := _, pos := _, after := _, guard := _ } (.bool false) rfl hS501 (fun w hSw => by kernel_rfl) ?_
           refine gd_done (by as_aux_lemma => kernel_rfl) ?_
           refine gx_thenN ?_
           refine hK483 _ _ ?_
           refine gx_no (by as_aux_lemma => kernel_rfl) ?_
           refine gx_pass ?_
           refine gx_blkN ?_
           refine gx_thenN ?_
           refine hK481 _ _ ?_
           refine gx_region ?_
           refine gx_kA (.int .i64 x472) w500 (gx_kA (.int .i64 (IntKind.i64.wrap (x472 + 1))) w500 (gx_kA (.int .i64 (IntKind.i64.wrap (x472 + 1))) w500 ?_))
           refine gx_nil ?_
           refine gx_thenN ?_
           exact ⟨k473, Nat.lt_succ_self k473, (IntKind.i64.wrap (x472 + 1)), selfA_i (by as_aux_lemma => kernel_rfl), hL474, hS501⟩
          | false =>
           try dsimp only at hL474
           refine gd1 9 { dst := some 179, op := _, type := _, pos := _, after := _, guard := _ } (.bool true) rfl hS501 (fun w hSw => by kernel_rfl) ?_
           refine gd_done (by as_aux_lemma => kernel_rfl) ?_
           refine gx_thenN ?_
           refine hK483 _ _ ?_
           refine gx_yes (by as_aux_lemma => kernel_rfl) ?_
           refine gx_seq (fun K505 hK506 => ?_)
           refine gx_region ?_
           refine gx_kA (.bool false) w500 ?_
           refine gx_nil ?_
           refine gx_thenN ?_
           refine hK506 _ _ ?_
           refine gx_ret ?_
           refine gx_blkR ?_
           refine gx_thenR ?_
           refine gx_thenR ?_
           refine gx_blkR ?_
           refine gx_thenR ?_
           obtain rfl := Option.some.inj hL474
           try dsimp only at hO466
           obtain rfl := Option.some.inj hO466
           exact gx_fin (.bool false) (by as_aux_lemma => kernel_rfl) (by as_aux_lemma => kernel_rfl) ⟨_, rfl, rfl, (hS501.pick [] rfl rfl)⟩
        ·refine gx_vA (.bool false) w469 (run_boolE (decide_eq_false h479) (by as_aux_lemma => kernel_rfl)) ?_
         refine gx_nil ?_
         refine gx_thenN ?_
         refine hK478 _ _ ?_
         refine gx_no (by as_aux_lemma => kernel_rfl) ?_
         refine gx_exit ?_
         refine gx_thenE ?_
         refine gx_thenE ?_
         refine gx_blkE ?_
         refine gx_thenN ?_
         exact ⟨selfA_i (by as_aux_lemma => kernel_rfl), (Option.some.inj hL474), (hS470.pick [0] rfl rfl)⟩
     ·rintro _ w461 ⟨hq516, rfl, hS462⟩
      obtain ⟨u463, rfl⟩ := selfA_u hq516
      try dsimp only at hO466
      refine gx_seq (fun K508 hK509 => ?_)
      refine gx_region ?_
      have hP510 : St _ _ w461 ([] ++ [poolE ft56 W57]) := hS462
      obtain ⟨b512, hc511, hO466⟩ := bind_in hO466
      try dsimp only at hO466
      refine gx_cA (kIso_R b512 w461) (kIso_ok N  _ hc511 w461 ) ?_
      rintro _ w513 ⟨rfl, hT515⟩
      have hS514 : St _ _ w513 [poolE ft56 W57] := hS462.take _ hT515
      refine gx_kA (.bool b512) w513 ?_
      refine gx_nil ?_
      refine gx_thenN ?_
      refine hK509 _ _ ?_
      refine gx_ret ?_
      obtain rfl := Option.some.inj hO466
      exact gx_fin (.bool b512) (by as_aux_lemma => kernel_rfl) (by as_aux_lemma => kernel_rfl) ⟨_, rfl, rfl, (hS514.pick [] rfl rfl)⟩

end Go.Proofs.Ytjndolnjhbgflaa
