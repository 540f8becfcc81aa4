/-
  EmbedRuns, walked.
-/
import Derived.Test.YtjndolnjhbgflaaFSequences
import Derived.Test.YtjndolnjhbgflaaFOnce
namespace Go.Proofs.Ytjndolnjhbgflaa
open Go Go.RowKit
set_option linter.unusedVariables false

def fRuns_L1 (N : Nat) : Nat → (List Int) → Int → Option (List Int)
 | 0, _, _ => none
 | k281+1, l279, x280 => (if x280 < 40 then ((apx l279 ([20, 2])).bind fun l292 => fRuns_L1 N k281 l292 (IntKind.i64.wrap (x280 + 1))) else some (l279))
def fRuns_L2 (N : Nat) : Nat → (List Int) → Int → Option (List Int)
 | 0, _, _ => none
 | k318+1, l316, x317 => (if x317 < 42 then ((apx l316 ([23, 1])).bind fun l329 => fRuns_L2 N k318 l329 (IntKind.i64.wrap (x317 + 1))) else some (l316))
def fRuns (N : Nat) : Option (Bool) :=
 ((pSeqs N ([1, 16, 2, 19, 1]) ([0, 0, 1, 1, 0]) (0 : Int)).bind fun (l11, _x15) => ((pSeqs N ([21, 2]) ([0, 1]) (0 : Int)).bind fun (l33, _x37) => (((((if ((l11.length : Nat) : Int) = 3 then ((ixg l11 (0 : Int)).bind fun x63 => (if x63.2.2.2 = 2 then some (true) else some (false))) else some (false)) : Option (Bool)).bind fun b57 => (((match b57 with | true => ((ixg l11 (1 : Int)).bind fun x97 => (if x97.2.2.1 = 2 then some (true) else some (false))) | false => some (false)) : Option (Bool)).bind fun b92 => (((match b92 with | true => ((ixg l11 (2 : Int)).bind fun x131 => (if x131.2.2.1 = 2 then some (true) else some (false))) | false => some (false)) : Option (Bool)).bind fun b126 => (((match b126 with | true => ((ixg l11 (2 : Int)).bind fun x165 => (if x165.2.2.2 = 1 then some (true) else some (false))) | false => some (false)) : Option (Bool)).bind fun b160 => (((match b160 with | true => (if ((l33.length : Nat) : Int) = 2 then some (true) else some (false)) | false => some (false)) : Option (Bool)).bind fun b194 => (((match b194 with | true => ((ixg l33 (0 : Int)).bind fun x208 => (if x208.2.2.2 = 1 then some (true) else some (false))) | false => some (false)) : Option (Bool)).bind fun b203 => (match b203 with | true => ((ixg l33 (1 : Int)).bind fun x234 => (if x234.2.2.2 = 2 then some (true) else some (false))) | false => some (false)))))))) : Option (Bool)).bind fun b50 => ((fRuns_L1 N N ([]) 0 : Option (List Int)).bind fun l267 => ((fRuns_L2 N N l267 0 : Option (List Int)).bind fun l305 => ((apx l305 ([11, 21, 20, 23, 22, 3])).bind fun l341 => ((((((fOnce N l341 (0 : Int)).bind fun b365 => (match b365 with | true => ((fOnce N l341 (1 : Int)).bind fun b371 => some (b371)) | false => some (false))) : Option (Bool)).bind fun b358 => (((match b358 with | true => ((fOnce N l341 (2 : Int)).bind fun b385 => some (b385)) | false => some (false)) : Option (Bool)).bind fun b378 => (((match b378 with | true => ((mkx ((l341.length : Nat) : Int)).bind fun l397 => ((fSequences N l341 l397 (0 : Int)).bind fun b405 => some (b405))) | false => some (false)) : Option (Bool)).bind fun b392 => (match b392 with | true => ((mkx (3 : Int)).bind fun l409 => ((fSequences N l341 l409 (0 : Int)).bind fun b417 => (match b417 with | true => ((fSequences N ([]) ([]) (9 : Int)).bind fun b425 => some (b425)) | false => some (false)))) | false => some (false))))) : Option (Bool)).bind fun b351 => ((mkx (65537 : Int)).bind fun lz15_430o0_1 => ((mkx (65537 : Int)).bind fun lz15_430o1_1 => ((pSeqs N lz15_430o0_1 lz15_430o1_1 (0 : Int)).bind fun (_lz15_430o2_3, xz15_430o2_7) => ((mkx (1 : Int)).bind fun l438 => ((pSeqs N l438 ([]) (0 : Int)).bind fun (_l447, x451) => ((mkx (65536 : Int)).bind fun lz17_462o0_1 => ((mkx (65536 : Int)).bind fun lz17_462o1_1 => ((pSeqs N lz17_462o0_1 lz17_462o1_1 (0 : Int)).bind fun (_lz17_462o2_3, xz17_462o2_7) => (((match b50 with | true => some (b351) | false => some (false)) : Option (Bool)).bind fun b473 => (((match b473 with | true => (if xz15_430o2_7 = 3 then some (true) else some (false)) | false => some (false)) : Option (Bool)).bind fun b481 => (((match b481 with | true => (if x451 = 2 then some (true) else some (false)) | false => some (false)) : Option (Bool)).bind fun b490 => (match b490 with | true => (if xz17_462o2_7 = 0 then ((kIso N ).bind fun b499 => some b499) else some false) | false => some false)))))))))))))))))))

set_option linter.unusedVariables false in
def fRuns_R (r : Bool) (w0 : World) (v : Value) (w : World) : Prop := v = .bool r ∧ St [] w0 w []

set_option maxRecDepth 100000 in
set_option maxHeartbeats 4000000 in
theorem fRuns_ok (N : Nat)  (r : Bool) (hF : fRuns N = some r) (w0 : World)  :
  Calls Try.prog 7 #[] w0 fun e w => ∃ v, e = .returned v ∧ fRuns_R r w0 v w := by
 have hS0 := (St.start w0).pool0
 unfold fRuns at hF
 refine calls_of Try.func7 rfl ⟨(un 156 ([])).toArray, []⟩ (by as_aux_lemma => kernel_rfl) ?_
 refine gx_seq (fun K1 hK2 => ?_)
 refine gx_region ?_
 refine gx_kA (.bool false) w0 ?_
 refine gx_nil ?_
 refine gx_thenN ?_
 refine hK2 _ _ ?_
 refine gx_seq (fun K3 hK4 => ?_)
 refine gx_region ?_
 refine gx_rA (st_made .u8 34 [1, 16, 2, 19, 1] hS0 (by show 5 ≤ 1000000000; decide) (by as_aux_lemma => kernel_rfl)) ?_
 rintro _ w5 ⟨rfl, hS6⟩
 have hS6 : St _ _ w5 [poolE ([]) w0, rowE .u8 34 (some ⟨w0.heap.size, 0, none⟩) 5 ([1, 16, 2, 19, 1])] := hS6
 refine gx_rA (st_made .u8 5 [0, 0, 1, 1, 0] hS6 (by show 5 ≤ 1000000000; decide) (by as_aux_lemma => kernel_rfl)) ?_
 rintro _ w7 ⟨rfl, hS8⟩
 have hS8 : St _ _ w7 [poolE ([]) w0, rowE .u8 34 (some ⟨w0.heap.size, 0, none⟩) 5 ([1, 16, 2, 19, 1]), rowE .u8 5 (some ⟨w5.heap.size, 0, none⟩) 5 ([0, 0, 1, 1, 0])] := hS8
 have hP9 : St _ _ w7 ([] ++ [poolE ([]) w0, rowE .u8 34 (some ⟨w0.heap.size, 0, none⟩) 5 ([1, 16, 2, 19, 1]), rowE .u8 5 (some ⟨w5.heap.size, 0, none⟩) 5 ([0, 0, 1, 1, 0])]) := hS8
 obtain ⟨⟨l11, x15⟩, hc10, hF⟩ := bind_in hF
 try dsimp only at hF
 refine gx_cA (pSeqs_R (l11, x15) w7) (pSeqs_ok N ([1, 16, 2, 19, 1]) ([0, 0, 1, 1, 0]) (0 : Int) (some ⟨w0.heap.size, 0, none⟩) 5 (some ⟨w5.heap.size, 0, none⟩) 5 _ hc10 w7 (hP9.vwB 1 rfl) (hP9.vwB 2 rfl)) ?_
 rintro _ w16 ⟨A12, c13, ads14, rfl, hT18⟩
 have hS17 : St _ _ w16 [poolE ([]) w0, rowE .u8 34 (some ⟨w0.heap.size, 0, none⟩) 5 ([1, 16, 2, 19, 1]), rowE .u8 5 (some ⟨w5.heap.size, 0, none⟩) 5 ([0, 0, 1, 1, 0]), rowO oembedSeq 36 A12 l11.length c13 ads14 l11] := hS8.take _ hT18
 obtain ⟨ft19, W20, hS21, hT22, hf23, hn24⟩ := hS17.freezeO 3 0 rfl rfl (by decide)
 have hS21 : St _ _ w16 [poolE ft19 W20, rowE .u8 34 (some ⟨w0.heap.size, 0, none⟩) 5 ([1, 16, 2, 19, 1]), rowE .u8 5 (some ⟨w5.heap.size, 0, none⟩) 5 ([0, 0, 1, 1, 0]), rowG 36 4 (.slice A12 l11.length c13) l11.length (cellsB oembedSeq ads14 l11)] := hS21
 have hT22 : Turn [] w0 w0 ([]) W20 ft19 := hT22
 have hf23 : (fEach encembedSeq (cellsB oembedSeq ads14 l11) l11).rd W20 ft19 := hf23
 refine gx_kA (.tuple #[.slice A12 l11.length c13, .int .i64 x15]) w16 (gx_kA (.slice A12 l11.length c13) w16 (gx_kA (.int .i64 x15) w16 (gx_kA (.slice A12 l11.length c13) w16 (gx_kA (.int .i64 x15) w16 ?_))))
 refine gx_nil ?_
 refine gx_thenN ?_
 refine hK4 _ _ ?_
 refine gx_seq (fun K25 hK26 => ?_)
 refine gx_region ?_
 refine gx_rA (st_made .u8 34 [21, 2] hS21 (by show 2 ≤ 1000000000; decide) (by as_aux_lemma => kernel_rfl)) ?_
 rintro _ w27 ⟨rfl, hS28⟩
 have hS28 : St _ _ w27 [poolE ft19 W20, rowE .u8 34 (some ⟨w0.heap.size, 0, none⟩) 5 ([1, 16, 2, 19, 1]), rowE .u8 5 (some ⟨w5.heap.size, 0, none⟩) 5 ([0, 0, 1, 1, 0]), rowG 36 4 (.slice A12 l11.length c13) l11.length (cellsB oembedSeq ads14 l11), rowE .u8 34 (some ⟨w16.heap.size, 0, none⟩) 2 ([21, 2])] := hS28
 refine gx_rA (st_made .u8 5 [0, 1] hS28 (by show 2 ≤ 1000000000; decide) (by as_aux_lemma => kernel_rfl)) ?_
 rintro _ w29 ⟨rfl, hS30⟩
 have hS30 : St _ _ w29 [poolE ft19 W20, rowE .u8 34 (some ⟨w0.heap.size, 0, none⟩) 5 ([1, 16, 2, 19, 1]), rowE .u8 5 (some ⟨w5.heap.size, 0, none⟩) 5 ([0, 0, 1, 1, 0]), rowG 36 4 (.slice A12 l11.length c13) l11.length (cellsB oembedSeq ads14 l11), rowE .u8 34 (some ⟨w16.heap.size, 0, none⟩) 2 ([21, 2]), rowE .u8 5 (some ⟨w27.heap.size, 0, none⟩) 2 ([0, 1])] := hS30
 have hP31 : St _ _ w29 ([] ++ [poolE ft19 W20, rowE .u8 34 (some ⟨w0.heap.size, 0, none⟩) 5 ([1, 16, 2, 19, 1]), rowE .u8 5 (some ⟨w5.heap.size, 0, none⟩) 5 ([0, 0, 1, 1, 0]), rowG 36 4 (.slice A12 l11.length c13) l11.length (cellsB oembedSeq ads14 l11), rowE .u8 34 (some ⟨w16.heap.size, 0, none⟩) 2 ([21, 2]), rowE .u8 5 (some ⟨w27.heap.size, 0, none⟩) 2 ([0, 1])]) := hS30
 obtain ⟨⟨l33, x37⟩, hc32, hF⟩ := bind_in hF
 try dsimp only at hF
 refine gx_cA (pSeqs_R (l33, x37) w29) (pSeqs_ok N ([21, 2]) ([0, 1]) (0 : Int) (some ⟨w16.heap.size, 0, none⟩) 2 (some ⟨w27.heap.size, 0, none⟩) 2 _ hc32 w29 (hP31.vwB 4 rfl) (hP31.vwB 5 rfl)) ?_
 rintro _ w38 ⟨A34, c35, ads36, rfl, hT40⟩
 have hS39 : St _ _ w38 [poolE ft19 W20, rowE .u8 34 (some ⟨w0.heap.size, 0, none⟩) 5 ([1, 16, 2, 19, 1]), rowE .u8 5 (some ⟨w5.heap.size, 0, none⟩) 5 ([0, 0, 1, 1, 0]), rowG 36 4 (.slice A12 l11.length c13) l11.length (cellsB oembedSeq ads14 l11), rowE .u8 34 (some ⟨w16.heap.size, 0, none⟩) 2 ([21, 2]), rowE .u8 5 (some ⟨w27.heap.size, 0, none⟩) 2 ([0, 1]), rowO oembedSeq 36 A34 l33.length c35 ads36 l33] := hS30.take _ hT40
 obtain ⟨ft41, W42, hS43, hT44, hf45, hn46⟩ := hS39.freezeO 6 0 rfl rfl (by decide)
 have hS43 : St _ _ w38 [poolE ft41 W42, rowE .u8 34 (some ⟨w0.heap.size, 0, none⟩) 5 ([1, 16, 2, 19, 1]), rowE .u8 5 (some ⟨w5.heap.size, 0, none⟩) 5 ([0, 0, 1, 1, 0]), rowG 36 4 (.slice A12 l11.length c13) l11.length (cellsB oembedSeq ads14 l11), rowE .u8 34 (some ⟨w16.heap.size, 0, none⟩) 2 ([21, 2]), rowE .u8 5 (some ⟨w27.heap.size, 0, none⟩) 2 ([0, 1]), rowG 36 4 (.slice A34 l33.length c35) l33.length (cellsB oembedSeq ads36 l33)] := hS43
 have hT44 : Turn [] w0 W20 ft19 W42 ft41 := hT44
 have hf45 : (fEach encembedSeq (cellsB oembedSeq ads36 l33) l33).rd W42 ft41 := hf45
 refine gx_kA (.tuple #[.slice A34 l33.length c35, .int .i64 x37]) w38 (gx_kA (.slice A34 l33.length c35) w38 (gx_kA (.int .i64 x37) w38 (gx_kA (.slice A34 l33.length c35) w38 (gx_kA (.int .i64 x37) w38 ?_))))
 refine gx_nil ?_
 refine gx_thenN ?_
 refine hK26 _ _ ?_
 obtain ⟨c51, hE52, hO53⟩ := bind_in hF
 refine gx_cut (fun a w => ∃ (b50 : Bool), selfA (fun u49 => ⟨((.bool false) :: (u49 1) :: (.int .i64 x15) :: (u49 3) :: (.int .i64 x37) :: (.bool b50) :: un 10 (dd u49 16 5 ((.int .i64 x15) :: dd u49 22 5 ((.int .i64 x37) :: dd u49 28 50 (un 78 ([])))))).toArray, []⟩) a ∧ b50 = c51 ∧ St [] w0 w [poolE ft41 W42]) ?_ ?_
 ·refine gx_region ?_
  refine gx_kA (.slice A12 l11.length c13) w38 (gx_kA (.int .i64 ((l11.length : Nat) : Int)) w38 ?_)
  obtain ⟨c58, hE59, hO60⟩ := bind_in hE52
  refine gx_part (l1 := [_, _, _, _, _, _, _, _]) (fun a w => ∃ (b57 : Bool), selfA (fun u56 => ⟨((.bool false) :: (.slice A12 l11.length c13) :: (.int .i64 x15) :: (.slice A34 l33.length c35) :: (.int .i64 x37) :: un 11 (dd u56 16 5 ((.int .i64 x15) :: dd u56 22 5 ((.int .i64 x37) :: (u56 28) :: (.int .i64 ((l11.length : Nat) : Int)) :: dd u56 30 7 ((.bool b57) :: un 118 ([])))))).toArray, []⟩) a ∧ b57 = c58 ∧ St [] w0 w [poolE ft41 W42, rowG 36 4 (.slice A12 l11.length c13) l11.length (cellsB oembedSeq ads14 l11), rowG 36 4 (.slice A34 l33.length c35) l33.length (cellsB oembedSeq ads36 l33)]) rfl ?_ ?_
  ·rcases if_in hE59 with ⟨h62, hE59⟩ | ⟨h62, hE59⟩
   ·refine gx_vA (.bool true) w38 (run_boolE (decide_eq_true h62) (by as_aux_lemma => kernel_rfl)) ?_
    refine gx_kA (.bool true) w38 (gx_kA (.slice A12 l11.length c13) w38 ?_)
    obtain ⟨x63, hx64, hE59⟩ := bind_in hE59
    obtain ⟨g65, o66, e67, hA68, he69, h70, ha71⟩ := elem_at (e := encembedSeq) (rowG_lies (e := encembedSeq) hn24 (hS43.get 3 rfl)) (hT44.pool hf23) hx64 (by decide)
    obtain ⟨e72, e73, rfl, h74, h75⟩ := h70
    obtain ⟨A76, c77, vs78, rfl, hf79⟩ := h74
    obtain ⟨e80, e81, rfl, h82, h83⟩ := h75
    obtain rfl := h82
    obtain ⟨e84, e85, rfl, h86, h87⟩ := h83
    obtain rfl := h86
    obtain rfl := h87
    have ha71 : ∀ w', Lies w' A12 (cellsB oembedSeq ads14 l11) → w'.rangeAt g65 o66 [.slice A76 ((x63.1).length) c77, .int .u8 x63.2.1, .int .u8 x63.2.2.1, .int .u8 x63.2.2.2] := ha71
    refine gx_vA (.pointer (some ⟨g65, o66, none⟩)) w38 (run_ixaddrN (E := 36) (s := 4) (k := .i64) (c := c13) rfl (by as_aux_lemma => kernel_rfl) (by as_aux_lemma => kernel_rfl) (by as_aux_lemma => kernel_rfl) (fun _ => by kernel_rfl) (ixg_in hx64).1 (lt_len hn24 (ixg_in hx64).2.1) hA68) ?_
    refine gx_kA (.pointer (some ⟨g65, o66 + 3, none⟩)) w38 ?_
    refine gx_vA (.int .u8 x63.2.2.2) w38 (run_loadN1 3 rfl (by as_aux_lemma => kernel_rfl) (fun _ => by kernel_rfl) (ha71 _ (rowG_lies (e := encembedSeq) hn24 (hS43.get 3 rfl))) rfl) ?_
    rcases if_in hE59 with ⟨h88, hE59⟩ | ⟨h88, hE59⟩
    ·refine gx_vA (.bool true) w38 (run_boolE (decide_eq_true h88) (by as_aux_lemma => kernel_rfl)) ?_
     refine gx_kA (.bool true) w38 ?_
     refine gx_nil ?_
     refine gx_thenN ?_
     exact ⟨true, selfA_i (by as_aux_lemma => kernel_rfl), (Option.some.inj hE59), (hS43.pick [0, 3, 6] rfl rfl)⟩
    ·refine gx_vA (.bool false) w38 (run_boolE (decide_eq_false h88) (by as_aux_lemma => kernel_rfl)) ?_
     refine gx_kA (.bool false) w38 ?_
     refine gx_nil ?_
     refine gx_thenN ?_
     exact ⟨false, selfA_i (by as_aux_lemma => kernel_rfl), (Option.some.inj hE59), (hS43.pick [0, 3, 6] rfl rfl)⟩
   ·refine gx_vA (.bool false) w38 (run_boolE (decide_eq_false h62) (by as_aux_lemma => kernel_rfl)) ?_
    refine gx_kA (.bool false) w38 (gx_oA (gx_oA (gx_oA (gx_oA (gx_oA (gx_kA (.bool false) w38 ?_))))))
    refine gx_nil ?_
    refine gx_thenN ?_
    exact ⟨false, selfA_i (by as_aux_lemma => kernel_rfl), (Option.some.inj hE59), (hS43.pick [0, 3, 6] rfl rfl)⟩
  ·rintro _ w54 ⟨b57, hq61, rfl, hS55⟩
   obtain ⟨u56, rfl⟩ := selfA_u hq61
   try dsimp only at hO60
   obtain ⟨c93, hE94, hO95⟩ := bind_in hO60
   refine gx_part (l1 := [_, _, _, _, _, _, _]) (fun a w => ∃ (b92 : Bool), selfA (fun u91 => ⟨((.bool false) :: (.slice A12 l11.length c13) :: (.int .i64 x15) :: (.slice A34 l33.length c35) :: (.int .i64 x37) :: un 11 (dd u56 16 5 ((.int .i64 x15) :: dd u56 22 5 ((.int .i64 x37) :: (u56 28) :: (.int .i64 ((l11.length : Nat) : Int)) :: dd u56 30 7 ((.bool b57) :: dd u91 38 6 ((.bool b92) :: un 111 ([]))))))).toArray, []⟩) a ∧ b92 = c93 ∧ St [] w0 w [poolE ft41 W42, rowG 36 4 (.slice A12 l11.length c13) l11.length (cellsB oembedSeq ads14 l11), rowG 36 4 (.slice A34 l33.length c35) l33.length (cellsB oembedSeq ads36 l33)]) rfl ?_ ?_
   ·refine gx_kA (.bool b57) w54 ?_
    cases b57 with
    | true =>
     try dsimp only at hE94
     refine gx_kA (.slice A12 l11.length c13) w54 ?_
     obtain ⟨x97, hx98, hE94⟩ := bind_in hE94
     obtain ⟨g99, o100, e101, hA102, he103, h104, ha105⟩ := elem_at (e := encembedSeq) (rowG_lies (e := encembedSeq) hn24 (hS55.get 1 rfl)) (hT44.pool hf23) hx98 (by decide)
     obtain ⟨e106, e107, rfl, h108, h109⟩ := h104
     obtain ⟨A110, c111, vs112, rfl, hf113⟩ := h108
     obtain ⟨e114, e115, rfl, h116, h117⟩ := h109
     obtain rfl := h116
     obtain ⟨e118, e119, rfl, h120, h121⟩ := h117
     obtain rfl := h120
     obtain rfl := h121
     have ha105 : ∀ w', Lies w' A12 (cellsB oembedSeq ads14 l11) → w'.rangeAt g99 o100 [.slice A110 ((x97.1).length) c111, .int .u8 x97.2.1, .int .u8 x97.2.2.1, .int .u8 x97.2.2.2] := ha105
     refine gx_vA (.pointer (some ⟨g99, o100, none⟩)) w54 (run_ixaddrN (E := 36) (s := 4) (k := .i64) (c := c13) rfl (by as_aux_lemma => kernel_rfl) (by as_aux_lemma => kernel_rfl) (by as_aux_lemma => kernel_rfl) (fun _ => by kernel_rfl) (ixg_in hx98).1 (lt_len hn24 (ixg_in hx98).2.1) hA102) ?_
     refine gx_kA (.pointer (some ⟨g99, o100 + 2, none⟩)) w54 ?_
     refine gx_vA (.int .u8 x97.2.2.1) w54 (run_loadN1 2 rfl (by as_aux_lemma => kernel_rfl) (fun _ => by kernel_rfl) (ha105 _ (rowG_lies (e := encembedSeq) hn24 (hS55.get 1 rfl))) rfl) ?_
     rcases if_in hE94 with ⟨h122, hE94⟩ | ⟨h122, hE94⟩
     ·refine gx_vA (.bool true) w54 (run_boolE (decide_eq_true h122) (by as_aux_lemma => kernel_rfl)) ?_
      refine gx_kA (.bool true) w54 ?_
      refine gx_nil ?_
      refine gx_thenN ?_
      exact ⟨true, selfA_i (by as_aux_lemma => kernel_rfl), (Option.some.inj hE94), hS55⟩
     ·refine gx_vA (.bool false) w54 (run_boolE (decide_eq_false h122) (by as_aux_lemma => kernel_rfl)) ?_
      refine gx_kA (.bool false) w54 ?_
      refine gx_nil ?_
      refine gx_thenN ?_
      exact ⟨false, selfA_i (by as_aux_lemma => kernel_rfl), (Option.some.inj hE94), hS55⟩
    | false =>
     try dsimp only at hE94
     refine gx_oA (gx_oA (gx_oA (gx_oA (gx_oA (gx_kA (.bool false) w54 ?_)))))
     refine gx_nil ?_
     refine gx_thenN ?_
     exact ⟨false, selfA_i (by as_aux_lemma => kernel_rfl), (Option.some.inj hE94), hS55⟩
   ·rintro _ w89 ⟨b92, hq96, rfl, hS90⟩
    obtain ⟨u91, rfl⟩ := selfA_u hq96
    try dsimp only at hO95
    obtain ⟨c127, hE128, hO129⟩ := bind_in hO95
    refine gx_part (l1 := [_, _, _, _, _, _, _]) (fun a w => ∃ (b126 : Bool), selfA (fun u125 => ⟨((.bool false) :: (.slice A12 l11.length c13) :: (.int .i64 x15) :: (.slice A34 l33.length c35) :: (.int .i64 x37) :: un 11 (dd u56 16 5 ((.int .i64 x15) :: dd u56 22 5 ((.int .i64 x37) :: (u56 28) :: (.int .i64 ((l11.length : Nat) : Int)) :: dd u56 30 7 ((.bool b57) :: dd u91 38 6 ((.bool b92) :: dd u125 45 6 ((.bool b126) :: un 104 ([])))))))).toArray, []⟩) a ∧ b126 = c127 ∧ St [] w0 w [poolE ft41 W42, rowG 36 4 (.slice A12 l11.length c13) l11.length (cellsB oembedSeq ads14 l11), rowG 36 4 (.slice A34 l33.length c35) l33.length (cellsB oembedSeq ads36 l33)]) rfl ?_ ?_
    ·refine gx_kA (.bool b92) w89 ?_
     cases b92 with
     | true =>
      try dsimp only at hE128
      refine gx_kA (.slice A12 l11.length c13) w89 ?_
      obtain ⟨x131, hx132, hE128⟩ := bind_in hE128
      obtain ⟨g133, o134, e135, hA136, he137, h138, ha139⟩ := elem_at (e := encembedSeq) (rowG_lies (e := encembedSeq) hn24 (hS90.get 1 rfl)) (hT44.pool hf23) hx132 (by decide)
      obtain ⟨e140, e141, rfl, h142, h143⟩ := h138
      obtain ⟨A144, c145, vs146, rfl, hf147⟩ := h142
      obtain ⟨e148, e149, rfl, h150, h151⟩ := h143
      obtain rfl := h150
      obtain ⟨e152, e153, rfl, h154, h155⟩ := h151
      obtain rfl := h154
      obtain rfl := h155
      have ha139 : ∀ w', Lies w' A12 (cellsB oembedSeq ads14 l11) → w'.rangeAt g133 o134 [.slice A144 ((x131.1).length) c145, .int .u8 x131.2.1, .int .u8 x131.2.2.1, .int .u8 x131.2.2.2] := ha139
      refine gx_vA (.pointer (some ⟨g133, o134, none⟩)) w89 (run_ixaddrN (E := 36) (s := 4) (k := .i64) (c := c13) rfl (by as_aux_lemma => kernel_rfl) (by as_aux_lemma => kernel_rfl) (by as_aux_lemma => kernel_rfl) (fun _ => by kernel_rfl) (ixg_in hx132).1 (lt_len hn24 (ixg_in hx132).2.1) hA136) ?_
      refine gx_kA (.pointer (some ⟨g133, o134 + 2, none⟩)) w89 ?_
      refine gx_vA (.int .u8 x131.2.2.1) w89 (run_loadN1 2 rfl (by as_aux_lemma => kernel_rfl) (fun _ => by kernel_rfl) (ha139 _ (rowG_lies (e := encembedSeq) hn24 (hS90.get 1 rfl))) rfl) ?_
      rcases if_in hE128 with ⟨h156, hE128⟩ | ⟨h156, hE128⟩
      ·refine gx_vA (.bool true) w89 (run_boolE (decide_eq_true h156) (by as_aux_lemma => kernel_rfl)) ?_
       refine gx_kA (.bool true) w89 ?_
       refine gx_nil ?_
       refine gx_thenN ?_
       exact ⟨true, selfA_i (by as_aux_lemma => kernel_rfl), (Option.some.inj hE128), hS90⟩
      ·refine gx_vA (.bool false) w89 (run_boolE (decide_eq_false h156) (by as_aux_lemma => kernel_rfl)) ?_
       refine gx_kA (.bool false) w89 ?_
       refine gx_nil ?_
       refine gx_thenN ?_
       exact ⟨false, selfA_i (by as_aux_lemma => kernel_rfl), (Option.some.inj hE128), hS90⟩
     | false =>
      try dsimp only at hE128
      refine gx_oA (gx_oA (gx_oA (gx_oA (gx_oA (gx_kA (.bool false) w89 ?_)))))
      refine gx_nil ?_
      refine gx_thenN ?_
      exact ⟨false, selfA_i (by as_aux_lemma => kernel_rfl), (Option.some.inj hE128), hS90⟩
    ·rintro _ w123 ⟨b126, hq130, rfl, hS124⟩
     obtain ⟨u125, rfl⟩ := selfA_u hq130
     try dsimp only at hO129
     obtain ⟨c161, hE162, hO163⟩ := bind_in hO129
     refine gx_part (l1 := [_, _, _, _, _, _, _]) (fun a w => ∃ (b160 : Bool), selfA (fun u159 => ⟨((.bool false) :: (u159 1) :: (.int .i64 x15) :: (.slice A34 l33.length c35) :: (.int .i64 x37) :: un 11 (dd u56 16 5 ((.int .i64 x15) :: dd u56 22 5 ((.int .i64 x37) :: (u56 28) :: (.int .i64 ((l11.length : Nat) : Int)) :: dd u56 30 7 ((.bool b57) :: dd u91 38 6 ((.bool b92) :: dd u125 45 6 ((.bool b126) :: dd u159 52 6 ((.bool b160) :: un 97 ([]))))))))).toArray, []⟩) a ∧ b160 = c161 ∧ St [] w0 w [poolE ft41 W42, rowG 36 4 (.slice A34 l33.length c35) l33.length (cellsB oembedSeq ads36 l33)]) rfl ?_ ?_
     ·refine gx_kA (.bool b126) w123 ?_
      cases b126 with
      | true =>
       try dsimp only at hE162
       refine gx_kA (.slice A12 l11.length c13) w123 ?_
       obtain ⟨x165, hx166, hE162⟩ := bind_in hE162
       obtain ⟨g167, o168, e169, hA170, he171, h172, ha173⟩ := elem_at (e := encembedSeq) (rowG_lies (e := encembedSeq) hn24 (hS124.get 1 rfl)) (hT44.pool hf23) hx166 (by decide)
       obtain ⟨e174, e175, rfl, h176, h177⟩ := h172
       obtain ⟨A178, c179, vs180, rfl, hf181⟩ := h176
       obtain ⟨e182, e183, rfl, h184, h185⟩ := h177
       obtain rfl := h184
       obtain ⟨e186, e187, rfl, h188, h189⟩ := h185
       obtain rfl := h188
       obtain rfl := h189
       have ha173 : ∀ w', Lies w' A12 (cellsB oembedSeq ads14 l11) → w'.rangeAt g167 o168 [.slice A178 ((x165.1).length) c179, .int .u8 x165.2.1, .int .u8 x165.2.2.1, .int .u8 x165.2.2.2] := ha173
       refine gx_vA (.pointer (some ⟨g167, o168, none⟩)) w123 (run_ixaddrN (E := 36) (s := 4) (k := .i64) (c := c13) rfl (by as_aux_lemma => kernel_rfl) (by as_aux_lemma => kernel_rfl) (by as_aux_lemma => kernel_rfl) (fun _ => by kernel_rfl) (ixg_in hx166).1 (lt_len hn24 (ixg_in hx166).2.1) hA170) ?_
       refine gx_kA (.pointer (some ⟨g167, o168 + 3, none⟩)) w123 ?_
       refine gx_vA (.int .u8 x165.2.2.2) w123 (run_loadN1 3 rfl (by as_aux_lemma => kernel_rfl) (fun _ => by kernel_rfl) (ha173 _ (rowG_lies (e := encembedSeq) hn24 (hS124.get 1 rfl))) rfl) ?_
       rcases if_in hE162 with ⟨h190, hE162⟩ | ⟨h190, hE162⟩
       ·refine gx_vA (.bool true) w123 (run_boolE (decide_eq_true h190) (by as_aux_lemma => kernel_rfl)) ?_
        refine gx_kA (.bool true) w123 ?_
        refine gx_nil ?_
        refine gx_thenN ?_
        exact ⟨true, selfA_i (by as_aux_lemma => kernel_rfl), (Option.some.inj hE162), (hS124.pick [0, 2] rfl rfl)⟩
       ·refine gx_vA (.bool false) w123 (run_boolE (decide_eq_false h190) (by as_aux_lemma => kernel_rfl)) ?_
        refine gx_kA (.bool false) w123 ?_
        refine gx_nil ?_
        refine gx_thenN ?_
        exact ⟨false, selfA_i (by as_aux_lemma => kernel_rfl), (Option.some.inj hE162), (hS124.pick [0, 2] rfl rfl)⟩
      | false =>
       try dsimp only at hE162
       refine gx_oA (gx_oA (gx_oA (gx_oA (gx_oA (gx_kA (.bool false) w123 ?_)))))
       refine gx_nil ?_
       refine gx_thenN ?_
       exact ⟨false, selfA_i (by as_aux_lemma => kernel_rfl), (Option.some.inj hE162), (hS124.pick [0, 2] rfl rfl)⟩
     ·rintro _ w157 ⟨b160, hq164, rfl, hS158⟩
      obtain ⟨u159, rfl⟩ := selfA_u hq164
      try dsimp only at hO163
      obtain ⟨c195, hE196, hO197⟩ := bind_in hO163
      refine gx_part (l1 := [_, _, _, _, _]) (fun a w => ∃ (b194 : Bool), selfA (fun u193 => ⟨((.bool false) :: (u159 1) :: (.int .i64 x15) :: (.slice A34 l33.length c35) :: (.int .i64 x37) :: un 11 (dd u56 16 5 ((.int .i64 x15) :: dd u56 22 5 ((.int .i64 x37) :: (u56 28) :: (.int .i64 ((l11.length : Nat) : Int)) :: dd u56 30 7 ((.bool b57) :: dd u91 38 6 ((.bool b92) :: dd u125 45 6 ((.bool b126) :: dd u159 52 6 ((.bool b160) :: dd u193 59 4 ((.bool b194) :: un 92 ([])))))))))).toArray, []⟩) a ∧ b194 = c195 ∧ St [] w0 w [poolE ft41 W42, rowG 36 4 (.slice A34 l33.length c35) l33.length (cellsB oembedSeq ads36 l33)]) rfl ?_ ?_
      ·refine gx_kA (.bool b160) w157 ?_
       cases b160 with
       | true =>
        try dsimp only at hE196
        refine gx_kA (.slice A34 l33.length c35) w157 (gx_kA (.int .i64 ((l33.length : Nat) : Int)) w157 ?_)
        rcases if_in hE196 with ⟨h199, hE196⟩ | ⟨h199, hE196⟩
        ·refine gx_vA (.bool true) w157 (run_boolE (decide_eq_true h199) (by as_aux_lemma => kernel_rfl)) ?_
         refine gx_kA (.bool true) w157 ?_
         refine gx_nil ?_
         refine gx_thenN ?_
         exact ⟨true, selfA_i (by as_aux_lemma => kernel_rfl), (Option.some.inj hE196), hS158⟩
        ·refine gx_vA (.bool false) w157 (run_boolE (decide_eq_false h199) (by as_aux_lemma => kernel_rfl)) ?_
         refine gx_kA (.bool false) w157 ?_
         refine gx_nil ?_
         refine gx_thenN ?_
         exact ⟨false, selfA_i (by as_aux_lemma => kernel_rfl), (Option.some.inj hE196), hS158⟩
       | false =>
        try dsimp only at hE196
        refine gx_oA (gx_oA (gx_oA (gx_kA (.bool false) w157 ?_)))
        refine gx_nil ?_
        refine gx_thenN ?_
        exact ⟨false, selfA_i (by as_aux_lemma => kernel_rfl), (Option.some.inj hE196), hS158⟩
      ·rintro _ w191 ⟨b194, hq198, rfl, hS192⟩
       obtain ⟨u193, rfl⟩ := selfA_u hq198
       try dsimp only at hO197
       obtain ⟨c204, hE205, hO206⟩ := bind_in hO197
       refine gx_part (l1 := [_, _, _, _, _, _, _]) (fun a w => ∃ (b203 : Bool), selfA (fun u202 => ⟨((.bool false) :: (u159 1) :: (.int .i64 x15) :: (.slice A34 l33.length c35) :: (.int .i64 x37) :: un 11 (dd u56 16 5 ((.int .i64 x15) :: dd u56 22 5 ((.int .i64 x37) :: (u56 28) :: (.int .i64 ((l11.length : Nat) : Int)) :: dd u56 30 7 ((.bool b57) :: dd u91 38 6 ((.bool b92) :: dd u125 45 6 ((.bool b126) :: dd u159 52 6 ((.bool b160) :: dd u193 59 4 ((.bool b194) :: dd u202 64 6 ((.bool b203) :: un 85 ([]))))))))))).toArray, []⟩) a ∧ b203 = c204 ∧ St [] w0 w [poolE ft41 W42, rowG 36 4 (.slice A34 l33.length c35) l33.length (cellsB oembedSeq ads36 l33)]) rfl ?_ ?_
       ·refine gx_kA (.bool b194) w191 ?_
        cases b194 with
        | true =>
         try dsimp only at hE205
         refine gx_kA (.slice A34 l33.length c35) w191 ?_
         obtain ⟨x208, hx209, hE205⟩ := bind_in hE205
         obtain ⟨g210, o211, e212, hA213, he214, h215, ha216⟩ := elem_at (e := encembedSeq) (rowG_lies (e := encembedSeq) hn46 (hS192.get 1 rfl)) hf45 hx209 (by decide)
         obtain ⟨e217, e218, rfl, h219, h220⟩ := h215
         obtain ⟨A221, c222, vs223, rfl, hf224⟩ := h219
         obtain ⟨e225, e226, rfl, h227, h228⟩ := h220
         obtain rfl := h227
         obtain ⟨e229, e230, rfl, h231, h232⟩ := h228
         obtain rfl := h231
         obtain rfl := h232
         have ha216 : ∀ w', Lies w' A34 (cellsB oembedSeq ads36 l33) → w'.rangeAt g210 o211 [.slice A221 ((x208.1).length) c222, .int .u8 x208.2.1, .int .u8 x208.2.2.1, .int .u8 x208.2.2.2] := ha216
         refine gx_vA (.pointer (some ⟨g210, o211, none⟩)) w191 (run_ixaddrN (E := 36) (s := 4) (k := .i64) (c := c35) rfl (by as_aux_lemma => kernel_rfl) (by as_aux_lemma => kernel_rfl) (by as_aux_lemma => kernel_rfl) (fun _ => by kernel_rfl) (ixg_in hx209).1 (lt_len hn46 (ixg_in hx209).2.1) hA213) ?_
         refine gx_kA (.pointer (some ⟨g210, o211 + 3, none⟩)) w191 ?_
         refine gx_vA (.int .u8 x208.2.2.2) w191 (run_loadN1 3 rfl (by as_aux_lemma => kernel_rfl) (fun _ => by kernel_rfl) (ha216 _ (rowG_lies (e := encembedSeq) hn46 (hS192.get 1 rfl))) rfl) ?_
         rcases if_in hE205 with ⟨h233, hE205⟩ | ⟨h233, hE205⟩
         ·refine gx_vA (.bool true) w191 (run_boolE (decide_eq_true h233) (by as_aux_lemma => kernel_rfl)) ?_
          refine gx_kA (.bool true) w191 ?_
          refine gx_nil ?_
          refine gx_thenN ?_
          exact ⟨true, selfA_i (by as_aux_lemma => kernel_rfl), (Option.some.inj hE205), hS192⟩
         ·refine gx_vA (.bool false) w191 (run_boolE (decide_eq_false h233) (by as_aux_lemma => kernel_rfl)) ?_
          refine gx_kA (.bool false) w191 ?_
          refine gx_nil ?_
          refine gx_thenN ?_
          exact ⟨false, selfA_i (by as_aux_lemma => kernel_rfl), (Option.some.inj hE205), hS192⟩
        | false =>
         try dsimp only at hE205
         refine gx_oA (gx_oA (gx_oA (gx_oA (gx_oA (gx_kA (.bool false) w191 ?_)))))
         refine gx_nil ?_
         refine gx_thenN ?_
         exact ⟨false, selfA_i (by as_aux_lemma => kernel_rfl), (Option.some.inj hE205), hS192⟩
       ·rintro _ w200 ⟨b203, hq207, rfl, hS201⟩
        obtain ⟨u202, rfl⟩ := selfA_u hq207
        try dsimp only at hO206
        refine gx_kA (.bool b203) w200 ?_
        cases b203 with
        | true =>
         try dsimp only at hO206
         refine gx_kA (.slice A34 l33.length c35) w200 ?_
         obtain ⟨x234, hx235, hO206⟩ := bind_in hO206
         obtain ⟨g236, o237, e238, hA239, he240, h241, ha242⟩ := elem_at (e := encembedSeq) (rowG_lies (e := encembedSeq) hn46 (hS201.get 1 rfl)) hf45 hx235 (by decide)
         obtain ⟨e243, e244, rfl, h245, h246⟩ := h241
         obtain ⟨A247, c248, vs249, rfl, hf250⟩ := h245
         obtain ⟨e251, e252, rfl, h253, h254⟩ := h246
         obtain rfl := h253
         obtain ⟨e255, e256, rfl, h257, h258⟩ := h254
         obtain rfl := h257
         obtain rfl := h258
         have ha242 : ∀ w', Lies w' A34 (cellsB oembedSeq ads36 l33) → w'.rangeAt g236 o237 [.slice A247 ((x234.1).length) c248, .int .u8 x234.2.1, .int .u8 x234.2.2.1, .int .u8 x234.2.2.2] := ha242
         refine gx_vA (.pointer (some ⟨g236, o237, none⟩)) w200 (run_ixaddrN (E := 36) (s := 4) (k := .i64) (c := c35) rfl (by as_aux_lemma => kernel_rfl) (by as_aux_lemma => kernel_rfl) (by as_aux_lemma => kernel_rfl) (fun _ => by kernel_rfl) (ixg_in hx235).1 (lt_len hn46 (ixg_in hx235).2.1) hA239) ?_
         refine gx_kA (.pointer (some ⟨g236, o237 + 3, none⟩)) w200 ?_
         refine gx_vA (.int .u8 x234.2.2.2) w200 (run_loadN1 3 rfl (by as_aux_lemma => kernel_rfl) (fun _ => by kernel_rfl) (ha242 _ (rowG_lies (e := encembedSeq) hn46 (hS201.get 1 rfl))) rfl) ?_
         rcases if_in hO206 with ⟨h259, hO206⟩ | ⟨h259, hO206⟩
         ·refine gx_vA (.bool true) w200 (run_boolE (decide_eq_true h259) (by as_aux_lemma => kernel_rfl)) ?_
          refine gx_kA (.bool true) w200 (gx_kA (.bool true) w200 ?_)
          refine gx_nil ?_
          refine gx_thenN ?_
          exact ⟨true, selfA_i (by as_aux_lemma => kernel_rfl), (Option.some.inj hO206), (hS201.pick [0] rfl rfl)⟩
         ·refine gx_vA (.bool false) w200 (run_boolE (decide_eq_false h259) (by as_aux_lemma => kernel_rfl)) ?_
          refine gx_kA (.bool false) w200 (gx_kA (.bool false) w200 ?_)
          refine gx_nil ?_
          refine gx_thenN ?_
          exact ⟨false, selfA_i (by as_aux_lemma => kernel_rfl), (Option.some.inj hO206), (hS201.pick [0] rfl rfl)⟩
        | false =>
         try dsimp only at hO206
         refine gx_oA (gx_oA (gx_oA (gx_oA (gx_oA (gx_kA (.bool false) w200 (gx_kA (.bool false) w200 ?_))))))
         refine gx_nil ?_
         refine gx_thenN ?_
         exact ⟨false, selfA_i (by as_aux_lemma => kernel_rfl), (Option.some.inj hO206), (hS201.pick [0] rfl rfl)⟩
 ·rintro _ w47 ⟨b50, hq508, rfl, hS48⟩
  obtain ⟨u49, rfl⟩ := selfA_u hq508
  try dsimp only at hO53
  refine gx_seq (fun K260 hK261 => ?_)
  refine gx_region ?_
  refine gx_kA (.slice none 0 0) w47 ?_
  refine gx_nil ?_
  refine gx_thenN ?_
  refine hK261 _ _ ?_
  obtain ⟨c268, hE269, hO270⟩ := bind_in hO53
  refine gx_cut (fun a w => ∃ (l267 : List Int) (A265 : Option Addr) (c266 : Nat), selfA (fun u264 => ⟨((.bool false) :: (u49 1) :: (.int .i64 x15) :: (u49 3) :: (.int .i64 x37) :: (.bool b50) :: (.slice A265 l267.length c266) :: (u264 7) :: un 8 (dd u49 16 5 ((.int .i64 x15) :: dd u49 22 5 ((.int .i64 x37) :: dd u49 28 50 (dd u264 78 7 (un 71 ([]))))))).toArray, []⟩) a ∧ l267 = c268 ∧ St [] w0 w [poolE ft41 W42, rowE .u8 34 A265 c266 l267]) ?_ ?_
  ·refine gx_seq (fun K271 hK272 => ?_)
   refine gx_region ?_
   refine gx_kA (.int .i64 0) w47 ?_
   refine gx_nil ?_
   refine gx_thenN ?_
   refine hK272 _ _ ?_
   refine gx_block ?_
   have hS273 : St _ _ w47 [poolE ft41 W42, rowE .u8 34 none 0 ([])] := hS48.nilrow .u8 34
   refine gx_loop (fun k a w => ∃ (l279 : List Int) (x280 : Int) (A277 : Option Addr) (c278 : Nat), selfA (fun u276 => ⟨((.bool false) :: (u49 1) :: (.int .i64 x15) :: (u49 3) :: (.int .i64 x37) :: (.bool b50) :: (.slice A277 l279.length c278) :: (.int .i64 x280) :: un 8 (dd u49 16 5 ((.int .i64 x15) :: dd u49 22 5 ((.int .i64 x37) :: dd u49 28 50 (dd u276 78 7 (un 71 ([]))))))).toArray, []⟩) a ∧ fRuns_L1 N k l279 x280 = some c268 ∧ St [] w0 w [poolE ft41 W42, rowE .u8 34 A277 c278 l279]) N ?_ ?_
   ·exact ⟨([]), 0, none, 0, selfA_i (by as_aux_lemma => kernel_rfl), hE269, hS273⟩
   ·rintro k281 _ w274 ⟨l279, x280, A277, c278, hq299, hL282, hS275⟩
    obtain ⟨u276, rfl⟩ := selfA_u hq299
    cases k281 with
    | zero => cases hL282
    | succ k281 =>
     first | rw [fRuns_L1] at hL282 | unfold fRuns_L1 at hL282
     refine gx_seq (fun K283 hK284 => ?_)
     refine gx_seq (fun K285 hK286 => ?_)
     refine gx_region ?_
     refine gx_kA (.int .i64 x280) w274 ?_
     rcases if_in hL282 with ⟨h287, hL282⟩ | ⟨h287, hL282⟩
     ·refine gx_vA (.bool true) w274 (run_boolE (decide_eq_true h287) (by as_aux_lemma => kernel_rfl)) ?_
      refine gx_nil ?_
      refine gx_thenN ?_
      refine hK286 _ _ ?_
      refine gx_yes (by as_aux_lemma => kernel_rfl) ?_
      refine gx_pass ?_
      refine gx_thenN ?_
      refine hK284 _ _ ?_
      refine gx_seq (fun K288 hK289 => ?_)
      refine gx_block ?_
      refine gx_region ?_
      refine gx_kA (.slice A277 l279.length c278) w274 ?_
      refine gx_rA (st_made .u8 34 [20, 2] hS275 (by show 2 ≤ 1000000000; decide) (by as_aux_lemma => kernel_rfl)) ?_
      rintro _ w290 ⟨rfl, hS291⟩
      have hS291 : St _ _ w290 [poolE ft41 W42, rowE .u8 34 A277 c278 l279, rowE .u8 34 (some ⟨w274.heap.size, 0, none⟩) 2 ([20, 2])] := hS291
      obtain ⟨l292, ha293, hL282⟩ := bind_in hL282
      obtain ⟨ha293, hq294⟩ := apx_in ha293
      refine gx_rA (st_append rfl (by as_aux_lemma => kernel_rfl) (by as_aux_lemma => kernel_rfl) hS291 1 rfl (hS291.row 2 rfl).1 (hS291.row 2 rfl).2 ha293 (by as_aux_lemma => kernel_rfl) (by as_aux_lemma => kernel_rfl)) ?_
      rintro _ w297 ⟨A295, c296, rfl, hS298⟩
      rw [← hq294] at hS298 ⊢
      have hS298 : St _ _ w297 [poolE ft41 W42, rowE .u8 34 A295 c296 l292, rowE .u8 34 (some ⟨w274.heap.size, 0, none⟩) 2 ([20, 2])] := hS298
      refine gx_kA (.slice A295 l292.length c296) w297 ?_
      refine gx_nil ?_
      refine gx_blkN ?_
      refine gx_thenN ?_
      refine hK289 _ _ ?_
      refine gx_region ?_
      refine gx_kA (.int .i64 x280) w297 (gx_kA (.int .i64 (IntKind.i64.wrap (x280 + 1))) w297 (gx_kA (.int .i64 (IntKind.i64.wrap (x280 + 1))) w297 ?_))
      refine gx_nil ?_
      refine gx_thenN ?_
      exact ⟨k281, Nat.lt_succ_self k281, l292, (IntKind.i64.wrap (x280 + 1)), A295, c296, selfA_i (by as_aux_lemma => kernel_rfl), hL282, (hS298.pick [0, 1] rfl rfl)⟩
     ·refine gx_vA (.bool false) w274 (run_boolE (decide_eq_false h287) (by as_aux_lemma => kernel_rfl)) ?_
      refine gx_nil ?_
      refine gx_thenN ?_
      refine hK286 _ _ ?_
      refine gx_no (by as_aux_lemma => kernel_rfl) ?_
      refine gx_exit ?_
      refine gx_thenE ?_
      refine gx_thenE ?_
      refine gx_blkE ?_
      refine gx_thenN ?_
      exact ⟨l279, A277, c278, selfA_i (by as_aux_lemma => kernel_rfl), (Option.some.inj hL282), hS275⟩
  ·rintro _ w262 ⟨l267, A265, c266, hq507, rfl, hS263⟩
   obtain ⟨u264, rfl⟩ := selfA_u hq507
   try dsimp only at hO270
   obtain ⟨c306, hE307, hO308⟩ := bind_in hO270
   refine gx_cut (fun a w => ∃ (l305 : List Int) (A303 : Option Addr) (c304 : Nat), selfA (fun u302 => ⟨((.bool false) :: (u49 1) :: (.int .i64 x15) :: (u49 3) :: (.int .i64 x37) :: (.bool b50) :: (.slice A303 l305.length c304) :: (u264 7) :: (u302 8) :: un 7 (dd u49 16 5 ((.int .i64 x15) :: dd u49 22 5 ((.int .i64 x37) :: dd u49 28 50 (dd u264 78 7 (dd u302 85 7 (un 64 ([])))))))).toArray, []⟩) a ∧ l305 = c306 ∧ St [] w0 w [poolE ft41 W42, rowE .u8 34 A303 c304 l305]) ?_ ?_
   ·refine gx_seq (fun K309 hK310 => ?_)
    refine gx_region ?_
    refine gx_kA (.int .i64 0) w262 ?_
    refine gx_nil ?_
    refine gx_thenN ?_
    refine hK310 _ _ ?_
    refine gx_block ?_
    refine gx_loop (fun k a w => ∃ (l316 : List Int) (x317 : Int) (A314 : Option Addr) (c315 : Nat), selfA (fun u313 => ⟨((.bool false) :: (u49 1) :: (.int .i64 x15) :: (u49 3) :: (.int .i64 x37) :: (.bool b50) :: (.slice A314 l316.length c315) :: (u264 7) :: (.int .i64 x317) :: un 7 (dd u49 16 5 ((.int .i64 x15) :: dd u49 22 5 ((.int .i64 x37) :: dd u49 28 50 (dd u264 78 7 (dd u313 85 7 (un 64 ([])))))))).toArray, []⟩) a ∧ fRuns_L2 N k l316 x317 = some c306 ∧ St [] w0 w [poolE ft41 W42, rowE .u8 34 A314 c315 l316]) N ?_ ?_
    ·exact ⟨l267, 0, A265, c266, selfA_i (by as_aux_lemma => kernel_rfl), hE307, hS263⟩
    ·rintro k318 _ w311 ⟨l316, x317, A314, c315, hq336, hL319, hS312⟩
     obtain ⟨u313, rfl⟩ := selfA_u hq336
     cases k318 with
     | zero => cases hL319
     | succ k318 =>
      first | rw [fRuns_L2] at hL319 | unfold fRuns_L2 at hL319
      refine gx_seq (fun K320 hK321 => ?_)
      refine gx_seq (fun K322 hK323 => ?_)
      refine gx_region ?_
      refine gx_kA (.int .i64 x317) w311 ?_
      rcases if_in hL319 with ⟨h324, hL319⟩ | ⟨h324, hL319⟩
      ·refine gx_vA (.bool true) w311 (run_boolE (decide_eq_true h324) (by as_aux_lemma => kernel_rfl)) ?_
       refine gx_nil ?_
       refine gx_thenN ?_
       refine hK323 _ _ ?_
       refine gx_yes (by as_aux_lemma => kernel_rfl) ?_
       refine gx_pass ?_
       refine gx_thenN ?_
       refine hK321 _ _ ?_
       refine gx_seq (fun K325 hK326 => ?_)
       refine gx_block ?_
       refine gx_region ?_
       refine gx_kA (.slice A314 l316.length c315) w311 ?_
       refine gx_rA (st_made .u8 34 [23, 1] hS312 (by show 2 ≤ 1000000000; decide) (by as_aux_lemma => kernel_rfl)) ?_
       rintro _ w327 ⟨rfl, hS328⟩
       have hS328 : St _ _ w327 [poolE ft41 W42, rowE .u8 34 A314 c315 l316, rowE .u8 34 (some ⟨w311.heap.size, 0, none⟩) 2 ([23, 1])] := hS328
       obtain ⟨l329, ha330, hL319⟩ := bind_in hL319
       obtain ⟨ha330, hq331⟩ := apx_in ha330
       refine gx_rA (st_append rfl (by as_aux_lemma => kernel_rfl) (by as_aux_lemma => kernel_rfl) hS328 1 rfl (hS328.row 2 rfl).1 (hS328.row 2 rfl).2 ha330 (by as_aux_lemma => kernel_rfl) (by as_aux_lemma => kernel_rfl)) ?_
       rintro _ w334 ⟨A332, c333, rfl, hS335⟩
       rw [← hq331] at hS335 ⊢
       have hS335 : St _ _ w334 [poolE ft41 W42, rowE .u8 34 A332 c333 l329, rowE .u8 34 (some ⟨w311.heap.size, 0, none⟩) 2 ([23, 1])] := hS335
       refine gx_kA (.slice A332 l329.length c333) w334 ?_
       refine gx_nil ?_
       refine gx_blkN ?_
       refine gx_thenN ?_
       refine hK326 _ _ ?_
       refine gx_region ?_
       refine gx_kA (.int .i64 x317) w334 (gx_kA (.int .i64 (IntKind.i64.wrap (x317 + 1))) w334 (gx_kA (.int .i64 (IntKind.i64.wrap (x317 + 1))) w334 ?_))
       refine gx_nil ?_
       refine gx_thenN ?_
       exact ⟨k318, Nat.lt_succ_self k318, l329, (IntKind.i64.wrap (x317 + 1)), A332, c333, selfA_i (by as_aux_lemma => kernel_rfl), hL319, (hS335.pick [0, 1] rfl rfl)⟩
      ·refine gx_vA (.bool false) w311 (run_boolE (decide_eq_false h324) (by as_aux_lemma => kernel_rfl)) ?_
       refine gx_nil ?_
       refine gx_thenN ?_
       refine hK323 _ _ ?_
       refine gx_no (by as_aux_lemma => kernel_rfl) ?_
       refine gx_exit ?_
       refine gx_thenE ?_
       refine gx_thenE ?_
       refine gx_blkE ?_
       refine gx_thenN ?_
       exact ⟨l316, A314, c315, selfA_i (by as_aux_lemma => kernel_rfl), (Option.some.inj hL319), hS312⟩
   ·rintro _ w300 ⟨l305, A303, c304, hq506, rfl, hS301⟩
    obtain ⟨u302, rfl⟩ := selfA_u hq506
    try dsimp only at hO308
    refine gx_seq (fun K337 hK338 => ?_)
    refine gx_region ?_
    refine gx_kA (.slice A303 l305.length c304) w300 ?_
    refine gx_rA (st_made .u8 34 [11, 21, 20, 23, 22, 3] hS301 (by show 6 ≤ 1000000000; decide) (by as_aux_lemma => kernel_rfl)) ?_
    rintro _ w339 ⟨rfl, hS340⟩
    have hS340 : St _ _ w339 [poolE ft41 W42, rowE .u8 34 A303 c304 l305, rowE .u8 34 (some ⟨w300.heap.size, 0, none⟩) 6 ([11, 21, 20, 23, 22, 3])] := hS340
    obtain ⟨l341, ha342, hO308⟩ := bind_in hO308
    obtain ⟨ha342, hq343⟩ := apx_in ha342
    refine gx_rA (st_append rfl (by as_aux_lemma => kernel_rfl) (by as_aux_lemma => kernel_rfl) hS340 1 rfl (hS340.row 2 rfl).1 (hS340.row 2 rfl).2 ha342 (by as_aux_lemma => kernel_rfl) (by as_aux_lemma => kernel_rfl)) ?_
    rintro _ w346 ⟨A344, c345, rfl, hS347⟩
    rw [← hq343] at hS347 ⊢
    have hS347 : St _ _ w346 [poolE ft41 W42, rowE .u8 34 A344 c345 l341, rowE .u8 34 (some ⟨w300.heap.size, 0, none⟩) 6 ([11, 21, 20, 23, 22, 3])] := hS347
    refine gx_kA (.slice A344 l341.length c345) w346 ?_
    refine gx_nil ?_
    refine gx_thenN ?_
    refine hK338 _ _ ?_
    obtain ⟨c352, hE353, hO354⟩ := bind_in hO308
    refine gx_cut (fun a w => ∃ (b351 : Bool), selfA (fun u350 => ⟨((.bool false) :: (u49 1) :: (.int .i64 x15) :: (u49 3) :: (.int .i64 x37) :: (.bool b50) :: (u350 6) :: (u264 7) :: (u302 8) :: (.bool b351) :: un 6 (dd u49 16 5 ((.int .i64 x15) :: dd u49 22 5 ((.int .i64 x37) :: dd u49 28 50 (dd u264 78 7 (dd u302 85 7 (dd u350 92 28 (un 36 ([]))))))))).toArray, []⟩) a ∧ b351 = c352 ∧ St [] w0 w [poolE ft41 W42]) ?_ ?_
    ·refine gx_region ?_
     refine gx_kA (.slice A344 l341.length c345) w346 ?_
     obtain ⟨c359, hE360, hO361⟩ := bind_in hE353
     refine gx_part (l1 := [_, _, _, _, _]) (fun a w => ∃ (b358 : Bool), selfA (fun u357 => ⟨((.bool false) :: (u49 1) :: (.int .i64 x15) :: (u49 3) :: (.int .i64 x37) :: (.bool b50) :: (.slice A344 l341.length c345) :: (u264 7) :: (u302 8) :: un 7 (dd u49 16 5 ((.int .i64 x15) :: dd u49 22 5 ((.int .i64 x37) :: dd u49 28 50 (dd u264 78 7 (dd u302 85 7 (dd u357 92 8 ((.bool b358) :: un 55 ([]))))))))).toArray, []⟩) a ∧ b358 = c359 ∧ St [] w0 w [poolE ft41 W42, rowE .u8 34 A344 c345 l341]) rfl ?_ ?_
     ·have hP363 : St _ _ w346 ([] ++ [poolE ft41 W42, rowE .u8 34 A344 c345 l341, rowE .u8 34 (some ⟨w300.heap.size, 0, none⟩) 6 ([11, 21, 20, 23, 22, 3])]) := hS347
      obtain ⟨b365, hc364, hE360⟩ := bind_in hE360
      try dsimp only at hE360
      refine gx_cA (fOnce_R b365 w346) (fOnce_ok N l341 (0 : Int) A344 c345 _ hc364 w346 (hP363.vwB 1 rfl)) ?_
      rintro _ w366 ⟨rfl, hT368⟩
      have hS367 : St _ _ w366 [poolE ft41 W42, rowE .u8 34 A344 c345 l341, rowE .u8 34 (some ⟨w300.heap.size, 0, none⟩) 6 ([11, 21, 20, 23, 22, 3])] := hS347.take _ hT368
      refine gx_kA (.bool b365) w366 ?_
      cases b365 with
      | true =>
       try dsimp only at hE360
       refine gx_kA (.slice A344 l341.length c345) w366 ?_
       have hP369 : St _ _ w366 ([] ++ [poolE ft41 W42, rowE .u8 34 A344 c345 l341, rowE .u8 34 (some ⟨w300.heap.size, 0, none⟩) 6 ([11, 21, 20, 23, 22, 3])]) := hS367
       obtain ⟨b371, hc370, hE360⟩ := bind_in hE360
       try dsimp only at hE360
       refine gx_cA (fOnce_R b371 w366) (fOnce_ok N l341 (1 : Int) A344 c345 _ hc370 w366 (hP369.vwB 1 rfl)) ?_
       rintro _ w372 ⟨rfl, hT374⟩
       have hS373 : St _ _ w372 [poolE ft41 W42, rowE .u8 34 A344 c345 l341, rowE .u8 34 (some ⟨w300.heap.size, 0, none⟩) 6 ([11, 21, 20, 23, 22, 3])] := hS367.take _ hT374
       refine gx_kA (.bool b371) w372 ?_
       refine gx_nil ?_
       refine gx_thenN ?_
       exact ⟨b371, selfA_i (by as_aux_lemma => kernel_rfl), (Option.some.inj hE360), (hS373.pick [0, 1] rfl rfl)⟩
      | false =>
       try dsimp only at hE360
       refine gx_oA (gx_oA (gx_kA (.bool false) w366 ?_))
       refine gx_nil ?_
       refine gx_thenN ?_
       exact ⟨false, selfA_i (by as_aux_lemma => kernel_rfl), (Option.some.inj hE360), (hS367.pick [0, 1] rfl rfl)⟩
     ·rintro _ w355 ⟨b358, hq362, rfl, hS356⟩
      obtain ⟨u357, rfl⟩ := selfA_u hq362
      try dsimp only at hO361
      obtain ⟨c379, hE380, hO381⟩ := bind_in hO361
      refine gx_part (l1 := [_, _, _, _]) (fun a w => ∃ (b378 : Bool), selfA (fun u377 => ⟨((.bool false) :: (u49 1) :: (.int .i64 x15) :: (u49 3) :: (.int .i64 x37) :: (.bool b50) :: (.slice A344 l341.length c345) :: (u264 7) :: (u302 8) :: un 7 (dd u49 16 5 ((.int .i64 x15) :: dd u49 22 5 ((.int .i64 x37) :: dd u49 28 50 (dd u264 78 7 (dd u302 85 7 (dd u357 92 8 ((.bool b358) :: dd u377 101 3 ((.bool b378) :: un 51 ([])))))))))).toArray, []⟩) a ∧ b378 = c379 ∧ St [] w0 w [poolE ft41 W42, rowE .u8 34 A344 c345 l341]) rfl ?_ ?_
      ·refine gx_kA (.bool b358) w355 ?_
       cases b358 with
       | true =>
        try dsimp only at hE380
        refine gx_kA (.slice A344 l341.length c345) w355 ?_
        have hP383 : St _ _ w355 ([] ++ [poolE ft41 W42, rowE .u8 34 A344 c345 l341]) := hS356
        obtain ⟨b385, hc384, hE380⟩ := bind_in hE380
        try dsimp only at hE380
        refine gx_cA (fOnce_R b385 w355) (fOnce_ok N l341 (2 : Int) A344 c345 _ hc384 w355 (hP383.vwB 1 rfl)) ?_
        rintro _ w386 ⟨rfl, hT388⟩
        have hS387 : St _ _ w386 [poolE ft41 W42, rowE .u8 34 A344 c345 l341] := hS356.take _ hT388
        refine gx_kA (.bool b385) w386 ?_
        refine gx_nil ?_
        refine gx_thenN ?_
        exact ⟨b385, selfA_i (by as_aux_lemma => kernel_rfl), (Option.some.inj hE380), hS387⟩
       | false =>
        try dsimp only at hE380
        refine gx_oA (gx_oA (gx_kA (.bool false) w355 ?_))
        refine gx_nil ?_
        refine gx_thenN ?_
        exact ⟨false, selfA_i (by as_aux_lemma => kernel_rfl), (Option.some.inj hE380), hS356⟩
      ·rintro _ w375 ⟨b378, hq382, rfl, hS376⟩
       obtain ⟨u377, rfl⟩ := selfA_u hq382
       try dsimp only at hO381
       obtain ⟨c393, hE394, hO395⟩ := bind_in hO381
       refine gx_part (l1 := [_, _, _, _, _, _, _]) (fun a w => ∃ (b392 : Bool), selfA (fun u391 => ⟨((.bool false) :: (u49 1) :: (.int .i64 x15) :: (u49 3) :: (.int .i64 x37) :: (.bool b50) :: (.slice A344 l341.length c345) :: (u264 7) :: (u302 8) :: un 7 (dd u49 16 5 ((.int .i64 x15) :: dd u49 22 5 ((.int .i64 x37) :: dd u49 28 50 (dd u264 78 7 (dd u302 85 7 (dd u357 92 8 ((.bool b358) :: dd u377 101 3 ((.bool b378) :: dd u391 105 6 ((.bool b392) :: un 44 ([]))))))))))).toArray, []⟩) a ∧ b392 = c393 ∧ St [] w0 w [poolE ft41 W42, rowE .u8 34 A344 c345 l341]) rfl ?_ ?_
       ·refine gx_kA (.bool b378) w375 ?_
        cases b378 with
        | true =>
         try dsimp only at hE394
         refine gx_kA (.slice A344 l341.length c345) w375 (gx_kA (.slice A344 l341.length c345) w375 (gx_kA (.int .i64 ((l341.length : Nat) : Int)) w375 ?_))
         obtain ⟨l397, hm398, hE394⟩ := bind_in hE394
         refine gx_rA (st_make (T := 5) (k := .u8) (by_ := 1) rfl (by as_aux_lemma => kernel_rfl) (by as_aux_lemma => kernel_rfl) (by as_aux_lemma => kernel_rfl) (by as_aux_lemma => kernel_rfl) (by as_aux_lemma => kernel_rfl) hS376 hm398) ?_
         rintro _ w399 ⟨A401, c402, rfl, hS400⟩
         have hS400 : St _ _ w399 [poolE ft41 W42, rowE .u8 34 A344 c345 l341, rowE .u8 5 A401 c402 l397] := hS400
         have hP403 : St _ _ w399 ([] ++ [poolE ft41 W42, rowE .u8 34 A344 c345 l341, rowE .u8 5 A401 c402 l397]) := hS400
         obtain ⟨b405, hc404, hE394⟩ := bind_in hE394
         try dsimp only at hE394
         refine gx_cA (fSequences_R b405 w399) (fSequences_ok N l341 l397 (0 : Int) A344 c345 A401 c402 _ hc404 w399 (hP403.vwB 1 rfl) (hP403.vwB 2 rfl)) ?_
         rintro _ w406 ⟨rfl, hT408⟩
         have hS407 : St _ _ w406 [poolE ft41 W42, rowE .u8 34 A344 c345 l341, rowE .u8 5 A401 c402 l397] := hS400.take _ hT408
         refine gx_kA (.bool b405) w406 ?_
         refine gx_nil ?_
         refine gx_thenN ?_
         exact ⟨b405, selfA_i (by as_aux_lemma => kernel_rfl), (Option.some.inj hE394), (hS407.pick [0, 1] rfl rfl)⟩
        | false =>
         try dsimp only at hE394
         refine gx_oA (gx_oA (gx_oA (gx_oA (gx_oA (gx_kA (.bool false) w375 ?_)))))
         refine gx_nil ?_
         refine gx_thenN ?_
         exact ⟨false, selfA_i (by as_aux_lemma => kernel_rfl), (Option.some.inj hE394), hS376⟩
       ·rintro _ w389 ⟨b392, hq396, rfl, hS390⟩
        obtain ⟨u391, rfl⟩ := selfA_u hq396
        try dsimp only at hO395
        refine gx_kA (.bool b392) w389 ?_
        cases b392 with
        | true =>
         try dsimp only at hO395
         refine gx_kA (.slice A344 l341.length c345) w389 ?_
         obtain ⟨l409, hm410, hO395⟩ := bind_in hO395
         refine gx_rA (st_make (T := 5) (k := .u8) (by_ := 1) rfl (by as_aux_lemma => kernel_rfl) (by as_aux_lemma => kernel_rfl) (by as_aux_lemma => kernel_rfl) (by as_aux_lemma => kernel_rfl) (by as_aux_lemma => kernel_rfl) hS390 hm410) ?_
         rintro _ w411 ⟨A413, c414, rfl, hS412⟩
         have hS412 : St _ _ w411 [poolE ft41 W42, rowE .u8 34 A344 c345 l341, rowE .u8 5 A413 c414 l409] := hS412
         have hP415 : St _ _ w411 ([] ++ [poolE ft41 W42, rowE .u8 34 A344 c345 l341, rowE .u8 5 A413 c414 l409]) := hS412
         obtain ⟨b417, hc416, hO395⟩ := bind_in hO395
         try dsimp only at hO395
         refine gx_cA (fSequences_R b417 w411) (fSequences_ok N l341 l409 (0 : Int) A344 c345 A413 c414 _ hc416 w411 (hP415.vwB 1 rfl) (hP415.vwB 2 rfl)) ?_
         rintro _ w418 ⟨rfl, hT420⟩
         have hS419 : St _ _ w418 [poolE ft41 W42, rowE .u8 34 A344 c345 l341, rowE .u8 5 A413 c414 l409] := hS412.take _ hT420
         refine gx_kA (.bool b417) w418 (gx_kA (.bool b417) w418 ?_)
         cases b417 with
         | true =>
          try dsimp only at hO395
          have hS421 : St _ _ w418 [poolE ft41 W42, rowE .u8 34 A344 c345 l341, rowE .u8 5 A413 c414 l409, rowE .u8 34 none 0 ([])] := hS419.nilrow .u8 34
          have hS422 : St _ _ w418 [poolE ft41 W42, rowE .u8 34 A344 c345 l341, rowE .u8 5 A413 c414 l409, rowE .u8 34 none 0 ([]), rowE .u8 5 none 0 ([])] := hS421.nilrow .u8 5
          have hP423 : St _ _ w418 ([] ++ [poolE ft41 W42, rowE .u8 34 A344 c345 l341, rowE .u8 5 A413 c414 l409, rowE .u8 34 none 0 ([]), rowE .u8 5 none 0 ([])]) := hS422
          obtain ⟨b425, hc424, hO395⟩ := bind_in hO395
          try dsimp only at hO395
          refine gx_cA (fSequences_R b425 w418) (fSequences_ok N ([]) ([]) (9 : Int) none 0 none 0 _ hc424 w418 (hP423.vwB 3 rfl) (hP423.vwB 4 rfl)) ?_
          rintro _ w426 ⟨rfl, hT428⟩
          have hS427 : St _ _ w426 [poolE ft41 W42, rowE .u8 34 A344 c345 l341, rowE .u8 5 A413 c414 l409, rowE .u8 34 none 0 ([]), rowE .u8 5 none 0 ([])] := hS422.take _ hT428
          refine gx_kA (.bool b425) w426 (gx_kA (.bool b425) w426 ?_)
          refine gx_nil ?_
          refine gx_thenN ?_
          exact ⟨b425, selfA_i (by as_aux_lemma => kernel_rfl), (Option.some.inj hO395), (hS427.pick [0] rfl rfl)⟩
         | false =>
          try dsimp only at hO395
          refine gx_oA (gx_kA (.bool false) w418 (gx_kA (.bool false) w418 ?_))
          refine gx_nil ?_
          refine gx_thenN ?_
          exact ⟨false, selfA_i (by as_aux_lemma => kernel_rfl), (Option.some.inj hO395), (hS419.pick [0] rfl rfl)⟩
        | false =>
         try dsimp only at hO395
         refine gx_oA (gx_oA (gx_oA (gx_kA (.bool false) w389 (gx_kA (.bool false) w389 (gx_oA (gx_kA (.bool false) w389 (gx_kA (.bool false) w389 ?_)))))))
         refine gx_nil ?_
         refine gx_thenN ?_
         exact ⟨false, selfA_i (by as_aux_lemma => kernel_rfl), (Option.some.inj hO395), (hS390.pick [0] rfl rfl)⟩
    ·rintro _ w348 ⟨b351, hq505, rfl, hS349⟩
     obtain ⟨u350, rfl⟩ := selfA_u hq505
     try dsimp only at hO354
     refine gx_seq (fun K429 hK430 => ?_)
     refine gd_start (fun w => St [] w0 w []) 8 #[false, false, false, false, false, false, false, false] (by as_aux_lemma => kernel_rfl) (by as_aux_lemma => kernel_rfl) ?_
     have hS433 := hS349.drew
     generalize w348.drew = w432 at hS433 ⊢
     obtain ⟨lz15_430o0_1, hmz15_430o0_2, hO354⟩ := bind_in hO354
     obtain ⟨lz15_430o1_1, hmz15_430o1_2, hO354⟩ := bind_in hO354
     obtain ⟨⟨lz15_430o2_3, xz15_430o2_7⟩, hcz15_430o2_2, hO354⟩ := bind_in hO354
     try dsimp only at hO354
     refine gd_share (X := (Option Addr) × Nat × (Option Addr) × Nat × (Option Addr) × Nat × (List Nat) × World × (List (Option Addr × Nat))) (fun ⟨Az15_430o0_5, cz15_430o0_6, Az15_430o1_5, cz15_430o1_6, Az15_430o2_4, cz15_430o2_5, ftz15_430o2_11, Wz15_430o2_12, adsz15_430o2_6⟩ => ⟨((.bool false) :: (u49 1) :: (.int .i64 x15) :: (u49 3) :: (.int .i64 x37) :: (.bool b50) :: (u350 6) :: (u264 7) :: (u302 8) :: (.bool b351) :: (.slice Az15_430o2_4 lz15_430o2_3.length cz15_430o2_5) :: (.int .i64 xz15_430o2_7) :: un 4 (dd u49 16 5 ((.int .i64 x15) :: dd u49 22 5 ((.int .i64 x37) :: dd u49 28 50 (dd u264 78 7 (dd u302 85 7 (dd u350 92 28 ((.tuple #[.slice Az15_430o2_4 lz15_430o2_3.length cz15_430o2_5, .int .i64 xz15_430o2_7]) :: (.slice Az15_430o0_5 lz15_430o0_1.length cz15_430o0_6) :: (.slice Az15_430o1_5 lz15_430o1_1.length cz15_430o1_6) :: (.tuple #[.slice Az15_430o2_4 lz15_430o2_3.length cz15_430o2_5, .int .i64 xz15_430o2_7]) :: (.slice Az15_430o2_4 lz15_430o2_3.length cz15_430o2_5) :: (.int .i64 xz15_430o2_7) :: un 30 ([]))))))))).toArray, []⟩) (fun ⟨Az15_430o0_5, cz15_430o0_6, Az15_430o1_5, cz15_430o1_6, Az15_430o2_4, cz15_430o2_5, ftz15_430o2_11, Wz15_430o2_12, adsz15_430o2_6⟩ w => (fEach encembedSeq (cellsB oembedSeq adsz15_430o2_6 lz15_430o2_3) lz15_430o2_3).rd Wz15_430o2_12 ftz15_430o2_11 ∧ Turn [] w0 W42 ft41 Wz15_430o2_12 ftz15_430o2_11 ∧ St [] w0 w [poolE ftz15_430o2_11 Wz15_430o2_12, rowE .u8 34 Az15_430o0_5 cz15_430o0_6 lz15_430o0_1, rowE .u8 5 Az15_430o1_5 cz15_430o1_6 lz15_430o1_1, rowG 36 4 (.slice Az15_430o2_4 lz15_430o2_3.length cz15_430o2_5) lz15_430o2_3.length (cellsB oembedSeq adsz15_430o2_6 lz15_430o2_3)]) ?_ ?_
     ·rintro ⟨Az15_430o0_5, cz15_430o0_6, Az15_430o1_5, cz15_430o1_6, Az15_430o2_4, cz15_430o2_5, ftz15_430o2_11, Wz15_430o2_12, adsz15_430o2_6⟩ w434 ⟨hfz15_430o2_15, hTz15_430o2_14, hS435⟩
      have hS435 : St _ _ w434 [poolE ftz15_430o2_11 Wz15_430o2_12, rowE .u8 34 Az15_430o0_5 cz15_430o0_6 lz15_430o0_1, rowE .u8 5 Az15_430o1_5 cz15_430o1_6 lz15_430o1_1, rowG 36 4 (.slice Az15_430o2_4 lz15_430o2_3.length cz15_430o2_5) lz15_430o2_3.length (cellsB oembedSeq adsz15_430o2_6 lz15_430o2_3)] := hS435
      have hfz15_430o2_15 : (fEach encembedSeq (cellsB oembedSeq adsz15_430o2_6 lz15_430o2_3) lz15_430o2_3).rd Wz15_430o2_12 ftz15_430o2_11 := hfz15_430o2_15
      have hTz15_430o2_14 : Turn [] w0 W42 ft41 Wz15_430o2_12 ftz15_430o2_11 := hTz15_430o2_14
      show WQ _ _ ⟨((.bool false) :: (u49 1) :: (.int .i64 x15) :: (u49 3) :: (.int .i64 x37) :: (.bool b50) :: (u350 6) :: (u264 7) :: (u302 8) :: (.bool b351) :: (.slice Az15_430o2_4 lz15_430o2_3.length cz15_430o2_5) :: (.int .i64 xz15_430o2_7) :: un 4 (dd u49 16 5 ((.int .i64 x15) :: dd u49 22 5 ((.int .i64 x37) :: dd u49 28 50 (dd u264 78 7 (dd u302 85 7 (dd u350 92 28 ((.tuple #[.slice Az15_430o2_4 lz15_430o2_3.length cz15_430o2_5, .int .i64 xz15_430o2_7]) :: (.slice Az15_430o0_5 lz15_430o0_1.length cz15_430o0_6) :: (.slice Az15_430o1_5 lz15_430o1_1.length cz15_430o1_6) :: (.tuple #[.slice Az15_430o2_4 lz15_430o2_3.length cz15_430o2_5, .int .i64 xz15_430o2_7]) :: (.slice Az15_430o2_4 lz15_430o2_3.length cz15_430o2_5) :: (.int .i64 xz15_430o2_7) :: un 30 ([]))))))))).toArray, []⟩ _
      refine gx_thenN ?_
      refine hK430 _ _ ?_
      refine gx_seq (fun K436 hK437 => ?_)
      refine gx_region ?_
      obtain ⟨l438, hm439, hO354⟩ := bind_in hO354
      refine gx_rA (st_make (T := 34) (k := .u8) (by_ := 1) rfl (by as_aux_lemma => kernel_rfl) (by as_aux_lemma => kernel_rfl) (by as_aux_lemma => kernel_rfl) (by as_aux_lemma => kernel_rfl) (by as_aux_lemma => kernel_rfl) hS435 hm439) ?_
      rintro _ w440 ⟨A442, c443, rfl, hS441⟩
      have hS441 : St _ _ w440 [poolE ftz15_430o2_11 Wz15_430o2_12, rowE .u8 34 Az15_430o0_5 cz15_430o0_6 lz15_430o0_1, rowE .u8 5 Az15_430o1_5 cz15_430o1_6 lz15_430o1_1, rowG 36 4 (.slice Az15_430o2_4 lz15_430o2_3.length cz15_430o2_5) lz15_430o2_3.length (cellsB oembedSeq adsz15_430o2_6 lz15_430o2_3), rowE .u8 34 A442 c443 l438] := hS441
      have hS444 : St _ _ w440 [poolE ftz15_430o2_11 Wz15_430o2_12, rowE .u8 34 Az15_430o0_5 cz15_430o0_6 lz15_430o0_1, rowE .u8 5 Az15_430o1_5 cz15_430o1_6 lz15_430o1_1, rowG 36 4 (.slice Az15_430o2_4 lz15_430o2_3.length cz15_430o2_5) lz15_430o2_3.length (cellsB oembedSeq adsz15_430o2_6 lz15_430o2_3), rowE .u8 34 A442 c443 l438, rowE .u8 5 none 0 ([])] := hS441.nilrow .u8 5
      have hP445 : St _ _ w440 ([] ++ [poolE ftz15_430o2_11 Wz15_430o2_12, rowE .u8 34 Az15_430o0_5 cz15_430o0_6 lz15_430o0_1, rowE .u8 5 Az15_430o1_5 cz15_430o1_6 lz15_430o1_1, rowG 36 4 (.slice Az15_430o2_4 lz15_430o2_3.length cz15_430o2_5) lz15_430o2_3.length (cellsB oembedSeq adsz15_430o2_6 lz15_430o2_3), rowE .u8 34 A442 c443 l438, rowE .u8 5 none 0 ([])]) := hS444
      obtain ⟨⟨l447, x451⟩, hc446, hO354⟩ := bind_in hO354
      try dsimp only at hO354
      refine gx_cA (pSeqs_R (l447, x451) w440) (pSeqs_ok N l438 ([]) (0 : Int) A442 c443 none 0 _ hc446 w440 (hP445.vwB 4 rfl) (hP445.vwB 5 rfl)) ?_
      rintro _ w452 ⟨A448, c449, ads450, rfl, hT454⟩
      have hS453 : St _ _ w452 [poolE ftz15_430o2_11 Wz15_430o2_12, rowE .u8 34 Az15_430o0_5 cz15_430o0_6 lz15_430o0_1, rowE .u8 5 Az15_430o1_5 cz15_430o1_6 lz15_430o1_1, rowG 36 4 (.slice Az15_430o2_4 lz15_430o2_3.length cz15_430o2_5) lz15_430o2_3.length (cellsB oembedSeq adsz15_430o2_6 lz15_430o2_3), rowE .u8 34 A442 c443 l438, rowE .u8 5 none 0 ([]), rowO oembedSeq 36 A448 l447.length c449 ads450 l447] := hS444.take _ hT454
      obtain ⟨ft455, W456, hS457, hT458, hf459, hn460⟩ := hS453.freezeO 6 0 rfl rfl (by decide)
      have hS457 : St _ _ w452 [poolE ft455 W456, rowE .u8 34 Az15_430o0_5 cz15_430o0_6 lz15_430o0_1, rowE .u8 5 Az15_430o1_5 cz15_430o1_6 lz15_430o1_1, rowG 36 4 (.slice Az15_430o2_4 lz15_430o2_3.length cz15_430o2_5) lz15_430o2_3.length (cellsB oembedSeq adsz15_430o2_6 lz15_430o2_3), rowE .u8 34 A442 c443 l438, rowE .u8 5 none 0 ([]), rowG 36 4 (.slice A448 l447.length c449) l447.length (cellsB oembedSeq ads450 l447)] := hS457
      have hT458 : Turn [] w0 Wz15_430o2_12 ftz15_430o2_11 W456 ft455 := hT458
      have hf459 : (fEach encembedSeq (cellsB oembedSeq ads450 l447) l447).rd W456 ft455 := hf459
      refine gx_kA (.tuple #[.slice A448 l447.length c449, .int .i64 x451]) w452 (gx_kA (.slice A448 l447.length c449) w452 (gx_kA (.int .i64 x451) w452 (gx_kA (.slice A448 l447.length c449) w452 (gx_kA (.int .i64 x451) w452 ?_))))
      refine gx_nil ?_
      refine gx_thenN ?_
      refine hK437 _ _ ?_
      refine gx_seq (fun K461 hK462 => ?_)
      refine gd_start (fun w => St [] w0 w [rowE .u8 34 Az15_430o0_5 cz15_430o0_6 lz15_430o0_1, rowE .u8 5 Az15_430o1_5 cz15_430o1_6 lz15_430o1_1, rowG 36 4 (.slice Az15_430o2_4 lz15_430o2_3.length cz15_430o2_5) lz15_430o2_3.length (cellsB oembedSeq adsz15_430o2_6 lz15_430o2_3), rowE .u8 34 A442 c443 l438, rowE .u8 5 none 0 ([]), rowG 36 4 (.slice A448 l447.length c449) l447.length (cellsB oembedSeq ads450 l447)]) 8 #[false, false, false, false, false, false, false, false] (by as_aux_lemma => kernel_rfl) (by as_aux_lemma => kernel_rfl) ?_
      have hS465 := hS457.drew
      generalize w452.drew = w464 at hS465 ⊢
      obtain ⟨lz17_462o0_1, hmz17_462o0_2, hO354⟩ := bind_in hO354
      obtain ⟨lz17_462o1_1, hmz17_462o1_2, hO354⟩ := bind_in hO354
      obtain ⟨⟨lz17_462o2_3, xz17_462o2_7⟩, hcz17_462o2_2, hO354⟩ := bind_in hO354
      try dsimp only at hO354
      refine gd_share (X := (Option Addr) × Nat × (Option Addr) × Nat × (Option Addr) × Nat × (List Nat) × World × (List (Option Addr × Nat))) (fun ⟨Az17_462o0_5, cz17_462o0_6, Az17_462o1_5, cz17_462o1_6, Az17_462o2_4, cz17_462o2_5, ftz17_462o2_11, Wz17_462o2_12, adsz17_462o2_6⟩ => ⟨((.bool false) :: (u49 1) :: (.int .i64 x15) :: (u49 3) :: (.int .i64 x37) :: (.bool b50) :: (u350 6) :: (u264 7) :: (u302 8) :: (.bool b351) :: (.slice Az15_430o2_4 lz15_430o2_3.length cz15_430o2_5) :: (.int .i64 xz15_430o2_7) :: (.slice A448 l447.length c449) :: (.int .i64 x451) :: (.slice Az17_462o2_4 lz17_462o2_3.length cz17_462o2_5) :: (.int .i64 xz17_462o2_7) :: dd u49 16 5 ((.int .i64 x15) :: dd u49 22 5 ((.int .i64 x37) :: dd u49 28 50 (dd u264 78 7 (dd u302 85 7 (dd u350 92 28 ((.tuple #[.slice Az15_430o2_4 lz15_430o2_3.length cz15_430o2_5, .int .i64 xz15_430o2_7]) :: (.slice Az15_430o0_5 lz15_430o0_1.length cz15_430o0_6) :: (.slice Az15_430o1_5 lz15_430o1_1.length cz15_430o1_6) :: (.tuple #[.slice Az15_430o2_4 lz15_430o2_3.length cz15_430o2_5, .int .i64 xz15_430o2_7]) :: (.slice Az15_430o2_4 lz15_430o2_3.length cz15_430o2_5) :: (.int .i64 xz15_430o2_7) :: (.tuple #[.slice A448 l447.length c449, .int .i64 x451]) :: (.slice A442 l438.length c443) :: (.tuple #[.slice A448 l447.length c449, .int .i64 x451]) :: (.slice A448 l447.length c449) :: (.int .i64 x451) :: (.tuple #[.slice Az17_462o2_4 lz17_462o2_3.length cz17_462o2_5, .int .i64 xz17_462o2_7]) :: (.slice Az17_462o0_5 lz17_462o0_1.length cz17_462o0_6) :: (.slice Az17_462o1_5 lz17_462o1_1.length cz17_462o1_6) :: (.tuple #[.slice Az17_462o2_4 lz17_462o2_3.length cz17_462o2_5, .int .i64 xz17_462o2_7]) :: (.slice Az17_462o2_4 lz17_462o2_3.length cz17_462o2_5) :: (.int .i64 xz17_462o2_7) :: un 19 ([])))))))).toArray, []⟩) (fun ⟨Az17_462o0_5, cz17_462o0_6, Az17_462o1_5, cz17_462o1_6, Az17_462o2_4, cz17_462o2_5, ftz17_462o2_11, Wz17_462o2_12, adsz17_462o2_6⟩ w => (fEach encembedSeq (cellsB oembedSeq adsz17_462o2_6 lz17_462o2_3) lz17_462o2_3).rd Wz17_462o2_12 ftz17_462o2_11 ∧ Turn [] w0 W456 ft455 Wz17_462o2_12 ftz17_462o2_11 ∧ St [] w0 w [poolE ftz17_462o2_11 Wz17_462o2_12, rowE .u8 34 Az15_430o0_5 cz15_430o0_6 lz15_430o0_1, rowE .u8 5 Az15_430o1_5 cz15_430o1_6 lz15_430o1_1, rowG 36 4 (.slice Az15_430o2_4 lz15_430o2_3.length cz15_430o2_5) lz15_430o2_3.length (cellsB oembedSeq adsz15_430o2_6 lz15_430o2_3), rowE .u8 34 A442 c443 l438, rowE .u8 5 none 0 ([]), rowG 36 4 (.slice A448 l447.length c449) l447.length (cellsB oembedSeq ads450 l447), rowE .u8 34 Az17_462o0_5 cz17_462o0_6 lz17_462o0_1, rowE .u8 5 Az17_462o1_5 cz17_462o1_6 lz17_462o1_1, rowG 36 4 (.slice Az17_462o2_4 lz17_462o2_3.length cz17_462o2_5) lz17_462o2_3.length (cellsB oembedSeq adsz17_462o2_6 lz17_462o2_3)]) ?_ ?_
      ·rintro ⟨Az17_462o0_5, cz17_462o0_6, Az17_462o1_5, cz17_462o1_6, Az17_462o2_4, cz17_462o2_5, ftz17_462o2_11, Wz17_462o2_12, adsz17_462o2_6⟩ w466 ⟨hfz17_462o2_15, hTz17_462o2_14, hS467⟩
       have hS467 : St _ _ w466 [poolE ftz17_462o2_11 Wz17_462o2_12, rowE .u8 34 Az15_430o0_5 cz15_430o0_6 lz15_430o0_1, rowE .u8 5 Az15_430o1_5 cz15_430o1_6 lz15_430o1_1, rowG 36 4 (.slice Az15_430o2_4 lz15_430o2_3.length cz15_430o2_5) lz15_430o2_3.length (cellsB oembedSeq adsz15_430o2_6 lz15_430o2_3), rowE .u8 34 A442 c443 l438, rowE .u8 5 none 0 ([]), rowG 36 4 (.slice A448 l447.length c449) l447.length (cellsB oembedSeq ads450 l447), rowE .u8 34 Az17_462o0_5 cz17_462o0_6 lz17_462o0_1, rowE .u8 5 Az17_462o1_5 cz17_462o1_6 lz17_462o1_1, rowG 36 4 (.slice Az17_462o2_4 lz17_462o2_3.length cz17_462o2_5) lz17_462o2_3.length (cellsB oembedSeq adsz17_462o2_6 lz17_462o2_3)] := hS467
       have hfz17_462o2_15 : (fEach encembedSeq (cellsB oembedSeq adsz17_462o2_6 lz17_462o2_3) lz17_462o2_3).rd Wz17_462o2_12 ftz17_462o2_11 := hfz17_462o2_15
       have hTz17_462o2_14 : Turn [] w0 W456 ft455 Wz17_462o2_12 ftz17_462o2_11 := hTz17_462o2_14
       show WQ _ _ ⟨((.bool false) :: (u49 1) :: (.int .i64 x15) :: (u49 3) :: (.int .i64 x37) :: (.bool b50) :: (u350 6) :: (u264 7) :: (u302 8) :: (.bool b351) :: (.slice Az15_430o2_4 lz15_430o2_3.length cz15_430o2_5) :: (.int .i64 xz15_430o2_7) :: (.slice A448 l447.length c449) :: (.int .i64 x451) :: (.slice Az17_462o2_4 lz17_462o2_3.length cz17_462o2_5) :: (.int .i64 xz17_462o2_7) :: dd u49 16 5 ((.int .i64 x15) :: dd u49 22 5 ((.int .i64 x37) :: dd u49 28 50 (dd u264 78 7 (dd u302 85 7 (dd u350 92 28 ((.tuple #[.slice Az15_430o2_4 lz15_430o2_3.length cz15_430o2_5, .int .i64 xz15_430o2_7]) :: (.slice Az15_430o0_5 lz15_430o0_1.length cz15_430o0_6) :: (.slice Az15_430o1_5 lz15_430o1_1.length cz15_430o1_6) :: (.tuple #[.slice Az15_430o2_4 lz15_430o2_3.length cz15_430o2_5, .int .i64 xz15_430o2_7]) :: (.slice Az15_430o2_4 lz15_430o2_3.length cz15_430o2_5) :: (.int .i64 xz15_430o2_7) :: (.tuple #[.slice A448 l447.length c449, .int .i64 x451]) :: (.slice A442 l438.length c443) :: (.tuple #[.slice A448 l447.length c449, .int .i64 x451]) :: (.slice A448 l447.length c449) :: (.int .i64 x451) :: (.tuple #[.slice Az17_462o2_4 lz17_462o2_3.length cz17_462o2_5, .int .i64 xz17_462o2_7]) :: (.slice Az17_462o0_5 lz17_462o0_1.length cz17_462o0_6) :: (.slice Az17_462o1_5 lz17_462o1_1.length cz17_462o1_6) :: (.tuple #[.slice Az17_462o2_4 lz17_462o2_3.length cz17_462o2_5, .int .i64 xz17_462o2_7]) :: (.slice Az17_462o2_4 lz17_462o2_3.length cz17_462o2_5) :: (.int .i64 xz17_462o2_7) :: un 19 ([])))))))).toArray, []⟩ _
       refine gx_thenN ?_
       refine hK462 _ _ ?_
       refine gx_seq (fun K468 hK469 => ?_)
       refine gx_region ?_
       obtain ⟨c474, hE475, hO476⟩ := bind_in hO354
       refine gx_part (l1 := [_, _, _, _]) (fun a w => ∃ (b473 : Bool), selfA (fun u472 => ⟨((.bool false) :: (u49 1) :: (.int .i64 x15) :: (u49 3) :: (.int .i64 x37) :: (.bool b50) :: (u350 6) :: (u264 7) :: (u302 8) :: (.bool b351) :: (u472 10) :: (.int .i64 xz15_430o2_7) :: (u472 12) :: (.int .i64 x451) :: (u472 14) :: (.int .i64 xz17_462o2_7) :: dd u49 16 5 ((.int .i64 x15) :: dd u49 22 5 ((.int .i64 x37) :: dd u49 28 50 (dd u264 78 7 (dd u302 85 7 (dd u350 92 28 (dd u472 120 5 ((.int .i64 xz15_430o2_7) :: dd u472 126 4 ((.int .i64 x451) :: dd u472 131 5 ((.int .i64 xz17_462o2_7) :: dd u472 137 3 ((.bool b473) :: un 15 ([])))))))))))).toArray, []⟩) a ∧ b473 = c474 ∧ St [] w0 w [poolE ftz17_462o2_11 Wz17_462o2_12]) rfl ?_ ?_
       ·refine gx_kA (.bool b50) w466 (gx_kA (.bool b50) w466 ?_)
        cases b50 with
        | true =>
         try dsimp only at hE475
         refine gx_kA (.bool b351) w466 (gx_kA (.bool b351) w466 ?_)
         refine gx_nil ?_
         refine gx_thenN ?_
         exact ⟨b351, selfA_i (by as_aux_lemma => kernel_rfl), (Option.some.inj hE475), (hS467.pick [0] rfl rfl)⟩
        | false =>
         try dsimp only at hE475
         refine gx_oA (gx_kA (.bool false) w466 ?_)
         refine gx_nil ?_
         refine gx_thenN ?_
         exact ⟨false, selfA_i (by as_aux_lemma => kernel_rfl), (Option.some.inj hE475), (hS467.pick [0] rfl rfl)⟩
       ·rintro _ w470 ⟨b473, hq477, rfl, hS471⟩
        obtain ⟨u472, rfl⟩ := selfA_u hq477
        try dsimp only at hO476
        obtain ⟨c482, hE483, hO484⟩ := bind_in hO476
        refine gx_part (l1 := [_, _, _, _]) (fun a w => ∃ (b481 : Bool), selfA (fun u480 => ⟨((.bool false) :: (u49 1) :: (.int .i64 x15) :: (u49 3) :: (.int .i64 x37) :: (.bool b50) :: (u350 6) :: (u264 7) :: (u302 8) :: (.bool b351) :: (u472 10) :: (.int .i64 xz15_430o2_7) :: (u472 12) :: (.int .i64 x451) :: (u472 14) :: (.int .i64 xz17_462o2_7) :: dd u49 16 5 ((.int .i64 x15) :: dd u49 22 5 ((.int .i64 x37) :: dd u49 28 50 (dd u264 78 7 (dd u302 85 7 (dd u350 92 28 (dd u472 120 5 ((.int .i64 xz15_430o2_7) :: dd u472 126 4 ((.int .i64 x451) :: dd u472 131 5 ((.int .i64 xz17_462o2_7) :: dd u472 137 3 ((.bool b473) :: dd u480 141 3 ((.bool b481) :: un 11 ([]))))))))))))).toArray, []⟩) a ∧ b481 = c482 ∧ St [] w0 w [poolE ftz17_462o2_11 Wz17_462o2_12]) rfl ?_ ?_
        ·refine gx_kA (.bool b473) w470 ?_
         cases b473 with
         | true =>
          try dsimp only at hE483
          refine gx_kA (.int .i64 xz15_430o2_7) w470 ?_
          rcases if_in hE483 with ⟨h486, hE483⟩ | ⟨h486, hE483⟩
          ·refine gx_vA (.bool true) w470 (run_boolE (decide_eq_true h486) (by as_aux_lemma => kernel_rfl)) ?_
           refine gx_kA (.bool true) w470 ?_
           refine gx_nil ?_
           refine gx_thenN ?_
           exact ⟨true, selfA_i (by as_aux_lemma => kernel_rfl), (Option.some.inj hE483), hS471⟩
          ·refine gx_vA (.bool false) w470 (run_boolE (decide_eq_false h486) (by as_aux_lemma => kernel_rfl)) ?_
           refine gx_kA (.bool false) w470 ?_
           refine gx_nil ?_
           refine gx_thenN ?_
           exact ⟨false, selfA_i (by as_aux_lemma => kernel_rfl), (Option.some.inj hE483), hS471⟩
         | false =>
          try dsimp only at hE483
          refine gx_oA (gx_oA (gx_kA (.bool false) w470 ?_))
          refine gx_nil ?_
          refine gx_thenN ?_
          exact ⟨false, selfA_i (by as_aux_lemma => kernel_rfl), (Option.some.inj hE483), hS471⟩
        ·rintro _ w478 ⟨b481, hq485, rfl, hS479⟩
         obtain ⟨u480, rfl⟩ := selfA_u hq485
         try dsimp only at hO484
         obtain ⟨c491, hE492, hO493⟩ := bind_in hO484
         refine gx_part (l1 := [_, _, _, _]) (fun a w => ∃ (b490 : Bool), selfA (fun u489 => ⟨((.bool false) :: (u49 1) :: (.int .i64 x15) :: (u49 3) :: (.int .i64 x37) :: (.bool b50) :: (u350 6) :: (u264 7) :: (u302 8) :: (.bool b351) :: (u472 10) :: (.int .i64 xz15_430o2_7) :: (u472 12) :: (.int .i64 x451) :: (u472 14) :: (.int .i64 xz17_462o2_7) :: dd u49 16 5 ((.int .i64 x15) :: dd u49 22 5 ((.int .i64 x37) :: dd u49 28 50 (dd u264 78 7 (dd u302 85 7 (dd u350 92 28 (dd u472 120 5 ((.int .i64 xz15_430o2_7) :: dd u472 126 4 ((.int .i64 x451) :: dd u472 131 5 ((.int .i64 xz17_462o2_7) :: dd u472 137 3 ((.bool b473) :: dd u480 141 3 ((.bool b481) :: dd u489 145 3 ((.bool b490) :: un 7 ([])))))))))))))).toArray, []⟩) a ∧ b490 = c491 ∧ St [] w0 w [poolE ftz17_462o2_11 Wz17_462o2_12]) rfl ?_ ?_
         ·refine gx_kA (.bool b481) w478 ?_
          cases b481 with
          | true =>
           try dsimp only at hE492
           refine gx_kA (.int .i64 x451) w478 ?_
           rcases if_in hE492 with ⟨h495, hE492⟩ | ⟨h495, hE492⟩
           ·refine gx_vA (.bool true) w478 (run_boolE (decide_eq_true h495) (by as_aux_lemma => kernel_rfl)) ?_
            refine gx_kA (.bool true) w478 ?_
            refine gx_nil ?_
            refine gx_thenN ?_
            exact ⟨true, selfA_i (by as_aux_lemma => kernel_rfl), (Option.some.inj hE492), hS479⟩
           ·refine gx_vA (.bool false) w478 (run_boolE (decide_eq_false h495) (by as_aux_lemma => kernel_rfl)) ?_
            refine gx_kA (.bool false) w478 ?_
            refine gx_nil ?_
            refine gx_thenN ?_
            exact ⟨false, selfA_i (by as_aux_lemma => kernel_rfl), (Option.some.inj hE492), hS479⟩
          | false =>
           try dsimp only at hE492
           refine gx_oA (gx_oA (gx_kA (.bool false) w478 ?_))
           refine gx_nil ?_
           refine gx_thenN ?_
           exact ⟨false, selfA_i (by as_aux_lemma => kernel_rfl), (Option.some.inj hE492), hS479⟩
         ·rintro _ w487 ⟨b490, hq494, rfl, hS488⟩
          obtain ⟨u489, rfl⟩ := selfA_u hq494
          try dsimp only at hO493
          refine gx_kA (.bool b490) w487 ?_
          cases b490 with
          | true =>
           try dsimp only at hO493
           refine gx_kA (.int .i64 xz17_462o2_7) w487 ?_
           rcases if_in hO493 with ⟨h496, hO493⟩ | ⟨h496, hO493⟩
           ·refine gx_vA (.bool true) w487 (run_boolE (decide_eq_true h496) (by as_aux_lemma => kernel_rfl)) ?_
            refine gx_kA (.bool true) w487 (gx_kA (.bool true) w487 ?_)
            have hP497 : St _ _ w487 ([] ++ [poolE ftz17_462o2_11 Wz17_462o2_12]) := hS488
            obtain ⟨b499, hc498, hO493⟩ := bind_in hO493
            try dsimp only at hO493
            refine gx_cA (kIso_R b499 w487) (kIso_ok N  _ hc498 w487 ) ?_
            rintro _ w500 ⟨rfl, hT502⟩
            have hS501 : St _ _ w500 [poolE ftz17_462o2_11 Wz17_462o2_12] := hS488.take _ hT502
            refine gx_kA (.bool b499) w500 (gx_kA (.bool b499) w500 ?_)
            refine gx_nil ?_
            refine gx_thenN ?_
            refine hK469 _ _ ?_
            refine gx_ret ?_
            obtain rfl := Option.some.inj hO493
            exact gx_fin (.bool b499) (by as_aux_lemma => kernel_rfl) (by as_aux_lemma => kernel_rfl) ⟨_, rfl, rfl, (hS501.pick [] rfl rfl)⟩
           ·refine gx_vA (.bool false) w487 (run_boolE (decide_eq_false h496) (by as_aux_lemma => kernel_rfl)) ?_
            refine gx_kA (.bool false) w487 (gx_kA (.bool false) w487 (gx_oA (gx_kA (.bool false) w487 (gx_kA (.bool false) w487 ?_))))
            refine gx_nil ?_
            refine gx_thenN ?_
            refine hK469 _ _ ?_
            refine gx_ret ?_
            obtain rfl := Option.some.inj hO493
            exact gx_fin (.bool false) (by as_aux_lemma => kernel_rfl) (by as_aux_lemma => kernel_rfl) ⟨_, rfl, rfl, (hS488.pick [] rfl rfl)⟩
          | false =>
           try dsimp only at hO493
           refine gx_oA (gx_oA (gx_kA (.bool false) w487 (gx_kA (.bool false) w487 (gx_oA (gx_kA (.bool false) w487 (gx_kA (.bool false) w487 ?_))))))
           refine gx_nil ?_
           refine gx_thenN ?_
           refine hK469 _ _ ?_
           refine gx_ret ?_
           obtain rfl := Option.some.inj hO493
           exact gx_fin (.bool false) (by as_aux_lemma => kernel_rfl) (by as_aux_lemma => kernel_rfl) ⟨_, rfl, rfl, (hS488.pick [] rfl rfl)⟩
      ·intro K503
       refine gd_fork2 0 1 { dst := some 132, op := _, type := _, pos := _, after := _, guard := _ } { dst := some 133, op := _, type := _, pos := _, after := _, guard := _ } rfl rfl ?_ ?_
       ·skip
        refine gfR 0 { dst := some 132, op := _, type := _, pos := _, after := _, guard := _ } rfl (st_make (T := 34) (k := .u8) (by_ := 1) rfl (by as_aux_lemma => kernel_rfl) (by as_aux_lemma => kernel_rfl) (by as_aux_lemma => kernel_rfl) (by as_aux_lemma => kernel_rfl) (by as_aux_lemma => kernel_rfl) hS465 hmz17_462o0_2) ?_
        rintro _ wz17_462o0_3 ⟨Az17_462o0_5, cz17_462o0_6, rfl, hSz17_462o0_4⟩
        have hSz17_462o0_4 : St _ _ wz17_462o0_3 [poolE ft455 W456, rowE .u8 34 Az15_430o0_5 cz15_430o0_6 lz15_430o0_1, rowE .u8 5 Az15_430o1_5 cz15_430o1_6 lz15_430o1_1, rowG 36 4 (.slice Az15_430o2_4 lz15_430o2_3.length cz15_430o2_5) lz15_430o2_3.length (cellsB oembedSeq adsz15_430o2_6 lz15_430o2_3), rowE .u8 34 A442 c443 l438, rowE .u8 5 none 0 ([]), rowG 36 4 (.slice A448 l447.length c449) l447.length (cellsB oembedSeq ads450 l447), rowE .u8 34 Az17_462o0_5 cz17_462o0_6 lz17_462o0_1] := hSz17_462o0_4
        refine ⟨(hSz17_462o0_4.pick [1, 2, 3, 4, 5, 6] rfl rfl), ?_⟩
        refine gdR 1 { dst := some 133, op := _, type := _, pos := _, after := _, guard := _ } rfl (st_make (T := 5) (k := .u8) (by_ := 1) rfl (by as_aux_lemma => kernel_rfl) (by as_aux_lemma => kernel_rfl) (by as_aux_lemma => kernel_rfl) (by as_aux_lemma => kernel_rfl) (by as_aux_lemma => kernel_rfl) hSz17_462o0_4 hmz17_462o1_2) ?_
        rintro _ wz17_462o1_3 ⟨Az17_462o1_5, cz17_462o1_6, rfl, hSz17_462o1_4⟩
        have hSz17_462o1_4 : St _ _ wz17_462o1_3 [poolE ft455 W456, rowE .u8 34 Az15_430o0_5 cz15_430o0_6 lz15_430o0_1, rowE .u8 5 Az15_430o1_5 cz15_430o1_6 lz15_430o1_1, rowG 36 4 (.slice Az15_430o2_4 lz15_430o2_3.length cz15_430o2_5) lz15_430o2_3.length (cellsB oembedSeq adsz15_430o2_6 lz15_430o2_3), rowE .u8 34 A442 c443 l438, rowE .u8 5 none 0 ([]), rowG 36 4 (.slice A448 l447.length c449) l447.length (cellsB oembedSeq ads450 l447), rowE .u8 34 Az17_462o0_5 cz17_462o0_6 lz17_462o0_1, rowE .u8 5 Az17_462o1_5 cz17_462o1_6 lz17_462o1_1] := hSz17_462o1_4
        refine ⟨(hSz17_462o1_4.pick [1, 2, 3, 4, 5, 6] rfl rfl), ?_⟩
        have hPz17_462o2_1 : St _ _ wz17_462o1_3 ([] ++ [poolE ft455 W456, rowE .u8 34 Az15_430o0_5 cz15_430o0_6 lz15_430o0_1, rowE .u8 5 Az15_430o1_5 cz15_430o1_6 lz15_430o1_1, rowG 36 4 (.slice Az15_430o2_4 lz15_430o2_3.length cz15_430o2_5) lz15_430o2_3.length (cellsB oembedSeq adsz15_430o2_6 lz15_430o2_3), rowE .u8 34 A442 c443 l438, rowE .u8 5 none 0 ([]), rowG 36 4 (.slice A448 l447.length c449) l447.length (cellsB oembedSeq ads450 l447), rowE .u8 34 Az17_462o0_5 cz17_462o0_6 lz17_462o0_1, rowE .u8 5 Az17_462o1_5 cz17_462o1_6 lz17_462o1_1]) := hSz17_462o1_4
        refine gdC 2 { dst := some 134, op := _, type := _, pos := _, after := _, guard := _ } (pSeqs_R (lz17_462o2_3, xz17_462o2_7) wz17_462o1_3) rfl (by as_aux_lemma => kernel_rfl) (pSeqs_ok N lz17_462o0_1 lz17_462o1_1 (0 : Int) Az17_462o0_5 cz17_462o0_6 Az17_462o1_5 cz17_462o1_6 _ hcz17_462o2_2 wz17_462o1_3 (hPz17_462o2_1.vwB 7 rfl) (hPz17_462o2_1.vwB 8 rfl)) ?_
        rintro _ wz17_462o2_8 ⟨Az17_462o2_4, cz17_462o2_5, adsz17_462o2_6, rfl, hTz17_462o2_10⟩
        have hSz17_462o2_9 : St _ _ wz17_462o2_8 [poolE ft455 W456, rowE .u8 34 Az15_430o0_5 cz15_430o0_6 lz15_430o0_1, rowE .u8 5 Az15_430o1_5 cz15_430o1_6 lz15_430o1_1, rowG 36 4 (.slice Az15_430o2_4 lz15_430o2_3.length cz15_430o2_5) lz15_430o2_3.length (cellsB oembedSeq adsz15_430o2_6 lz15_430o2_3), rowE .u8 34 A442 c443 l438, rowE .u8 5 none 0 ([]), rowG 36 4 (.slice A448 l447.length c449) l447.length (cellsB oembedSeq ads450 l447), rowE .u8 34 Az17_462o0_5 cz17_462o0_6 lz17_462o0_1, rowE .u8 5 Az17_462o1_5 cz17_462o1_6 lz17_462o1_1, rowO oembedSeq 36 Az17_462o2_4 lz17_462o2_3.length cz17_462o2_5 adsz17_462o2_6 lz17_462o2_3] := hSz17_462o1_4.take _ hTz17_462o2_10
        obtain ⟨ftz17_462o2_11, Wz17_462o2_12, hSz17_462o2_13, hTz17_462o2_14, hfz17_462o2_15, hnz17_462o2_16⟩ := hSz17_462o2_9.freezeO 9 0 rfl rfl (by decide)
        have hSz17_462o2_13 : St _ _ wz17_462o2_8 [poolE ftz17_462o2_11 Wz17_462o2_12, rowE .u8 34 Az15_430o0_5 cz15_430o0_6 lz15_430o0_1, rowE .u8 5 Az15_430o1_5 cz15_430o1_6 lz15_430o1_1, rowG 36 4 (.slice Az15_430o2_4 lz15_430o2_3.length cz15_430o2_5) lz15_430o2_3.length (cellsB oembedSeq adsz15_430o2_6 lz15_430o2_3), rowE .u8 34 A442 c443 l438, rowE .u8 5 none 0 ([]), rowG 36 4 (.slice A448 l447.length c449) l447.length (cellsB oembedSeq ads450 l447), rowE .u8 34 Az17_462o0_5 cz17_462o0_6 lz17_462o0_1, rowE .u8 5 Az17_462o1_5 cz17_462o1_6 lz17_462o1_1, rowG 36 4 (.slice Az17_462o2_4 lz17_462o2_3.length cz17_462o2_5) lz17_462o2_3.length (cellsB oembedSeq adsz17_462o2_6 lz17_462o2_3)] := hSz17_462o2_13
        have hTz17_462o2_14 : Turn [] w0 W456 ft455 Wz17_462o2_12 ftz17_462o2_11 := hTz17_462o2_14
        have hfz17_462o2_15 : (fEach encembedSeq (cellsB oembedSeq adsz17_462o2_6 lz17_462o2_3) lz17_462o2_3).rd Wz17_462o2_12 ftz17_462o2_11 := hfz17_462o2_15
        refine ⟨(hSz17_462o2_13.pick [1, 2, 3, 4, 5, 6] rfl rfl), ?_⟩
        refine gd1 3 { dst := some 131, op := _, type := _, pos := _, after := _, guard := _ } (.tuple #[.slice Az17_462o2_4 lz17_462o2_3.length cz17_462o2_5, .int .i64 xz17_462o2_7]) rfl (hSz17_462o2_13.pick [1, 2, 3, 4, 5, 6] rfl rfl) (fun w hSw => by kernel_rfl) ?_
        refine gd1 4 { dst := some 135, op := _, type := _, pos := _, after := _, guard := _ } (.slice Az17_462o2_4 lz17_462o2_3.length cz17_462o2_5) rfl (hSz17_462o2_13.pick [1, 2, 3, 4, 5, 6] rfl rfl) (fun w hSw => by kernel_rfl) ?_
        refine gd1 5 { dst := some 136, op := _, type := _, pos := _, after := _, guard := _ } (.int .i64 xz17_462o2_7) rfl (hSz17_462o2_13.pick [1, 2, 3, 4, 5, 6] rfl rfl) (fun w hSw => by kernel_rfl) ?_
        refine gd1 6 { dst := some 14, op := _, type := _, pos := _, after := _, guard := _ } (.slice Az17_462o2_4 lz17_462o2_3.length cz17_462o2_5) rfl (hSz17_462o2_13.pick [1, 2, 3, 4, 5, 6] rfl rfl) (fun w hSw => by kernel_rfl) ?_
        refine gd1 7 { dst := some 15, op := _, type := _, pos := _, after := _, guard := _ } (.int .i64 xz17_462o2_7) rfl (hSz17_462o2_13.pick [1, 2, 3, 4, 5, 6] rfl rfl) (fun w hSw => by kernel_rfl) ?_
        exact gd_meet (by as_aux_lemma => kernel_rfl) (by as_aux_lemma => kernel_rfl) (K503 (Az17_462o0_5, cz17_462o0_6, Az17_462o1_5, cz17_462o1_6, Az17_462o2_4, cz17_462o2_5, ftz17_462o2_11, Wz17_462o2_12, adsz17_462o2_6) _ ⟨hfz17_462o2_15, hTz17_462o2_14, hSz17_462o2_13⟩)
       ·skip
        refine gfR 1 { dst := some 133, op := _, type := _, pos := _, after := _, guard := _ } rfl (st_make (T := 5) (k := .u8) (by_ := 1) rfl (by as_aux_lemma => kernel_rfl) (by as_aux_lemma => kernel_rfl) (by as_aux_lemma => kernel_rfl) (by as_aux_lemma => kernel_rfl) (by as_aux_lemma => kernel_rfl) hS465 hmz17_462o1_2) ?_
        rintro _ wz17_462o1_3 ⟨Az17_462o1_5, cz17_462o1_6, rfl, hSz17_462o1_4⟩
        have hSz17_462o1_4 : St _ _ wz17_462o1_3 [poolE ft455 W456, rowE .u8 34 Az15_430o0_5 cz15_430o0_6 lz15_430o0_1, rowE .u8 5 Az15_430o1_5 cz15_430o1_6 lz15_430o1_1, rowG 36 4 (.slice Az15_430o2_4 lz15_430o2_3.length cz15_430o2_5) lz15_430o2_3.length (cellsB oembedSeq adsz15_430o2_6 lz15_430o2_3), rowE .u8 34 A442 c443 l438, rowE .u8 5 none 0 ([]), rowG 36 4 (.slice A448 l447.length c449) l447.length (cellsB oembedSeq ads450 l447), rowE .u8 5 Az17_462o1_5 cz17_462o1_6 lz17_462o1_1] := hSz17_462o1_4
        refine ⟨(hSz17_462o1_4.pick [1, 2, 3, 4, 5, 6] rfl rfl), ?_⟩
        refine gdR 0 { dst := some 132, op := _, type := _, pos := _, after := _, guard := _ } rfl (st_make (T := 34) (k := .u8) (by_ := 1) rfl (by as_aux_lemma => kernel_rfl) (by as_aux_lemma => kernel_rfl) (by as_aux_lemma => kernel_rfl) (by as_aux_lemma => kernel_rfl) (by as_aux_lemma => kernel_rfl) hSz17_462o1_4 hmz17_462o0_2) ?_
        rintro _ wz17_462o0_3 ⟨Az17_462o0_5, cz17_462o0_6, rfl, hSz17_462o0_4⟩
        have hSz17_462o0_4 : St _ _ wz17_462o0_3 [poolE ft455 W456, rowE .u8 34 Az15_430o0_5 cz15_430o0_6 lz15_430o0_1, rowE .u8 5 Az15_430o1_5 cz15_430o1_6 lz15_430o1_1, rowG 36 4 (.slice Az15_430o2_4 lz15_430o2_3.length cz15_430o2_5) lz15_430o2_3.length (cellsB oembedSeq adsz15_430o2_6 lz15_430o2_3), rowE .u8 34 A442 c443 l438, rowE .u8 5 none 0 ([]), rowG 36 4 (.slice A448 l447.length c449) l447.length (cellsB oembedSeq ads450 l447), rowE .u8 5 Az17_462o1_5 cz17_462o1_6 lz17_462o1_1, rowE .u8 34 Az17_462o0_5 cz17_462o0_6 lz17_462o0_1] := hSz17_462o0_4
        refine ⟨(hSz17_462o0_4.pick [1, 2, 3, 4, 5, 6] rfl rfl), ?_⟩
        have hPz17_462o2_1 : St _ _ wz17_462o0_3 ([] ++ [poolE ft455 W456, rowE .u8 34 Az15_430o0_5 cz15_430o0_6 lz15_430o0_1, rowE .u8 5 Az15_430o1_5 cz15_430o1_6 lz15_430o1_1, rowG 36 4 (.slice Az15_430o2_4 lz15_430o2_3.length cz15_430o2_5) lz15_430o2_3.length (cellsB oembedSeq adsz15_430o2_6 lz15_430o2_3), rowE .u8 34 A442 c443 l438, rowE .u8 5 none 0 ([]), rowG 36 4 (.slice A448 l447.length c449) l447.length (cellsB oembedSeq ads450 l447), rowE .u8 5 Az17_462o1_5 cz17_462o1_6 lz17_462o1_1, rowE .u8 34 Az17_462o0_5 cz17_462o0_6 lz17_462o0_1]) := hSz17_462o0_4
        refine gdC 2 { dst := some 134, op := _, type := _, pos := _, after := _, guard := _ } (pSeqs_R (lz17_462o2_3, xz17_462o2_7) wz17_462o0_3) rfl (by as_aux_lemma => kernel_rfl) (pSeqs_ok N lz17_462o0_1 lz17_462o1_1 (0 : Int) Az17_462o0_5 cz17_462o0_6 Az17_462o1_5 cz17_462o1_6 _ hcz17_462o2_2 wz17_462o0_3 (hPz17_462o2_1.vwB 8 rfl) (hPz17_462o2_1.vwB 7 rfl)) ?_
        rintro _ wz17_462o2_8 ⟨Az17_462o2_4, cz17_462o2_5, adsz17_462o2_6, rfl, hTz17_462o2_10⟩
        have hSz17_462o2_9 : St _ _ wz17_462o2_8 [poolE ft455 W456, rowE .u8 34 Az15_430o0_5 cz15_430o0_6 lz15_430o0_1, rowE .u8 5 Az15_430o1_5 cz15_430o1_6 lz15_430o1_1, rowG 36 4 (.slice Az15_430o2_4 lz15_430o2_3.length cz15_430o2_5) lz15_430o2_3.length (cellsB oembedSeq adsz15_430o2_6 lz15_430o2_3), rowE .u8 34 A442 c443 l438, rowE .u8 5 none 0 ([]), rowG 36 4 (.slice A448 l447.length c449) l447.length (cellsB oembedSeq ads450 l447), rowE .u8 5 Az17_462o1_5 cz17_462o1_6 lz17_462o1_1, rowE .u8 34 Az17_462o0_5 cz17_462o0_6 lz17_462o0_1, rowO oembedSeq 36 Az17_462o2_4 lz17_462o2_3.length cz17_462o2_5 adsz17_462o2_6 lz17_462o2_3] := hSz17_462o0_4.take _ hTz17_462o2_10
        obtain ⟨ftz17_462o2_11, Wz17_462o2_12, hSz17_462o2_13, hTz17_462o2_14, hfz17_462o2_15, hnz17_462o2_16⟩ := hSz17_462o2_9.freezeO 9 0 rfl rfl (by decide)
        have hSz17_462o2_13 : St _ _ wz17_462o2_8 [poolE ftz17_462o2_11 Wz17_462o2_12, rowE .u8 34 Az15_430o0_5 cz15_430o0_6 lz15_430o0_1, rowE .u8 5 Az15_430o1_5 cz15_430o1_6 lz15_430o1_1, rowG 36 4 (.slice Az15_430o2_4 lz15_430o2_3.length cz15_430o2_5) lz15_430o2_3.length (cellsB oembedSeq adsz15_430o2_6 lz15_430o2_3), rowE .u8 34 A442 c443 l438, rowE .u8 5 none 0 ([]), rowG 36 4 (.slice A448 l447.length c449) l447.length (cellsB oembedSeq ads450 l447), rowE .u8 5 Az17_462o1_5 cz17_462o1_6 lz17_462o1_1, rowE .u8 34 Az17_462o0_5 cz17_462o0_6 lz17_462o0_1, rowG 36 4 (.slice Az17_462o2_4 lz17_462o2_3.length cz17_462o2_5) lz17_462o2_3.length (cellsB oembedSeq adsz17_462o2_6 lz17_462o2_3)] := hSz17_462o2_13
        have hTz17_462o2_14 : Turn [] w0 W456 ft455 Wz17_462o2_12 ftz17_462o2_11 := hTz17_462o2_14
        have hfz17_462o2_15 : (fEach encembedSeq (cellsB oembedSeq adsz17_462o2_6 lz17_462o2_3) lz17_462o2_3).rd Wz17_462o2_12 ftz17_462o2_11 := hfz17_462o2_15
        refine ⟨(hSz17_462o2_13.pick [1, 2, 3, 4, 5, 6] rfl rfl), ?_⟩
        refine gd1 3 { dst := some 131, op := _, type := _, pos := _, after := _, guard := _ } (.tuple #[.slice Az17_462o2_4 lz17_462o2_3.length cz17_462o2_5, .int .i64 xz17_462o2_7]) rfl (hSz17_462o2_13.pick [1, 2, 3, 4, 5, 6] rfl rfl) (fun w hSw => by kernel_rfl) ?_
        refine gd1 4 { dst := some 135, op := _, type := _, pos := _, after := _, guard := _ } (.slice Az17_462o2_4 lz17_462o2_3.length cz17_462o2_5) rfl (hSz17_462o2_13.pick [1, 2, 3, 4, 5, 6] rfl rfl) (fun w hSw => by kernel_rfl) ?_
        refine gd1 5 { dst := some 136, op := _, type := _, pos := _, after := _, guard := _ } (.int .i64 xz17_462o2_7) rfl (hSz17_462o2_13.pick [1, 2, 3, 4, 5, 6] rfl rfl) (fun w hSw => by kernel_rfl) ?_
        refine gd1 6 { dst := some 14, op := _, type := _, pos := _, after := _, guard := _ } (.slice Az17_462o2_4 lz17_462o2_3.length cz17_462o2_5) rfl (hSz17_462o2_13.pick [1, 2, 3, 4, 5, 6] rfl rfl) (fun w hSw => by kernel_rfl) ?_
        refine gd1 7 { dst := some 15, op := _, type := _, pos := _, after := _, guard := _ } (.int .i64 xz17_462o2_7) rfl (hSz17_462o2_13.pick [1, 2, 3, 4, 5, 6] rfl rfl) (fun w hSw => by kernel_rfl) ?_
        exact gd_meet (by as_aux_lemma => kernel_rfl) (by as_aux_lemma => kernel_rfl) (K503 (Az17_462o0_5, cz17_462o0_6, Az17_462o1_5, cz17_462o1_6, Az17_462o2_4, cz17_462o2_5, ftz17_462o2_11, Wz17_462o2_12, adsz17_462o2_6) _ ⟨hfz17_462o2_15, hTz17_462o2_14, (hSz17_462o2_13.pick [0, 1, 2, 3, 4, 5, 6, 8, 7, 9] rfl rfl)⟩)
     ·intro K504
      refine gd_fork2 0 1 { dst := some 121, op := _, type := _, pos := _, after := _, guard := _ } { dst := some 122, op := _, type := _, pos := _, after := _, guard := _ } rfl rfl ?_ ?_
      ·skip
       refine gfR 0 { dst := some 121, op := _, type := _, pos := _, after := _, guard := _ } rfl (st_make (T := 34) (k := .u8) (by_ := 1) rfl (by as_aux_lemma => kernel_rfl) (by as_aux_lemma => kernel_rfl) (by as_aux_lemma => kernel_rfl) (by as_aux_lemma => kernel_rfl) (by as_aux_lemma => kernel_rfl) hS433 hmz15_430o0_2) ?_
       rintro _ wz15_430o0_3 ⟨Az15_430o0_5, cz15_430o0_6, rfl, hSz15_430o0_4⟩
       have hSz15_430o0_4 : St _ _ wz15_430o0_3 [poolE ft41 W42, rowE .u8 34 Az15_430o0_5 cz15_430o0_6 lz15_430o0_1] := hSz15_430o0_4
       refine ⟨(hSz15_430o0_4.pick [] rfl rfl), ?_⟩
       refine gdR 1 { dst := some 122, op := _, type := _, pos := _, after := _, guard := _ } rfl (st_make (T := 5) (k := .u8) (by_ := 1) rfl (by as_aux_lemma => kernel_rfl) (by as_aux_lemma => kernel_rfl) (by as_aux_lemma => kernel_rfl) (by as_aux_lemma => kernel_rfl) (by as_aux_lemma => kernel_rfl) hSz15_430o0_4 hmz15_430o1_2) ?_
       rintro _ wz15_430o1_3 ⟨Az15_430o1_5, cz15_430o1_6, rfl, hSz15_430o1_4⟩
       have hSz15_430o1_4 : St _ _ wz15_430o1_3 [poolE ft41 W42, rowE .u8 34 Az15_430o0_5 cz15_430o0_6 lz15_430o0_1, rowE .u8 5 Az15_430o1_5 cz15_430o1_6 lz15_430o1_1] := hSz15_430o1_4
       refine ⟨(hSz15_430o1_4.pick [] rfl rfl), ?_⟩
       have hPz15_430o2_1 : St _ _ wz15_430o1_3 ([] ++ [poolE ft41 W42, rowE .u8 34 Az15_430o0_5 cz15_430o0_6 lz15_430o0_1, rowE .u8 5 Az15_430o1_5 cz15_430o1_6 lz15_430o1_1]) := hSz15_430o1_4
       refine gdC 2 { dst := some 123, op := _, type := _, pos := _, after := _, guard := _ } (pSeqs_R (lz15_430o2_3, xz15_430o2_7) wz15_430o1_3) rfl (by as_aux_lemma => kernel_rfl) (pSeqs_ok N lz15_430o0_1 lz15_430o1_1 (0 : Int) Az15_430o0_5 cz15_430o0_6 Az15_430o1_5 cz15_430o1_6 _ hcz15_430o2_2 wz15_430o1_3 (hPz15_430o2_1.vwB 1 rfl) (hPz15_430o2_1.vwB 2 rfl)) ?_
       rintro _ wz15_430o2_8 ⟨Az15_430o2_4, cz15_430o2_5, adsz15_430o2_6, rfl, hTz15_430o2_10⟩
       have hSz15_430o2_9 : St _ _ wz15_430o2_8 [poolE ft41 W42, rowE .u8 34 Az15_430o0_5 cz15_430o0_6 lz15_430o0_1, rowE .u8 5 Az15_430o1_5 cz15_430o1_6 lz15_430o1_1, rowO oembedSeq 36 Az15_430o2_4 lz15_430o2_3.length cz15_430o2_5 adsz15_430o2_6 lz15_430o2_3] := hSz15_430o1_4.take _ hTz15_430o2_10
       obtain ⟨ftz15_430o2_11, Wz15_430o2_12, hSz15_430o2_13, hTz15_430o2_14, hfz15_430o2_15, hnz15_430o2_16⟩ := hSz15_430o2_9.freezeO 3 0 rfl rfl (by decide)
       have hSz15_430o2_13 : St _ _ wz15_430o2_8 [poolE ftz15_430o2_11 Wz15_430o2_12, rowE .u8 34 Az15_430o0_5 cz15_430o0_6 lz15_430o0_1, rowE .u8 5 Az15_430o1_5 cz15_430o1_6 lz15_430o1_1, rowG 36 4 (.slice Az15_430o2_4 lz15_430o2_3.length cz15_430o2_5) lz15_430o2_3.length (cellsB oembedSeq adsz15_430o2_6 lz15_430o2_3)] := hSz15_430o2_13
       have hTz15_430o2_14 : Turn [] w0 W42 ft41 Wz15_430o2_12 ftz15_430o2_11 := hTz15_430o2_14
       have hfz15_430o2_15 : (fEach encembedSeq (cellsB oembedSeq adsz15_430o2_6 lz15_430o2_3) lz15_430o2_3).rd Wz15_430o2_12 ftz15_430o2_11 := hfz15_430o2_15
       refine ⟨(hSz15_430o2_13.pick [] rfl rfl), ?_⟩
       refine gd1 3 { dst := some 120, op := _, type := _, pos := _, after := _, guard := _ } (.tuple #[.slice Az15_430o2_4 lz15_430o2_3.length cz15_430o2_5, .int .i64 xz15_430o2_7]) rfl (hSz15_430o2_13.pick [] rfl rfl) (fun w hSw => by kernel_rfl) ?_
       refine gd1 4 { dst := some 124, op := _, type := _, pos := _, after := _, guard := _ } (.slice Az15_430o2_4 lz15_430o2_3.length cz15_430o2_5) rfl (hSz15_430o2_13.pick [] rfl rfl) (fun w hSw => by kernel_rfl) ?_
       refine gd1 5 { dst := some 125, op := _, type := _, pos := _, after := _, guard := _ } (.int .i64 xz15_430o2_7) rfl (hSz15_430o2_13.pick [] rfl rfl) (fun w hSw => by kernel_rfl) ?_
       refine gd1 6 { dst := some 10, op := _, type := _, pos := _, after := _, guard := _ } (.slice Az15_430o2_4 lz15_430o2_3.length cz15_430o2_5) rfl (hSz15_430o2_13.pick [] rfl rfl) (fun w hSw => by kernel_rfl) ?_
       refine gd1 7 { dst := some 11, op := _, type := _, pos := _, after := _, guard := _ } (.int .i64 xz15_430o2_7) rfl (hSz15_430o2_13.pick [] rfl rfl) (fun w hSw => by kernel_rfl) ?_
       exact gd_meet (by as_aux_lemma => kernel_rfl) (by as_aux_lemma => kernel_rfl) (K504 (Az15_430o0_5, cz15_430o0_6, Az15_430o1_5, cz15_430o1_6, Az15_430o2_4, cz15_430o2_5, ftz15_430o2_11, Wz15_430o2_12, adsz15_430o2_6) _ ⟨hfz15_430o2_15, hTz15_430o2_14, hSz15_430o2_13⟩)
      ·skip
       refine gfR 1 { dst := some 122, op := _, type := _, pos := _, after := _, guard := _ } rfl (st_make (T := 5) (k := .u8) (by_ := 1) rfl (by as_aux_lemma => kernel_rfl) (by as_aux_lemma => kernel_rfl) (by as_aux_lemma => kernel_rfl) (by as_aux_lemma => kernel_rfl) (by as_aux_lemma => kernel_rfl) hS433 hmz15_430o1_2) ?_
       rintro _ wz15_430o1_3 ⟨Az15_430o1_5, cz15_430o1_6, rfl, hSz15_430o1_4⟩
       have hSz15_430o1_4 : St _ _ wz15_430o1_3 [poolE ft41 W42, rowE .u8 5 Az15_430o1_5 cz15_430o1_6 lz15_430o1_1] := hSz15_430o1_4
       refine ⟨(hSz15_430o1_4.pick [] rfl rfl), ?_⟩
       refine gdR 0 { dst := some 121, op := _, type := _, pos := _, after := _, guard := _ } rfl (st_make (T := 34) (k := .u8) (by_ := 1) rfl (by as_aux_lemma => kernel_rfl) (by as_aux_lemma => kernel_rfl) (by as_aux_lemma => kernel_rfl) (by as_aux_lemma => kernel_rfl) (by as_aux_lemma => kernel_rfl) hSz15_430o1_4 hmz15_430o0_2) ?_
       rintro _ wz15_430o0_3 ⟨Az15_430o0_5, cz15_430o0_6, rfl, hSz15_430o0_4⟩
       have hSz15_430o0_4 : St _ _ wz15_430o0_3 [poolE ft41 W42, rowE .u8 5 Az15_430o1_5 cz15_430o1_6 lz15_430o1_1, rowE .u8 34 Az15_430o0_5 cz15_430o0_6 lz15_430o0_1] := hSz15_430o0_4
       refine ⟨(hSz15_430o0_4.pick [] rfl rfl), ?_⟩
       have hPz15_430o2_1 : St _ _ wz15_430o0_3 ([] ++ [poolE ft41 W42, rowE .u8 5 Az15_430o1_5 cz15_430o1_6 lz15_430o1_1, rowE .u8 34 Az15_430o0_5 cz15_430o0_6 lz15_430o0_1]) := hSz15_430o0_4
       refine gdC 2 { dst := some 123, op := _, type := _, pos := _, after := _, guard := _ } (pSeqs_R (lz15_430o2_3, xz15_430o2_7) wz15_430o0_3) rfl (by as_aux_lemma => kernel_rfl) (pSeqs_ok N lz15_430o0_1 lz15_430o1_1 (0 : Int) Az15_430o0_5 cz15_430o0_6 Az15_430o1_5 cz15_430o1_6 _ hcz15_430o2_2 wz15_430o0_3 (hPz15_430o2_1.vwB 2 rfl) (hPz15_430o2_1.vwB 1 rfl)) ?_
       rintro _ wz15_430o2_8 ⟨Az15_430o2_4, cz15_430o2_5, adsz15_430o2_6, rfl, hTz15_430o2_10⟩
       have hSz15_430o2_9 : St _ _ wz15_430o2_8 [poolE ft41 W42, rowE .u8 5 Az15_430o1_5 cz15_430o1_6 lz15_430o1_1, rowE .u8 34 Az15_430o0_5 cz15_430o0_6 lz15_430o0_1, rowO oembedSeq 36 Az15_430o2_4 lz15_430o2_3.length cz15_430o2_5 adsz15_430o2_6 lz15_430o2_3] := hSz15_430o0_4.take _ hTz15_430o2_10
       obtain ⟨ftz15_430o2_11, Wz15_430o2_12, hSz15_430o2_13, hTz15_430o2_14, hfz15_430o2_15, hnz15_430o2_16⟩ := hSz15_430o2_9.freezeO 3 0 rfl rfl (by decide)
       have hSz15_430o2_13 : St _ _ wz15_430o2_8 [poolE ftz15_430o2_11 Wz15_430o2_12, rowE .u8 5 Az15_430o1_5 cz15_430o1_6 lz15_430o1_1, rowE .u8 34 Az15_430o0_5 cz15_430o0_6 lz15_430o0_1, rowG 36 4 (.slice Az15_430o2_4 lz15_430o2_3.length cz15_430o2_5) lz15_430o2_3.length (cellsB oembedSeq adsz15_430o2_6 lz15_430o2_3)] := hSz15_430o2_13
       have hTz15_430o2_14 : Turn [] w0 W42 ft41 Wz15_430o2_12 ftz15_430o2_11 := hTz15_430o2_14
       have hfz15_430o2_15 : (fEach encembedSeq (cellsB oembedSeq adsz15_430o2_6 lz15_430o2_3) lz15_430o2_3).rd Wz15_430o2_12 ftz15_430o2_11 := hfz15_430o2_15
       refine ⟨(hSz15_430o2_13.pick [] rfl rfl), ?_⟩
       refine gd1 3 { dst := some 120, op := _, type := _, pos := _, after := _, guard := _ } (.tuple #[.slice Az15_430o2_4 lz15_430o2_3.length cz15_430o2_5, .int .i64 xz15_430o2_7]) rfl (hSz15_430o2_13.pick [] rfl rfl) (fun w hSw => by kernel_rfl) ?_
       refine gd1 4 { dst := some 124, op := _, type := _, pos := _, after := _, guard := _ } (.slice Az15_430o2_4 lz15_430o2_3.length cz15_430o2_5) rfl (hSz15_430o2_13.pick [] rfl rfl) (fun w hSw => by kernel_rfl) ?_
       refine gd1 5 { dst := some 125, op := _, type := _, pos := _, after := _, guard := _ } (.int .i64 xz15_430o2_7) rfl (hSz15_430o2_13.pick [] rfl rfl) (fun w hSw => by kernel_rfl) ?_
       refine gd1 6 { dst := some 10, op := _, type := _, pos := _, after := _, guard := _ } (.slice Az15_430o2_4 lz15_430o2_3.length cz15_430o2_5) rfl (hSz15_430o2_13.pick [] rfl rfl) (fun w hSw => by kernel_rfl) ?_
       refine gd1 7 { dst := some 11, op := _, type := _, pos := _, after := _, guard := _ } (.int .i64 xz15_430o2_7) rfl (hSz15_430o2_13.pick [] rfl rfl) (fun w hSw => by kernel_rfl) ?_
       exact gd_meet (by as_aux_lemma => kernel_rfl) (by as_aux_lemma => kernel_rfl) (K504 (Az15_430o0_5, cz15_430o0_6, Az15_430o1_5, cz15_430o1_6, Az15_430o2_4, cz15_430o2_5, ftz15_430o2_11, Wz15_430o2_12, adsz15_430o2_6) _ ⟨hfz15_430o2_15, hTz15_430o2_14, (hSz15_430o2_13.pick [0, 2, 1, 3] rfl rfl)⟩)

end Go.Proofs.Ytjndolnjhbgflaa
