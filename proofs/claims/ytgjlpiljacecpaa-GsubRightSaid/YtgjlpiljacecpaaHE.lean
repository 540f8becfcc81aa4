/-
  gsub: the face, walked.
-/
import Derived.Test.YtgjlpiljacecpaaHC
import Derived.Test.YtgjlpiljacecpaaGu
import Derived.Handy
import Derived.Recover
namespace Go.Proofs.Ytgjlpiljacecpaa
open Go Go.RowKit
set_option linter.unusedVariables false
set_option maxRecDepth 100000
set_option maxHeartbeats 4000000
theorem St.cellset {bs : List Nat} {w0 w : World} {es : List Ent} {T g j : Nat} {cs : List Value} (h : St bs w0 w es) (i : Nat) (hi : es[i]? = some (boxE g cs T)) (_hj : j < cs.length) (v : Value) : St bs w0 (w.setCell ⟨g, j, none⟩ v) (es.set i (boxE g (cs.set j v) T)) := by
 have hg : w.heap[g]? = some (.cells cs.toArray T (0, 0)) := h.get i hi
 refine h.turn (w' := w.setCell ⟨g, j, none⟩ v) i hi ⟨rfl, rfl, rfl⟩ (by simp [World.setCell]) (fun k _ hne => Below.heap_setCell w ⟨g, j, none⟩ v k (by simpa [boxE] using hne)) _ ?_ (fun k hk => .inl hk)
 show (w.setCell ⟨g, j, none⟩ v).heap[g]? = _
 simp [World.setCell, Array.getElem?_modify, hg]
theorem gParse_nil (w : World) : Calls Try.prog 25 #[.nilIface] w fun e w' => e = .returned (.int .i64 0) ∧ w = w' := by
 go_enter Try.func25, Try.ntmps25
 go_wp2_with fail
 go_returns
 exact ⟨rfl, rfl⟩
theorem gParse_fault (w : World) (n : Int) : Calls Try.prog 25 #[.iface 113 (.agg #[.int .i64 n])] w fun e w' => e = .returned (.int .i64 n) ∧ w = w' := by
 have hta : ∀ T W, (Instr.typeAssert (.iface 113 (.agg #[i6 n])) T 113 false).run Try.prog W = .ok (.agg #[i6 n]) W := fun T W => by simp [Instr.typeAssert]
 have hfl : ∀ W, (Instr.field 113 (.agg #[i6 n]) 0).run Try.prog W = .ok (i6 n) W := fun W => by simp [Instr.field, go_sem]; rfl
 go_enter Try.func25, Try.ntmps25
 go_wp2_with fail
 go_returns
 exact ⟨rfl, rfl⟩
theorem gParse_catch (p : Addr) (x n : Int) (older : List PanicEntry) (w : World) (hc : w.cell? p = some (.int .i64 x)) (hz : w.frozen? p = false) :
    CallsD Try.prog 24 #[.pointer (some p)] (.panicking ({ v := .iface 113 (.agg #[.int .i64 n]), recovered := false } :: older)) w fun e u' w' =>
      e = .returned (.tuple #[]) ∧ u' = .panicking ({ v := .iface 113 (.agg #[.int .i64 n]), recovered := true } :: older) ∧ w' = w.setCell p (.int .i64 n) := by
 refine callsD_of_wpS Try.func24 rfl fun c₀ cs hu => ?_
 apply wpS_region
 simp [wpOpsS, go_sem, recoverD, hu, Try.ntmps24]
 refine (gParse_fault w n).mono ?_
 rintro e w' ⟨rfl, rfl⟩
 simp [go_sem, hc, hz, bodyPostS, results, Try.results24]
theorem gParse_idle (p : Addr) (x : Int) (w : World) (hc : w.cell? p = some (.int .i64 x)) (hz : w.frozen? p = false) :
    CallsD Try.prog 24 #[.pointer (some p)] .returning w fun e u' w' => e = .returned (.tuple #[]) ∧ u' = .returning ∧ w' = w.setCell p (.int .i64 0) := by
 refine callsD_of_wpS Try.func24 rfl fun c₀ cs hu => ?_
 apply wpS_region
 simp [wpOpsS, go_sem, recoverD, hu, Try.ntmps24]
 refine (gParse_nil w).mono ?_
 rintro e w' ⟨rfl, rfl⟩
 cases c₀
 simp_all [go_sem, bodyPostS, results, Try.results24]
def gParse (N : Nat) (p0 : List Int) (p0s_0 : Bool) (p1 : Int) : Option (List (Int × Int × (List ((List (Int × Int)) × (List (Int × List Int)) × (List (List Int × Int)) × List (List Int) × List (List Int) × List (List Int) × List (Int × Int))) × List ((List (Int × Int × Int)) × (List (Int × Int × Int × Int)) × List (Int × List (Bool × Int × Int)))) × List ((Int × Int × Int × Int) × List Int) × Int × Bool) :=
  (gParsed N p0 p0s_0 p1).bind fun | Pan.ok (l, f, b) => some (l, f, 0, b) | Pan.gone (x, b) => some ([], [], x, b)
def gParse_R (p0 : List Int) (p0s_0 : Bool) (p1 : Int) (g0 : Nat) (A0 : Option Addr) (c0 : Nat) (g0s : Nat) (r : List (Int × Int × (List ((List (Int × Int)) × (List (Int × List Int)) × (List (List Int × Int)) × List (List Int) × List (List Int) × List (List Int) × List (Int × Int))) × List ((List (Int × Int × Int)) × (List (Int × Int × Int × Int)) × List (Int × List (Bool × Int × Int)))) × List ((Int × Int × Int × Int) × List Int) × Int × Bool) (w0 : World) (v : Value) (w : World) : Prop := ∃ (A0' : Option Addr) (c0' : Nat) (vs0' : List Value) (A1' : Option Addr) (c1' : Nat) (vs1' : List Value) (ft' : List Nat), v = .tuple #[.slice A0' r.1.length c0', .slice A1' r.2.1.length c1', .int .i64 r.2.2.1] ∧ St (foots [eR g0 g0s A0 p0 c0, eS g0s p0s_0]) w0 w [eR g0 g0s A0 p0 c0, eS g0s r.2.2.2, rowG 35 4 (.slice A0' r.1.length c0') r.1.length vs0', rowG 52 5 (.slice A1' r.2.1.length c1') r.2.1.length vs1', poolE ft' w] ∧ (fEach encapiLookup vs0' r.1).rd w ft' ∧ (fEach (pairE encapiTag (rowOf (intE .i64))) vs1' r.2.1).rd w ft'
theorem gParse_any (N : Nat) (p0 : List Int) (p0s_0 : Bool) (p1 : Int) (g0 : Nat) (A0 : Option Addr) (c0 : Nat) (g0s : Nat) (r : List (Int × Int × (List ((List (Int × Int)) × (List (Int × List Int)) × (List (List Int × Int)) × List (List Int) × List (List Int) × List (List Int) × List (Int × Int))) × List ((List (Int × Int × Int)) × (List (Int × Int × Int × Int)) × List (Int × List (Bool × Int × Int)))) × List ((Int × Int × Int × Int) × List Int) × Int × Bool) (hF : gParse N p0 p0s_0 p1 = some r) (w0 : World) (hv0 : Vw (foots [eR g0 g0s A0 p0 c0, eS g0s p0s_0]) .u8 w0 A0 c0 p0) (hl : St (foots [eR g0 g0s A0 p0 c0, eS g0s p0s_0]) w0 w0 [eR g0 g0s A0 p0 c0, eS g0s p0s_0]) (E : Ending → World → Prop) (hE : ∀ v w, gParse_R p0 p0s_0 p1 g0 A0 c0 g0s r w0 v w → E (.returned v) w) :
    Calls Try.prog 9 #[.pointer (some ⟨g0, 0, none⟩), .int .i64 p1] w0 E := by
 have hmf : ∀ (fn : Fn) (first cap : Array Value) (W : World), (Instr.makeFunc fn first cap).run Try.prog W = .ok (.func fn first cap) W := fun _ _ _ _ => rfl
 unfold gParse at hF
 obtain ⟨q, hq, hF⟩ := bind_in hF
 have hB : St _ w0 (w0.alloc (.cells #[i6 0] 26)) ([eR g0 g0s A0 p0 c0, eS g0s p0s_0] ++ [boxE w0.heap.size [i6 0] 26]) := hl.boxed [i6 0] 26
 have HU := Lib.hid (gParsed_ok N p0 p0s_0 p1 g0 A0 c0 g0s q hq (w0.alloc (.cells #[i6 0] 26)) (hB.vwA hv0) hB.part)
 have HB := Lib.hid hB
 have HE := Lib.hid hE
 clear hv0 hl hq hB hE
 go_enter_defers Try.func9, Try.ntmps9
 go_wp2_with fail
 refine (HU.out).mono ?_
 rintro e w1 (⟨q', rfl, v, rfl, A0, c0, vs0, A1, c1, vs1, ft, rfl, hT, hf0, hf1⟩ | ⟨q', rfl, c, rfl, hc0, hT⟩)
 obtain rfl := sj hF
 have hS := HB.out.lendN _ hT
 have hc : w1.cell? ⟨w0.heap.size, 0, none⟩ = some (i6 0) := hS.box 0 rfl 0 rfl
 have hz : w1.frozen? ⟨w0.heap.size, 0, none⟩ = false := frozen_none (hS.get 0 rfl)
 have HC := Lib.hid hc
 have HZ := Lib.hid hz
 have HW := Lib.hid hS
 have H0 := Lib.hid hf0
 have H1 := Lib.hid hf1
 clear hT hf0 hf1 hS
 go_wp2_with fail
 refine leaves_cons (f := 24) (args := #[vP w0.heap.size]) (by simp) (by simp [go_sem]) ((gParse_idle ⟨w0.heap.size, 0, none⟩ 0 _ (World.cell?_setCell_same _ _ _ HC.out) (by rw [World.frozen?_setCell]; exact HZ.out)).mono ?_)
 rintro e u' w2 ⟨rfl, rfl, hw2⟩
 have hcell : w2.cell? ⟨w0.heap.size, 0, none⟩ = some (i6 0) := by rw [hw2]; exact World.cell?_setCell_same _ _ _ (World.cell?_setCell_same _ _ _ HC.out)
 have hS2 := (HW.out.cellset (j := 0) 0 rfl (by decide) (i6 0)).cellset (j := 0) 0 rfl (by decide) (i6 0)
 rw [← hw2] at hS2
 have G0 := Lib.hid (hS2.now 5 rfl H0.out)
 have G1 := Lib.hid (hS2.now 5 rfl H1.out)
 have H2 := Lib.hid (hS2.renew 5 rfl)
 clear hw2 hS2
 simp [Leaves, settle, results, Try.results9, go_sem, hcell]
 exact HE.out _ _ ⟨A0, c0, vs0, A1, c1, vs1, ft, rfl, H2.out.pick [1, 2, 3, 4, 5] rfl rfl, G0.out, G1.out⟩
 obtain rfl := sj hF
 have hS := HB.out.lendN _ hT
 have HC : Hid (w1.cell? ⟨w0.heap.size, 0, none⟩ = some (i6 0)) := Lib.hid (hS.box 0 rfl 0 rfl)
 have HZ : Hid (w1.frozen? ⟨w0.heap.size, 0, none⟩ = false) := Lib.hid (frozen_none (hS.get 0 rfl))
 subst hc0
 refine leaves_cons (f := 24) (args := #[vP w0.heap.size]) (by simp) (by simp [go_sem]) ((gParse_catch ⟨w0.heap.size, 0, none⟩ 0 q'.1 [] _ HC.out HZ.out).mono ?_)
 rintro e u' w2 ⟨rfl, rfl, hw2⟩
 have hcell : w2.cell? ⟨w0.heap.size, 0, none⟩ = some (i6 q'.1) := by rw [hw2]; exact World.cell?_setCell_same _ _ _ HC.out
 have hS2 := hS.cellset (j := 0) 0 rfl (by decide) (i6 q'.1)
 rw [← hw2] at hS2
 have hS3 := (((hS2.pool0).nilrowN 35 4).nilrowN 52 5)
 have H2 := Lib.hid hS3
 clear hw2 hS2 hS hT hS3
 simp [Leaves, settle, results, Try.results9, go_sem, hcell]
 exact HE.out _ _ ⟨none, 0, [], none, 0, [], [], rfl, H2.out.pick [1, 2, 4, 5, 3] rfl rfl, rfl, rfl⟩
theorem gParse_ok (N : Nat) (p0 : List Int) (p0s_0 : Bool) (p1 : Int) (g0 : Nat) (A0 : Option Addr) (c0 : Nat) (g0s : Nat) (r : List (Int × Int × (List ((List (Int × Int)) × (List (Int × List Int)) × (List (List Int × Int)) × List (List Int) × List (List Int) × List (List Int) × List (Int × Int))) × List ((List (Int × Int × Int)) × (List (Int × Int × Int × Int)) × List (Int × List (Bool × Int × Int)))) × List ((Int × Int × Int × Int) × List Int) × Int × Bool) (hF : gParse N p0 p0s_0 p1 = some r) (w0 : World) (hv0 : Vw (foots [eR g0 g0s A0 p0 c0, eS g0s p0s_0]) .u8 w0 A0 c0 p0) (hl : St (foots [eR g0 g0s A0 p0 c0, eS g0s p0s_0]) w0 w0 [eR g0 g0s A0 p0 c0, eS g0s p0s_0]) :
    Calls Try.prog 9 #[.pointer (some ⟨g0, 0, none⟩), .int .i64 p1] w0 fun e w => ∃ v, e = .returned v ∧ gParse_R p0 p0s_0 p1 g0 A0 c0 g0s r w0 v w := gParse_any N p0 p0s_0 p1 g0 A0 c0 g0s r hF w0 hv0 hl _ fun v w h => ⟨v, rfl, h⟩
end Go.Proofs.Ytgjlpiljacecpaa
