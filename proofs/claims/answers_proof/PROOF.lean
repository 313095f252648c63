import PyProof.Rows.All
import Wide.All
import OpenK.AllK
import Wide.FinOn
import Open.SpecLaws
import KE.OsGo
import HandS.ForSpec
import HandS.ForMost
import HandS.Defaults
import HandS.Head0
import HandS.Head1
import HandS.Head2
import HandS.Head4
import HandS.HeadHook1
import HandS.HeadHook2
import KE.GoesComp
import KE.GoesRaise
import HandS.Comp
import HandS.ExcCtx
import KE.DatumOrd
import HandS.Iter
import HandS.SortKw
import HandS.HotCalls
import HandS.SuiteRaise
import HandS.RaiseFrom
import HandS.More
import HandS.Rev
import HandS.Walk
import KE.GoesEnumKw
import PySem.Challenge.RW_granthouse_s01_answers
set_option Elab.async false
set_option linter.all false
set_option maxRecDepth 100000
set_option maxHeartbeats 4000000
/-! A list comprehension whose element calls a def that may raise: what is raised leaves the comprehension and the def around it. -/
namespace Gh
open PySem PySem.Spec PyProof.Rows L2

/-- held by the frame at L, the block of names at C gone from the ground -/
theorem held_less {B h h' : Heap} {l : List Env} {a C : Addr} {Z : Obj → Prop} {m m' : Str → Option Value} {fl : Value} (hn : h.Ns C m) (hn' : h'.Ns C m') (sb : Heap.SameBut C h h')
    (k1 : B.StaysIn h) (k2 : B.get? a = none) (k3 : h.FunFrames B l) (k4 : HandSPX.TracedZ h B a Z fl) :
    (PySem.W.hideAll B [C]).StaysIn h' ∧ (PySem.W.hideAll B [C]).get? a = none ∧ h'.FunFrames (PySem.W.hideAll B [C]) l ∧ HandSPX.TracedZ h' (PySem.W.hideAll B [C]) a Z fl := by
  have none_of : ∀ b, B.get? b = none → (PySem.W.hideAll B [C]).get? b = none := fun b e => by
    cases q : (PySem.W.hideAll B [C]).get? b with
    | none => rfl
    | some o =>
      have z := PySem.W.of_hideAll _ q
      rw [e] at z; cases z
  have notC : ∀ b o vs, h.get? b = some o → o.data = .fields vs → b ≠ C := fun b o vs e d z => by
    obtain ⟨o', es, ep, ho, hd, _⟩ := hn
    rw [z, ho] at e; cases e
    rw [hd] at d; cases d
  refine ⟨fun b o e => ?_, none_of a k2, ?_, ?_⟩
  · have hb : b ≠ C := fun z => by
      rw [z, PySem.W.hideAll_none [C] (by simp)] at e; cases e
    exact (sb.2 b hb).trans (k1 b o (PySem.W.of_hideAll _ e))
  · have f2 : h'.FunFrames B l := Heap.FunFrames.sameBut sb hn' k3
    exact funFrames_none f2 fun b hb => none_of b (f2.mem hb).1
  · obtain ⟨oe, vs, T, oT, ts, e1, e2, e3, e4, e5, e6, e7, e8, e9⟩ := k4
    exact ⟨oe, vs, T, oT, ts, (sb.2 a (notC a oe vs e1 e3)).trans e1, e2, e3, e4, none_of T e5, e6, (sb.2 T (notC T oT ts e7 e8)).trans e7, e8, e9⟩

section
variable {X : Cx}
/-- a callee's exception in a comprehension's element goes to what the def around wishes of it -/
theorem comp_lets {E : XK} {scope : Scope} {pins : List (Addr × Obj)} {σ : L2.St} {H3 : Hp} {s3 : Shared} {fp : List Addr} {ce : Env} {R : Result → Shared → Prop}
    (hst : X.stack = X.env :: X.outer) (hf : X.env.frame = some X.env.locals) (tk : Takes X (fun c d _ H => E c d H)) (I3 : Inv X pins σ H3 s3) (hcf : ce.frame = X.env.frame) (hcC : s3.heap.objs.size ≤ ce.locals)
    (f3 : ∀ b ∈ fp, FpOk X pins H3 b ∧ b < s3.heap.objs.size) (hR : ∀ e s', CompFails (model X.prog X.w) X.A X.xe ce e s' → R (.error e) s') :
    Passes (L2.CX X.prog X.w) ((X.blk s3 H3 scope ce fp).wish (notedBy (model X.prog X.w) X.A ce fun e s' => R (.error e) s')) E := by
  intro pins' σ' H' s' e s'' I' cx
  obtain ⟨a, B, H2, cls, d, rfl, fl, hok, ub, na, os, ag, hE⟩ := cx
  have fl : HandSPX.FlyingZ B X.stack a (Zc cls d) s''.heap := fl
  have ub : UB (frs X.stack) H' H2 s'.heap B s''.heap := ub
  have hfr : X.A.frames = some (X.env :: X.outer) := by rw [I3.ok.frames, hst]
  have base : Un (frs X.stack) fp H3 H' s3.heap s'.heap := I'.base
  generalize hC : ce.locals = C at hcC
  have frlt : ∀ b ∈ frs X.stack, ∃ o, s3.heap.get? b = some o ∧ ∀ vs, o.data ≠ .fields vs := fun b hb => by
    obtain ⟨_, o, ho, hd⟩ := I3.stack.mem hb
    exact ⟨o, ho, hd⟩
  have neC : ∀ b o, s3.heap.get? b = some o → b ≠ C := fun b o e => Nat.ne_of_lt (Nat.lt_of_lt_of_le (Heap.lt_size e) hcC)
  have Cfr : C ∉ frs X.stack := fun hm => by
    obtain ⟨o, ho, _⟩ := frlt C hm
    exact neC C o ho rfl
  obtain ⟨m, hn, _⟩ := id I'.loc
  have hn : s'.heap.Ns ce.locals m := hn
  have fC : H' ce.locals = none := I'.free
  rw [hC] at hn fC
  have hn2 : s''.heap.Ns C m := by
    obtain ⟨oC, es, ep, ho, r⟩ := hn
    exact ⟨oC, es, ep, fl.1 _ _ (ub.keep _ _ ho fC Cfr), r⟩
  have fC2 : H2 C = none := by
    obtain ⟨oC, es, ep, ho, r⟩ := hn
    exact ub.free _ _ ho fC
  show wpAny (model X.prog X.w) X.A (noteFrame (.ref a) ce) _ _ s''
  rw [noteFrame_env _ hcf]
  have fl' : HandSPX.FlyingZ B (X.env :: X.outer) a (Zc cls d) s''.heap := by rw [← hst]; exact fl
  refine HandSPX.looks_onZ Zc.steady hfr hf fl' fun h1 hh1 up1 => hR _ _ ?_
  have hn1 : h1.Ns C m := hn2.upToSlots fun b o e hd => up1 b o e hd
  refine ⟨m, by rw [hC]; exact hn1, fun h2 m2 hn3 sb => ?_⟩
  rw [hC] at hn3 sb
  obtain ⟨k1, k2, k3, k4⟩ := hh1
  have hh2 : HandSPX.HeldZ (PySem.W.hideAll B [C]) (X.env :: X.outer) a (Zc cls d) X.env.locals h2 := held_less hn1 hn3 sb k1 k2 k3 k4
  obtain ⟨q1, q2, q3, oe, vs, T, oT, ts, he, hz, hd, h1', hr⟩ := id hh2
  unfold PySem.passOn
  refine wpAny_bind (wpAny_field he hd h1' ?_)
  rw [if_neg (show ¬ ((Value.ref T == Value.none) = true) from by simp)]
  rw [hcf, hf]
  have fin : wpAny (model X.prog X.w) X.A (setFlight (.ref a) (some X.env.locals)) (fun _ s4 => wpAny (model X.prog X.w) X.A (throw (.ref a) : Sem Value) (fun _ _ => False) X.xe s4) X.xe { s'' with heap := h2 } := by
    refine HandSPX.setFlight_onZ hh2 fun h4 hh4 up4 => wpAny_throw (tk _ _ ?_)
    obtain ⟨G, g1, g2⟩ := restrict h4 fun b => ((PySem.W.hideAll B [C]).get? b).isSome || decide (b ∈ frs X.stack)
    have st4 : (PySem.W.hideAll B [C]).StaysIn h4 := hh4.1
    have gB : ∀ b o, (PySem.W.hideAll B [C]).get? b = some o → G.get? b = some o := fun b o e => by
      rw [g1 b (by simp [e])]
      exact st4 b o e
    have gF : ∀ b, b ∈ frs X.stack → G.get? b = h4.get? b := fun b hb => g1 b (by simp [hb])
    have og : ∀ b o, G.get? b = some o → h4.get? b = some o ∧ (((PySem.W.hideAll B [C]).get? b).isSome = true ∨ b ∈ frs X.stack) := fun b o e => by
      cases q : (((PySem.W.hideAll B [C]).get? b).isSome || decide (b ∈ frs X.stack)) with
      | false => rw [g2 b q] at e; cases e
      | true =>
        rw [g1 b q] at e
        exact ⟨e, by simpa [Bool.or_eq_true] using q⟩
    have toB : ∀ b o, b ≠ C → B.get? b = some o → (PySem.W.hideAll B [C]).get? b = some o := fun b o hb e => PySem.W.hideAll_get _ e (by simpa using hb)
    have slots : ∀ b o, s3.heap.get? b = some o → H3 b = none → b ∈ frs X.stack → b ∉ fp → ∃ sl, G.get? b = some { o with slots := sl } := fun b o e n hb hx => by
      obtain ⟨o', e', hnf⟩ := frlt b hb
      rw [e] at e'; cases e'
      obtain ⟨sl1, e1⟩ := base.slot b o e n hb hx
      obtain ⟨sl2, e2⟩ := ub.slot b _ e1 hb
      obtain ⟨sl3, e3⟩ := up1 b _ e2 hnf
      have e4 := (sb.2 b (neC b o e)).trans e3
      obtain ⟨sl5, e5⟩ := up4 b _ e4 hnf
      exact ⟨sl5, by rw [gF b hb]; exact e5⟩
    refine ⟨a, PySem.W.hideAll B [C], { s3 with heap := G, gens := s''.gens, drawn := s''.drawn, toks := s''.toks }, pins, σ, H2, cls, d, rfl, ?_, fun b o e hb => ?_, Heap.UpToSlots.of_keeps fun b o e => (og b o e).1, .inr (.inr (by rw [hst]; exact hh4)), na, ?_, ag, hE⟩
    · refine I3.call (ch := fp) ⟨fun b o e n hb hx => ?_, fun b o e n hb hx => slots b o e n hb hx, fun b o e n hx => ?_, fun b o e hx => ?_, fun b xs e => ub.tups b xs (base.tups b xs e), fun b o u e => ub.frzs b o u (base.frzs b o u e), fun b ps e => ?_⟩ ?_ ag
        fun b hb => ⟨(f3 b hb).1.2.2.2.1, (f3 b hb).1.2.1, (f3 b hb).1.2.2.2.2.1, (f3 b hb).1.2.2.2.2.2⟩
      · exact gB b o (toB b o (neC b o e) (ub.keep b o (base.keep b o e n hb hx) (base.free b o e n hx) hb))
      · obtain ⟨o1, e1⟩ := base.there b o e hx
        exact ub.free b o1 e1 (base.free b o e n hx)
      · by_cases hb : b ∈ frs X.stack
        · obtain ⟨sl, q⟩ := slots b o e (I3.stkFree b hb) hb hx
          exact ⟨_, q⟩
        · obtain ⟨o1, e1⟩ := base.there b o e hx
          obtain ⟨o2, e2⟩ := ub.there b o1 e1 hb
          exact ⟨o2, gB b o2 (toB b o2 (neC b o e) e2)⟩
      · obtain ⟨m1, q1⟩ := base.tbls b ps e
        obtain ⟨m2, q2⟩ := ub.tbls b _ q1
        exact ⟨m1 ++ m2, by rw [q2, Array.append_assoc]⟩
      · intro b u q
        have hb : b ≠ C := fun z => by rw [z, fC2] at q; cases q
        refine (hok b u q).stay (fun c v hc r => gB c v (toB c v ?_ r)) (fun _ r => r) fun _ _ r => r
        rcases hc with z | z
        · rw [z]; exact hb
        · exact fun y => by rw [y, fC2] at z; cases z
    · obtain ⟨e', h⟩ := og b o e
      rcases h with h | h
      · obtain ⟨o', q⟩ := Option.isSome_iff_exists.mp h
        have z := st4 b o' q
        rw [e'] at z; cases z
        exact q
      · exact absurd h hb
    · show s''.os = s3.os
      rw [os]
      exact I'.os
  first
    | exact wpAny_bind (wpAny_pure (wpAny_bind fin))
    | exact wpAny_bind fin

/-- (its context None) a callee's exception in a comprehension's element goes to what the def around wishes of it -/
theorem comp_letsN {E : XK} {scope : Scope} {pins : List (Addr × Obj)} {σ : L2.St} {H3 : Hp} {s3 : Shared} {fp : List Addr} {ce : Env} {R : Result → Shared → Prop}
    (hst : X.stack = X.env :: X.outer) (hf : X.env.frame = some X.env.locals) (tk : L2N.Takes X (fun c d _ H => E c d H)) (I3 : Inv X pins σ H3 s3) (hcf : ce.frame = X.env.frame) (hcC : s3.heap.objs.size ≤ ce.locals)
    (f3 : ∀ b ∈ fp, FpOk X pins H3 b ∧ b < s3.heap.objs.size) (hR : ∀ e s', CompFails (model X.prog X.w) X.A X.xe ce e s' → R (.error e) s') :
    Passes (L2N.CX X.prog X.w) ((X.blk s3 H3 scope ce fp).wish (notedBy (model X.prog X.w) X.A ce fun e s' => R (.error e) s')) E := by
  intro pins' σ' H' s' e s'' I' cx
  obtain ⟨a, B, H2, cls, d, rfl, fl, hok, ub, na, os, ag, hE⟩ := cx
  have fl : HandSPX.FlyingZ B X.stack a (L2N.Zn cls d) s''.heap := fl
  have ub : UB (frs X.stack) H' H2 s'.heap B s''.heap := ub
  have hfr : X.A.frames = some (X.env :: X.outer) := by rw [I3.ok.frames, hst]
  have base : Un (frs X.stack) fp H3 H' s3.heap s'.heap := I'.base
  generalize hC : ce.locals = C at hcC
  have frlt : ∀ b ∈ frs X.stack, ∃ o, s3.heap.get? b = some o ∧ ∀ vs, o.data ≠ .fields vs := fun b hb => by
    obtain ⟨_, o, ho, hd⟩ := I3.stack.mem hb
    exact ⟨o, ho, hd⟩
  have neC : ∀ b o, s3.heap.get? b = some o → b ≠ C := fun b o e => Nat.ne_of_lt (Nat.lt_of_lt_of_le (Heap.lt_size e) hcC)
  have Cfr : C ∉ frs X.stack := fun hm => by
    obtain ⟨o, ho, _⟩ := frlt C hm
    exact neC C o ho rfl
  obtain ⟨m, hn, _⟩ := id I'.loc
  have hn : s'.heap.Ns ce.locals m := hn
  have fC : H' ce.locals = none := I'.free
  rw [hC] at hn fC
  have hn2 : s''.heap.Ns C m := by
    obtain ⟨oC, es, ep, ho, r⟩ := hn
    exact ⟨oC, es, ep, fl.1 _ _ (ub.keep _ _ ho fC Cfr), r⟩
  have fC2 : H2 C = none := by
    obtain ⟨oC, es, ep, ho, r⟩ := hn
    exact ub.free _ _ ho fC
  show wpAny (model X.prog X.w) X.A (noteFrame (.ref a) ce) _ _ s''
  rw [noteFrame_env _ hcf]
  have fl' : HandSPX.FlyingZ B (X.env :: X.outer) a (L2N.Zn cls d) s''.heap := by rw [← hst]; exact fl
  refine PXN.looks_onZ L2N.Zn.steady hfr hf fl' fun h1 hh1 up1 => hR _ _ ?_
  have hn1 : h1.Ns C m := hn2.upToSlots fun b o e hd => up1 b o e hd
  refine ⟨m, by rw [hC]; exact hn1, fun h2 m2 hn3 sb => ?_⟩
  rw [hC] at hn3 sb
  obtain ⟨k1, k2, k3, k4⟩ := hh1
  have hh2 : HandSPX.HeldZ (PySem.W.hideAll B [C]) (X.env :: X.outer) a (L2N.Zn cls d) X.env.locals h2 := held_less hn1 hn3 sb k1 k2 k3 k4
  obtain ⟨q1, q2, q3, oe, vs, T, oT, ts, he, hz, hd, h1', hr⟩ := id hh2
  unfold PySem.passOn
  refine wpAny_bind (wpAny_field he hd h1' ?_)
  rw [if_neg (show ¬ ((Value.ref T == Value.none) = true) from by simp)]
  rw [hcf, hf]
  have fin : wpAny (model X.prog X.w) X.A (setFlight (.ref a) (some X.env.locals)) (fun _ s4 => wpAny (model X.prog X.w) X.A (throw (.ref a) : Sem Value) (fun _ _ => False) X.xe s4) X.xe { s'' with heap := h2 } := by
    refine HandSPX.setFlight_onZ hh2 fun h4 hh4 up4 => wpAny_throw (tk _ _ ?_)
    obtain ⟨G, g1, g2⟩ := restrict h4 fun b => ((PySem.W.hideAll B [C]).get? b).isSome || decide (b ∈ frs X.stack)
    have st4 : (PySem.W.hideAll B [C]).StaysIn h4 := hh4.1
    have gB : ∀ b o, (PySem.W.hideAll B [C]).get? b = some o → G.get? b = some o := fun b o e => by
      rw [g1 b (by simp [e])]
      exact st4 b o e
    have gF : ∀ b, b ∈ frs X.stack → G.get? b = h4.get? b := fun b hb => g1 b (by simp [hb])
    have og : ∀ b o, G.get? b = some o → h4.get? b = some o ∧ (((PySem.W.hideAll B [C]).get? b).isSome = true ∨ b ∈ frs X.stack) := fun b o e => by
      cases q : (((PySem.W.hideAll B [C]).get? b).isSome || decide (b ∈ frs X.stack)) with
      | false => rw [g2 b q] at e; cases e
      | true =>
        rw [g1 b q] at e
        exact ⟨e, by simpa [Bool.or_eq_true] using q⟩
    have toB : ∀ b o, b ≠ C → B.get? b = some o → (PySem.W.hideAll B [C]).get? b = some o := fun b o hb e => PySem.W.hideAll_get _ e (by simpa using hb)
    have slots : ∀ b o, s3.heap.get? b = some o → H3 b = none → b ∈ frs X.stack → b ∉ fp → ∃ sl, G.get? b = some { o with slots := sl } := fun b o e n hb hx => by
      obtain ⟨o', e', hnf⟩ := frlt b hb
      rw [e] at e'; cases e'
      obtain ⟨sl1, e1⟩ := base.slot b o e n hb hx
      obtain ⟨sl2, e2⟩ := ub.slot b _ e1 hb
      obtain ⟨sl3, e3⟩ := up1 b _ e2 hnf
      have e4 := (sb.2 b (neC b o e)).trans e3
      obtain ⟨sl5, e5⟩ := up4 b _ e4 hnf
      exact ⟨sl5, by rw [gF b hb]; exact e5⟩
    refine ⟨a, PySem.W.hideAll B [C], { s3 with heap := G, gens := s''.gens, drawn := s''.drawn, toks := s''.toks }, pins, σ, H2, cls, d, rfl, ?_, fun b o e hb => ?_, Heap.UpToSlots.of_keeps fun b o e => (og b o e).1, .inr (.inr (by rw [hst]; exact hh4)), na, ?_, ag, hE⟩
    · refine I3.call (ch := fp) ⟨fun b o e n hb hx => ?_, fun b o e n hb hx => slots b o e n hb hx, fun b o e n hx => ?_, fun b o e hx => ?_, fun b xs e => ub.tups b xs (base.tups b xs e), fun b o u e => ub.frzs b o u (base.frzs b o u e), fun b ps e => ?_⟩ ?_ ag
        fun b hb => ⟨(f3 b hb).1.2.2.2.1, (f3 b hb).1.2.1, (f3 b hb).1.2.2.2.2.1, (f3 b hb).1.2.2.2.2.2⟩
      · exact gB b o (toB b o (neC b o e) (ub.keep b o (base.keep b o e n hb hx) (base.free b o e n hx) hb))
      · obtain ⟨o1, e1⟩ := base.there b o e hx
        exact ub.free b o1 e1 (base.free b o e n hx)
      · by_cases hb : b ∈ frs X.stack
        · obtain ⟨sl, q⟩ := slots b o e (I3.stkFree b hb) hb hx
          exact ⟨_, q⟩
        · obtain ⟨o1, e1⟩ := base.there b o e hx
          obtain ⟨o2, e2⟩ := ub.there b o1 e1 hb
          exact ⟨o2, gB b o2 (toB b o2 (neC b o e) e2)⟩
      · obtain ⟨m1, q1⟩ := base.tbls b ps e
        obtain ⟨m2, q2⟩ := ub.tbls b _ q1
        exact ⟨m1 ++ m2, by rw [q2, Array.append_assoc]⟩
      · intro b u q
        have hb : b ≠ C := fun z => by rw [z, fC2] at q; cases q
        refine (hok b u q).stay (fun c v hc r => gB c v (toB c v ?_ r)) (fun _ r => r) fun _ _ r => r
        rcases hc with z | z
        · rw [z]; exact hb
        · exact fun y => by rw [y, fC2] at z; cases z
    · obtain ⟨e', h⟩ := og b o e
      rcases h with h | h
      · obtain ⟨o', q⟩ := Option.isSome_iff_exists.mp h
        have z := st4 b o' q
        rw [e'] at z; cases z
        exact q
      · exact absurd h hb
    · show s''.os = s3.os
      rw [os]
      exact I'.os
  first
    | exact wpAny_bind (wpAny_pure (wpAny_bind fin))
    | exact wpAny_bind fin

/-- exceptions of callees (CX) in a comprehension's element leave it for the def's own way out (E) -/
def CompLets (X : Cx) (CX : CXT) (E : XK) (scope : Scope) : Prop := ∀ (pins : List (Addr × Obj)) (σ : L2.St) (H3 : Hp) (s3 : Shared) (fp : List Addr) (ce : Env) (R : Result → Shared → Prop), Inv X pins σ H3 s3 → ce.frame = X.env.frame → s3.heap.objs.size ≤ ce.locals →
  (∀ b ∈ fp, FpOk X pins H3 b ∧ b < s3.heap.objs.size) → (∀ e s', CompFails (model X.prog X.w) X.A X.xe ce e s' → R (.error e) s') → Passes CX ((X.blk s3 H3 scope ce fp).wish (notedBy (model X.prog X.w) X.A ce fun e s' => R (.error e) s')) E
theorem compLets {E : XK} {scope : Scope} (hst : X.stack = X.env :: X.outer) (hf : X.env.frame = some X.env.locals) (tk : Takes X (fun c d _ H => E c d H)) : CompLets X (L2.CX X.prog X.w) E scope :=
  fun _ _ _ _ _ _ _ I3 h1 h2 h3 h4 => comp_lets hst hf tk I3 h1 h2 h3 h4
theorem compLetsN {E : XK} {scope : Scope} (hst : X.stack = X.env :: X.outer) (hf : X.env.frame = some X.env.locals) (tk : L2N.Takes X (fun c d _ H => E c d H)) : CompLets X (L2N.CX X.prog X.w) E scope :=
  fun _ _ _ _ _ _ _ I3 h1 h2 h3 h4 => comp_letsN hst hf tk I3 h1 h2 h3 h4
theorem pe_lcX {CX : CXT} {E : XK} {elt tg iter : Expr} {ifs : List Expr} {scope : Scope} {own : List (Str × Nat)} {pos : Pos} {wi : TI} {g : TG} {tt : TT} {te : TE}
    (cl : CompLets X CX E scope) (hc : X.calm = true) (hN : X.N.Nodup) (hi : PI X tg iter wi) (ok : BlkOk X.N X.env.scope scope own)
    (hg : ∀ (s : Shared) (H : Hp) (C : Addr) (cl : List (Str × Addr)) (fp : List Addr) (xe : Value → Shared → Prop), PG ((X.blk s H scope (compEnvC scope cl C X.env) fp).wish xe) tg g)
    (ht : ∀ (s : Shared) (H : Hp) (C : Addr) (cl : List (Str × Addr)) (fp : List Addr) (xe : Value → Shared → Prop), PTs ((X.blk s H scope (compEnvC scope cl C X.env) fp).wish xe) ifs tt)
    (he : ∀ (s : Shared) (H : Hp) (C : Addr) (cl : List (Str × Addr)) (fp : List Addr) (xe : Value → Shared → Prop), Passes CX ((X.blk s H scope (compEnvC scope cl C X.env) fp).wish xe) E → PE ((X.blk s H scope (compEnvC scope cl C X.env) fp).wish xe) elt te)
    (hs : ∀ x, foldedSetIterable iter X.env x = pure x := by intro _; rfl) :
    PE X (.ListComp elt [⟨tg, iter, ifs, 0⟩] scope pos) (tLc wi g tt te (own.map (·.2))) := by
  refine ⟨fun pins s σ H Q I h => ?_⟩
  rw [eval_ListComp]
  have hfree : ∀ y ∈ scope.names, y.2 = .free → ∃ c, X.env.cells.lookup y.1 = some c := fun y hy e => by
    rcases ok.free y hy e with k | k
    · exact I.ok.has _ (.inl k)
    · exact I.ok.has _ (.inr k)
  refine comprehension_at (use := none) rfl hs (closure_ok hfree) ok.kind (fun y hy e => by rw [ok.uniq y hy, e])
    (thn (hi.run pins s σ H _ I h) fun xv s1 hx => thn hx fun itv s2 h2 => ?_)
  obtain ⟨it, fp, tn, J, H2, e, I2, T, st2, f2, q⟩ := h2
  subst e
  refine wpAny_newObj_type (newEnv_comp ?_) (by show 0 ≤ sizeLine; decide)
  generalize hD : s2.heap.objs.size = D
  have hDn : H2 D = none := I2.hok.fresh (Nat.le_of_eq hD)
  obtain ⟨W, ⟨m0, w0⟩, turn⟩ := q D hDn
  generalize hs3 : ({ s2 with heap := s2.heap.push { cls := .type "list", data := .seq ([] : List Value).toArray } } : Shared) = s3
  have I3 : Inv X pins σ (upd H2 D (.lst [])) s3 := by
    rw [← hs3]
    refine I2.laid (t' := s2.toks) (fun b o e => Heap.get?_push_of_some _ e) (Nat.le_of_eq hD) ⟨Nat.zero_le _, [], 0, .nil, ?_⟩
    rw [← hD]
    exact Heap.get?_push_size _ rfl
  have h3 : s3.heap = s2.heap.push { cls := .type "list", data := .seq ([] : List Value).toArray } := by rw [← hs3]
  have sz : ∀ b ∈ fp, b < s2.heap.objs.size := fun b hb => by
    obtain ⟨o, e, _⟩ := T.obj _ _ st2 b hb
    exact Heap.lt_size e
  have f3 : ∀ b ∈ fp, FpOk X pins (upd H2 D (.lst [])) b ∧ b < s3.heap.objs.size := fun b hb => by
    have hlt := sz b hb
    refine ⟨⟨?_, (f2 b hb).2⟩, by rw [h3, Heap.size_push]; exact Nat.lt_succ_of_lt hlt⟩
    rw [upd_ne (by rw [← hD]; exact Nat.ne_of_lt hlt)]
    exact (f2 b hb).1
  have st3 : tn 0 s3.heap := T.keep _ _ _ st2 fun b _ o e => by rw [h3]; exact Heap.get?_push_of_some _ e
  have I4 := block_start I3 ok hN f3
  have pg := hg s3 (upd H2 D (.lst [])) s3.heap.objs.size (cellsFrom (s3.heap.objs.size + 1) scope.names (cloFrom X.env.cells scope.names [])) fp
  have pt := ht s3 (upd H2 D (.lst [])) s3.heap.objs.size (cellsFrom (s3.heap.objs.size + 1) scope.names (cloFrom X.env.cells scope.names [])) fp
  have pe := he s3 (upd H2 D (.lst [])) s3.heap.objs.size (cellsFrom (s3.heap.objs.size + 1) scope.names (cloFrom X.env.cells scope.names [])) fp
  show codeAny _ _ (.compStart (.ListComp elt [⟨tg, iter, ifs, 0⟩] scope pos) 0 (.ref it) (.ref D) (compEnvC scope (cellsFrom (s3.heap.objs.size + 1) scope.names (cloFrom X.env.cells scope.names [])) s3.heap.objs.size X.env)) (compEnds (model X.prog X.w) X.A X.xe none (EP X pins σ Q) (.ref D) (compEnvC scope (cellsFrom (s3.heap.objs.size + 1) scope.names (cloFrom X.env.cells scope.names [])) s3.heap.objs.size X.env)) { s3 with heap := pushCells (s3.heap.push { cls := .type "dict", data := .dict #[] }) scope.names }
  have nfp : ∀ b ∈ fp, (upd H2 D (.lst [])) b = none := fun b hb => (f3 b hb).1.1
  generalize hce : compEnvC scope (cellsFrom (s3.heap.objs.size + 1) scope.names (cloFrom X.env.cells scope.names [])) s3.heap.objs.size X.env = ce at I4 pg pt pe ⊢
  have cL : ce.locals = s3.heap.objs.size := by subst hce; rfl
  have cF : ce.frame = X.env.frame := by subst hce; rfl
  generalize hH3 : upd H2 D (.lst []) = H3 at I3 I4 pg pt pe w0 nfp f3
  generalize hs4 : ({ s3 with heap := pushCells (s3.heap.push { cls := .type "dict", data := .dict #[] }) scope.names } : Shared) = s4 at I4 ⊢
  have st4 : tn 0 s4.heap := T.keep _ _ _ st3 fun b _ o e => by rw [← hs4]; exact pushCells_keeps _ _ _ _ (Heap.get?_push_of_some _ e)
  generalize hRR : compEnds (model X.prog X.w) X.A X.xe none (EP X pins σ Q) (.ref D) ce = R
  have lets : Passes CX ((X.blk s3 H3 scope ce fp).wish (notedBy (model X.prog X.w) X.A ce fun e s' => R (.error e) s')) E :=
    cl _ _ _ _ _ _ R I3 cF (by rw [cL]; exact Nat.le_refl _) f3 fun e s' z => by rw [← hRR]; exact z
  generalize hxe : (notedBy (model X.prog X.w) X.A ce fun e s' => R (.error e) s') = xe at lets
  have pe1 := pe xe lets
  have pg1 := pg xe
  have pt1 := pt xe
  have I4' := I4.wish xe
  have stat : ∀ {σ' : L2.St} {H' : Hp} {s' : Shared}, Inv ((X.blk s3 H3 scope ce fp).wish xe) [] σ' H' s' → (∀ b ∈ fp, H' b = none) → ∀ b ∈ fp, FpOk ((X.blk s3 H3 scope ce fp).wish xe) [] H' b := fun {σ' H' s'} I' hn b hb =>
    ⟨hn b hb, (I'.ok.exf b hb).1, I'.ok.exfs b hb, .inl hb, fun x c e => (I'.ok.exf b hb).2 x c e, fun p hp => absurd (show p ∈ ([] : List (Addr × Obj)) ++ [] from hp) (by simp)⟩
  have loop : codeAny (model X.prog X.w) X.A (.compLoop (.ListComp elt [⟨tg, iter, ifs, 0⟩] scope pos) 0 (.ref it) (.ref D) ce) R s4 := by
    refine compLoop_any (fun n s' => ∃ i H', Inv ((X.blk s3 H3 scope ce fp).wish xe) [] (wipe σ (own.map (·.2))) H' s' ∧ tn i s'.heap ∧ (∀ b ∈ fp, H' b = none) ∧ W i n H') ?_ m0 ⟨0, H3, I4', st4, nfp, w0⟩
    rw [hxe]
    rintro n s5 ⟨i, H5, I5, st5, n5, w5⟩
    rcases turn i n H5 w5 with ⟨stop, qq⟩ | ⟨go, Nx, hNx, step⟩
    · have td := T.done ((X.blk s3 H3 scope ce fp).wish xe) rfl rfl rfl hc i [] s5 _ H5 xe I5 (stat I5 n5) st5 stop
      refine thn td fun r s6 ⟨hr, I6⟩ => ?_
      subst hr
      have I7 : Inv X pins σ H5 s6 := I3.call' (ch := fp) I6.os I6.base I6.hok I6.bare fun b hb => ⟨(f3 b hb).1.2.2.2.1, (f3 b hb).1.2.1, (f3 b hb).1.2.2.2.2.1, (f3 b hb).1.2.2.2.2.2⟩
      have nC : H5 s3.heap.objs.size = none := by
        have z : H5 ce.locals = none := I6.free
        rw [cL] at z
        exact z
      obtain ⟨m, hn, _⟩ := I6.loc
      have hn : s6.heap.Ns ce.locals m := hn
      show R (.ok .next) s6
      rw [← hRR]
      refine ⟨m, hn, fun h'' sb => ?_⟩
      rw [cL] at sb
      obtain ⟨f0, f1, f2, f3, f4, f5⟩ := I3.fpOk (H' := H5) (Nat.le_refl _) nC
      exact ⟨.ref D, H5, I7.turned (t' := s6.toks) (fun b o hb e => (sb.2 b hb).trans e) f0 f1 f3 f4 f5, rfl, qq⟩
    · have ti := T.item ((X.blk s3 H3 scope ce fp).wish xe) rfl rfl rfl hc i [] s5 _ H5 xe I5 (stat I5 n5) st5 go
      refine thn ti fun r s6 ⟨u, hr, h6⟩ => ?_
      subst hr
      refine thn h6 fun _ s7 ⟨x, H7, I7, r7, y7, st7, n7⟩ => ?_
      have I7' := I7.pinned (stat I7 n7) (T.obj _ _ st7)
      refine thn (pg1.run _ s7 _ H7 x u _ I7' r7 (step x H7 y7)) fun _ s8 ⟨σ8, H8, I8, hw8, q8⟩ => ?_
      refine thn (pt1.run _ s8 σ8 H8 _ I8 q8) fun b s9 ⟨H9, I9, q9⟩ => ?_
      have fin : ∀ {s' : Shared} {H' : Hp}, Inv ((X.blk s3 H3 scope ce fp).wish xe) ([] ++ pinsAt fp s7.heap) σ8 H' s' → Nx H' → ∃ m, m < n ∧ ∃ i H', Inv ((X.blk s3 H3 scope ce fp).wish xe) [] (wipe σ (own.map (·.2))) H' s' ∧ tn i s'.heap ∧ (∀ b ∈ fp, H' b = none) ∧ W i m H' := fun {s' H'} I' nx => by
        obtain ⟨m', hm, w'⟩ := hNx H' nx
        have pin' : ∀ b ∈ fp, ∀ o, s7.heap.get? b = some o → s'.heap.get? b = some o ∧ H' b = none := fun b hb o e =>
          let z := I'.pin (b, o) (List.mem_append_right _ (List.mem_append_right _ (mem_pinsAt hb e)))
          ⟨z.1, z.2.1⟩
        have hl : (wipe σ (own.map (·.2))).length = σ8.length := by rw [← hw8, wipe_length]
        refine ⟨m', hm, i + 1, H', (I'.unpinned (pins := [])).weak hl (fun j v e => ?_), T.keep _ _ _ st7 fun b hb o e => (pin' b hb o e).1, fun b hb => ?_, w'⟩
        · rw [← hw8] at e
          exact (wipe_some e).1
        · obtain ⟨o, e, _⟩ := T.obj _ _ st7 b hb
          exact (pin' b hb o e).2
      cases b with
      | false =>
        simp only [Bool.false_eq_true, if_false] at q9 ⊢
        exact fin I9 q9
      | true =>
        simp only [if_true] at q9 ⊢
        refine thn (pe1.run _ s9 σ8 H9 _ I9 q9) fun z s10 ⟨yv, H10, I10, r10, acc, hD10, hz10, nx⟩ => ?_
        exact app_ok (X := (X.blk s3 H3 scope ce fp).wish xe) I10 hD10 hz10 r10 fun s11 I11 => fin I11 nx
  exact codeAny_compStart_list loop (T.self X.A 0 _ _ _ st4 loop)
end
end Gh
set_option Elab.async false
set_option linter.all false
set_option maxRecDepth 100000
set_option maxHeartbeats 4000000
/-! Rules that the hand layer lacks: max with default=, len(set(ints)) of any ints, a comprehension over a range with a step. -/
namespace Gh
open PySem PySem.Spec PyProof.Rows L2

theorem maxOf_mem (x : Int) : ∀ xs : List Int, PySem.W.maxOf x xs ∈ x :: xs ∧ ∀ y ∈ x :: xs, y ≤ PySem.W.maxOf x xs
  | [] => ⟨by simp [PySem.W.maxOf], fun y hy => by
    have e : y = x := by simpa using hy
    rw [e]; exact Int.le_refl _⟩
  | z :: zs => by
    have step : PySem.W.maxOf x (z :: zs) = PySem.W.maxOf (if x < z then z else x) zs := by
      unfold PySem.W.maxOf
      rw [List.foldl_cons]
      congr 1
      show (if decide (x < z) = true then z else x) = _
      simp
    obtain ⟨h1, h2⟩ := maxOf_mem (if x < z then z else x) zs
    rw [step]
    constructor
    · rcases List.mem_cons.mp h1 with e | e
      · rw [e]
        split <;> simp
      · exact List.mem_cons_of_mem _ (List.mem_cons_of_mem _ e)
    · intro y hy
      have h0 := h2 _ List.mem_cons_self
      rcases List.mem_cons.mp hy with e | hy
      · refine Int.le_trans ?_ h0
        rw [e]
        split <;> omega
      · rcases List.mem_cons.mp hy with e | hy
        · refine Int.le_trans ?_ h0
          rw [e]
          split <;> omega
        · exact h2 y (List.mem_cons_of_mem _ hy)

section
variable {X : Cx}
/-- max(xs, default=d) of whole numbers -/
def rMaxDef (K : PySem.W.Frag) : List V → List V → Hp → VK → Prop := fun vs zs H Q => ∃ (a : Addr) (ns : List Int) (d : Int), vs = [V.ref a] ∧ zs = [V.int d] ∧ SqL K H a (ns.map V.int) ∧
  ∀ m : Int, (ns = [] → m = d) → (ns ≠ [] → m ∈ ns ∧ ∀ y ∈ ns, y ≤ m) → Q (.int m) H
theorem cr_maxDef (hc : X.calm = true) (hu : X.A.units + 64 < cLine) : CallRK X (.builtin "max") [Str.ofString "default"] (rMaxDef X.K) := by
  intro pins s σ H vs zs us ws Q I r rz h
  obtain ⟨a, ns, d, rfl, rfl, hs, q⟩ := h
  obtain rfl := Vals.ref1 r
  obtain ⟨w1, rfl, e1⟩ := vals1 rz
  obtain ⟨td, rfl⟩ := e1
  obtain ⟨its, rv, hl, hz⟩ := I.list hs
  refine PySem.W.max_list_datum_default (α := Int) (I.ok.hd hc) hl.isList (by simpa using PySem.W.HoldAll.of_ints rv.ints) (by show X.A.units + 1 + 0 < cLine; omega) ?_ ?_
  · intro e h' tk hk
    exact ⟨.int d, H, I.kept hk, ⟨_, rfl⟩, q d (fun _ => rfl) fun z => absurd e z⟩
  · intro y ys i v h' tk e hi hv hk
    obtain ⟨as, rd⟩ := hv
    have rd' : Reads h' v (.int (PySem.W.maxOf y ys)) as := rd
    have ⟨t, ev⟩ : ∃ t, v = .int (PySem.W.maxOf y ys) t := by
      cases rd'
      exact ⟨_, rfl⟩
    subst ev
    refine ⟨.int _, H, I.kept hk, ⟨_, rfl⟩, q _ (fun z => by rw [e] at z; cases z) fun _ => ?_⟩
    rw [e]
    exact maxOf_mem y ys

/-- the different ones of some whole numbers, each where it is met first -/
def diffs (ns : List Int) : List Int := PyProof.Rows.firstMet (fun i => ns.getD i 0) ns.length
def tLenSet (K : PySem.W.Frag) (ta : TE) : TE := fun σ H Q => ta σ H fun x H1 => ∃ (l : Addr) (ns : List Int), x = .ref l ∧ SqL K H1 l (ns.map V.int) ∧ ns.length ≤ 4000 ∧ Q (.int ((diffs ns).length : Nat)) H1
theorem pe_lenSetG {a : Expr} {ta : TE} {p p2 q pos : Pos} (hg : Gl X "len") (hm : X.mg "len" = none) (hg2 : Gl X "set") (hm2 : X.mg "set" = none) (ha : PE X a ta) (hc : X.calm = true := by rfl)
    (na : starEach [a] X.env = (false, eval a X.env) :: starEach [] X.env := by rfl) : PE X (.Call (.Name "len" p) [.Call (.Name "set" p2) [a] [] q] [] pos) (Gh.tLenSet X.K ta) := by
  refine ⟨fun pins s σ H Q I h => ?_⟩
  refine Call_ (ld_blt I hg hm boot_len ?_)
  refine PyProof.Rows.callWith_builtin1 (PyProof.Rows.args_cons ?_ rfl) rfl rfl
  refine Call_ (ld_blt I hg2 hm2 boot_set ?_)
  refine PyProof.Rows.callWith_type1 (PyProof.Rows.args_cons (thn (ha.run pins s σ H _ I h) fun v s1 ⟨x, H1, I1, r1, q1⟩ => PyProof.Rows.args_nil ?_) na) na rfl
  obtain ⟨l, ns, rfl, hq, hl, q1⟩ := q1
  cases r1
  obtain ⟨its, r, pl, hz⟩ := I1.list hq
  have hlen : its.toArray.size = ns.length := by rw [List.size_toArray, ← r.length, List.length_map]
  refine call_set_list (ns := ns) (I1.ok.hd hc) pl.isList (by simpa using r.ints) (by rw [hlen]; unfold scanBound; omega) fun h' tk hS hk => ?_
  refine PyProof.Rows.args_nil ?_
  rw [hlen] at hS
  obtain ⟨o, es, ep, t, ho, hex, hd, _, _, _, hf, hn⟩ := hS
  have I2 : Inv X pins σ H1 { s1 with heap := h', toks := tk } := I1.kept fun b o e => hk b o (Heap.lt_size e) e
  have hle : (diffs ns).length ≤ ns.length := PyProof.Rows.firstMet_length_le _ _
  have hn' : es.size = (diffs ns).length := hn
  exact call_len_set ho hex hd hf (by rw [hn'] <;> omega) ⟨.int ((diffs ns).length : Nat), H1, I2.tok _, ⟨_, by rw [hn']⟩, q1⟩
end

/-- a comprehension over a range with a step -/
theorem lc_rangeC {lo c : Int} {n : Nat} {g : TG} {tt : TT} {te : TE} {vs : List Nat} {σ : L2.St} {H1 : Hp} {D : Addr} {Qd : Hp → Prop} (Pv : Nat → Hp → Prop) (h0 : Pv 0 (upd H1 D (.lst [])))
    (hs : ∀ i H, i < n → Pv i H → g (.int (lo + (i : Nat) * c)) (wipe σ vs) H fun σ2 H2 => wipe σ2 vs = wipe σ vs ∧ tt σ2 H2 fun b H3 =>
      if b = true then te σ2 H3 fun y H4 => ∃ acc, H4 D = some (.lst acc) ∧ acc.length < sizeLine ∧ Pv (i + 1) (upd H4 D (.lst (acc ++ [y]))) else Pv (i + 1) H3) (hd : ∀ H, Pv n H → Qd H) :
    ∃ W : Nat → Nat → Hp → Prop, (∃ m, W 0 m (upd H1 D (.lst []))) ∧ ∀ i m H, W i m H →
      ((Itc lo c n).stop i H ∧ Qd H) ∨ ((Itc lo c n).go i H ∧ ∃ Nx : Hp → Prop, (∀ H', Nx H' → ∃ m', m' < m ∧ W (i + 1) m' H') ∧ ∀ x H', (Itc lo c n).yld i H x H' → g x (wipe σ vs) H' fun σ2 H2 => wipe σ2 vs = wipe σ vs ∧ tt σ2 H2 fun b H3 =>
        if b = true then te σ2 H3 fun y H4 => ∃ acc, H4 D = some (.lst acc) ∧ acc.length < sizeLine ∧ Nx (upd H4 D (.lst (acc ++ [y]))) else Nx H3) := by
  refine ⟨fun i m H => m = n - i ∧ i ≤ n ∧ Pv i H, ⟨n, by simp, Nat.zero_le _, h0⟩, ?_⟩
  rintro i m H ⟨rfl, hi, p⟩
  by_cases hlt : i < n
  · refine .inr ⟨hlt, Pv (i + 1), fun H' p' => ⟨n - (i + 1), by omega, rfl, hlt, p'⟩, fun x H' y => ?_⟩
    obtain ⟨e, y⟩ := y
    subst e y
    exact hs i _ hlt p
  · have e : i = n := by omega
    subst e
    exact .inl ⟨Nat.le_refl _, hd H p⟩
end Gh
set_option Elab.async false
set_option linter.all false
set_option maxRecDepth 100000
set_option maxHeartbeats 4000000
/-! try: .. except X as n: raise Y(..) from n -/
namespace Gh
open PySem PySem.Spec PyProof.Rows L2 HotX
/-- the heap behind «from n»: field 3 is the cause, field 4 is True -/
def causeFrom (h : Heap) (a : Addr) (x : Value) : Heap := (h.update a (Obj.mapFields (·.setIfInBounds 3 x))).update a (Obj.mapFields (·.setIfInBounds 4 (.bool true)))
theorem causeFrom_at {h : Heap} {a : Addr} {x : Value} {oe : Obj} {vs : Array Value} (ha : h.get? a = some oe) (hd : oe.data = .fields vs) :
    (causeFrom h a x).get? a = some ((oe.mapFields (·.setIfInBounds 3 x)).mapFields (·.setIfInBounds 4 (.bool true))) ∧ ((oe.mapFields (·.setIfInBounds 3 x)).mapFields (·.setIfInBounds 4 (.bool true))).data = .fields ((vs.setIfInBounds 3 x).setIfInBounds 4 (.bool true)) := by
  have hd3 := Obj.data_mapFields hd (·.setIfInBounds 3 x)
  have ha3 := Heap.get?_update_self (Obj.mapFields (·.setIfInBounds 3 x)) ha (Obj.isFreed_of_fields hd3)
  have hd4 := Obj.data_mapFields hd3 (·.setIfInBounds 4 (.bool true))
  exact ⟨Heap.get?_update_self (Obj.mapFields (·.setIfInBounds 4 (.bool true))) ha3 (Obj.isFreed_of_fields hd4), hd4⟩
theorem causeFrom_other {h : Heap} {a b : Addr} {x : Value} (hne : a ≠ b) : (causeFrom h a x).get? b = h.get? b := by
  unfold causeFrom
  rw [Heap.get?_update_other _ _ hne, Heap.get?_update_other _ _ hne]
theorem raise_made_hotC {prog : Program} {w : World} {A : Around} {E : Value → Shared → Prop} {env : Env} {s : Shared} {x c : Sem Value} {Q : Flow → Shared → Prop} {x1 : Addr}
    (h : wpAny (model prog w) A x (fun v s₁ => ∃ a oe vs cls, v = .ref a ∧ s₁.heap.get? a = some oe ∧ oe.cls = cls ∧ oe.data = .fields vs ∧ vs[1]? = some .none ∧ 4 < vs.size ∧ x1 ≠ a ∧ HotAt A x1 s₁.heap ∧
      (∀ Q' : Value → Shared → Prop, Q' (.ref x1) s₁ → wpAny (model prog w) A c Q' E s₁) ∧ PySem.W.Looks (model prog w) s₁.heap (isInstance (.ref x1) (.type "BaseException")) true ∧
      PySem.W.Looks (model prog w) s₁.heap (isSubtype cls (.type "BaseException")) true ∧ PySem.W.Looks (model prog w) (causeFrom s₁.heap a (.ref x1)) (typeOf cls) (.type "type") ∧
      E (.ref a) { s₁ with heap := (causeFrom s₁.heap a (.ref x1)).update a (Obj.mapFields (·.setIfInBounds 2 (.ref x1))) }) E s) :
    wpAny (model prog w) A (raiseStmt env (some x) (some c)) Q E s := by
  unfold raiseStmt
  dsimp only
  refine wpAny_bind (wpAny_mono h (fun v s₁ h₁ => ?_) fun _ _ x => x)
  obtain ⟨a, oe, vs, cls, rfl, ha, hcls, hd, h1, hi, hne, hot, hcs, L0, L1, L3, hE⟩ := h₁
  have LT : PySem.W.Looks (model prog w) s₁.heap (typeOf (.ref a)) cls := fun A Q E s k q => wpAny_typeOf_ref (k _ _ ha) (by rw [hcls]; exact q)
  have LI : PySem.W.Looks (model prog w) s₁.heap (isInstance (.ref a) (.type "BaseException")) true := LT.andThen L1
  have hnt : ∀ {Q' : Bool → Shared → Prop}, Q' false s₁ → wpAny (model prog w) A (isType (.ref a)) Q' E s₁ := by
    intro Q' hq
    simp only [isType, loadHead]
    refine wpAny_bind (wpAny_loadPart ha ?_)
    rw [hd]; exact wpAny_pure hq
  have hnt1 : ∀ {Q' : Bool → Shared → Prop}, Q' false s₁ → wpAny (model prog w) A (isType (.ref x1)) Q' E s₁ := by
    intro Q' hq
    obtain ⟨_, o1, vs1, q2, q3, _⟩ := hot
    simp only [isType, loadHead]
    refine wpAny_bind (wpAny_loadPart q2 ?_)
    rw [q3]; exact wpAny_pure hq
  have hd3 := Obj.data_mapFields hd (·.setIfInBounds 3 (Value.ref x1))
  have ha3 := Heap.get?_update_self (Obj.mapFields (·.setIfInBounds 3 (Value.ref x1))) ha (Obj.isFreed_of_fields hd3)
  obtain ⟨ha4, hd4⟩ := causeFrom_at (x := .ref x1) ha hd
  have s3 : 3 < vs.size := by omega
  have s4 : 4 < (vs.setIfInBounds 3 (Value.ref x1)).size := by rw [set_size]; exact hi
  have s2 : 2 < ((vs.setIfInBounds 3 (Value.ref x1)).setIfInBounds 4 (Value.bool true)).size := by rw [set_size, set_size]; omega
  have h14 : ((vs.setIfInBounds 3 (Value.ref x1)).setIfInBounds 4 (Value.bool true))[1]? = some Value.none := set_other (by decide) (set_other (by decide) h1)
  have hcls4 : ((oe.mapFields (·.setIfInBounds 3 (Value.ref x1))).mapFields (·.setIfInBounds 4 (.bool true))).cls = cls := by rw [Obj.cls_mapFields, Obj.cls_mapFields]; exact hcls
  have LT4 : PySem.W.Looks (model prog w) (causeFrom s₁.heap a (.ref x1)) (typeOf (.ref a)) cls := fun A Q E s k q => wpAny_typeOf_ref (k _ _ ha4) (by rw [hcls4]; exact q)
  have hnt4 : ∀ {Q' : Bool → Shared → Prop}, Q' false { s₁ with heap := causeFrom s₁.heap a (.ref x1) } → wpAny (model prog w) A (isType (.ref a)) Q' E { s₁ with heap := causeFrom s₁.heap a (.ref x1) } := by
    intro Q' hq
    simp only [isType, loadHead]
    refine wpAny_bind (wpAny_loadPart ha4 ?_)
    rw [hd4]; exact wpAny_pure hq
  have hot4 : HotAt A x1 (causeFrom s₁.heap a (.ref x1)) := by
    obtain ⟨q1, o, vs', q2, q3, q4⟩ := hot
    exact ⟨q1, o, vs', by rw [causeFrom_other (Ne.symm hne)]; exact q2, q3, q4⟩
  have rest : wpAny (model prog w) A (do
      let b ← isType (.ref a)
      if b = true then do
        let e ← holding [.ref a] (raisedFor (.ref a) (.ref a))
        setFlight e none
        raiseNew e
      else do
        let e ← raisedInstance (.ref a)
        setFlight e none
        raiseNew e : Sem Flow) Q E { s₁ with heap := causeFrom s₁.heap a (.ref x1) } := by
    refine wpAny_bind (hnt4 ?_)
    simp only [Bool.false_eq_true, if_false]
    unfold raisedInstance
    refine wpAny_bind (wpAny_bind (LT4.here (wpAny_bind (L3.here ?_))))
    rw [if_pos (beq_self_eq_true _)]
    refine wpAny_pure ?_
    unfold setFlight
    refine wpAny_bind (wpAny_bind (wpAny_field ha4 hd4 h14 ?_))
    rw [if_neg (by decide)]
    refine wpAny_pure ?_
    exact raiseNew_hot hot4 hne ha4 hd4 s2 hE
  refine wpAny_bind (wpAny_holding (hcs _ (wpAny_bind (wpAny_pure ?_))))
  dsimp only
  refine wpAny_bind (wpAny_holding ?_)
  unfold excFromValue isExcClass
  refine wpAny_bind (wpAny_bind (hnt ?_))
  simp only [Bool.false_eq_true, if_false]
  refine wpAny_pure ?_
  simp only [Bool.false_eq_true, if_false]
  refine wpAny_bind (LI.here ?_)
  simp only [if_true]
  refine wpAny_pure ?_
  rw [if_neg (show ¬ (Value.ref x1 == Value.none) = true from by simp)]
  refine wpAny_bind (wpAny_holding (wpAny_bind (wpAny_bind (hnt1 ?_))))
  simp only [Bool.false_eq_true, if_false]
  refine wpAny_pure ?_
  simp only [Bool.false_eq_true, if_false]
  refine wpAny_bind (L0.here ?_)
  simp only [if_true]
  refine wpAny_pure ?_
  refine wpAny_bind (wpAny_setField ha hd s3 (wpAny_bind (wpAny_setField ha3 hd3 s4 ?_)))
  exact rest
/-- raise X(..) from n, in an except suite whose exception the slot i holds; the exception's class stands under BaseException -/
theorem ps_raiseHC {X : Cx} {W : WX} {e : Expr} {t : L2.St → Hp → XK → Prop} {i : Nat} {n : Str} {cls1 : Value} {d1 : Option Addr} {a1 : Addr} {oe1 : Obj} {cpos pos : Pos} (hh : X.A.handled = some (.ref a1)) (hp : (a1, oe1) ∈ X.pn) (hv1 : ∃ vs, oe1.data = .fields vs) (hz1 : L2N.Zn cls1 d1 oe1)
    (hN : X.N[i]? = some n) (hl : X.env.kindOf n = some .local) (tk : L2.Takes X W) (he : L2H.PMk5 X e t) (hdb : (n == ("__debug__" : Str)) = false := by decide) :
    PS X (.Raise (some e) (some (.Name n cpos)) pos) (fun _ σ H => σ[i]? = some (some (.ref a1)) ∧ PySem.W.subIn X.K cls1 (.type "BaseException") = some true ∧ t σ H fun cls d H' => W cls d σ H') := by
  refine ⟨fun pins s σ H D I h => ?_⟩
  obtain ⟨hsl, hsub, h⟩ := h
  obtain ⟨v1, e1⟩ := hv1
  have c1 : v1[2]? = some .none := hz1.2.2 v1 e1
  show wpAny _ _ (do standAt pos; raiseStmt X.env (some (do let v ← eval e X.env; standAt pos; pure v)) (some (do let v ← eval (.Name n cpos) X.env; standAt pos; pure v))) _ _ _
  refine wpAny_bind (wpAny_standAt (raise_made_hotC (x1 := a1) (wpAny_bind (wpAny_mono (he pins s σ H _ I h) (fun u s1 hu => wpAny_bind (wpAny_standAt (wpAny_pure ?_))) fun _ _ x => x))))
  obtain ⟨⟨a, oe, vs, sI, H', cls, d, rfl, J, k, hne, ha, hz, hd, h1, na, os, ag, r, q⟩, h5⟩ := hu
  have hi : 4 < vs.size := h5 a oe vs rfl ha hd
  have P1 := (J.pin (a1, oe1) (List.mem_append_left _ hp)).1
  have nap : a1 ≠ a := fun z => by
    rw [← z, P1] at hne
    cases hne
  have k4 : ∀ b u, sI.heap.get? b = some u → (causeFrom s1.heap a (.ref a1)).get? b = some u := fun b u z => by
    have nab : a ≠ b := fun y => by
      rw [← y, hne] at z
      cases z
    rw [causeFrom_other nab]
    exact k b u z
  obtain ⟨r1, _⟩ := r (model X.prog X.w) s1.heap (J.kIn.keeps k)
  obtain ⟨_, r2⟩ := r (model X.prog X.w) (causeFrom s1.heap a (.ref a1)) (J.kIn.keeps k4)
  obtain ⟨ha4, hd4⟩ := causeFrom_at (x := .ref a1) ha hd
  have h12 : (((vs.setIfInBounds 3 (Value.ref a1)).setIfInBounds 4 (Value.bool true)).setIfInBounds 2 (Value.ref a1))[1]? = some Value.none := set_other (by decide) (set_other (by decide) (set_other (by decide) h1))
  have ev : ∀ Q' : Value → Shared → Prop, Q' (.ref a1) s1 → wpAny (model X.prog X.w) X.A (do let v ← eval (.Name n cpos) X.env; standAt pos; pure v) Q' X.xe s1 := fun Q' hq => by
    obtain ⟨m, hn, hlk⟩ := J.loc
    obtain ⟨u, ru, l⟩ := hlk i n (.ref a1) hN hsl (.inl hl)
    cases ru
    have hm : m n = some (.ref a1) := by
      rcases l with ⟨_, hm⟩ | ⟨hk, _⟩
      · exact hm
      · rcases hk with hk | hk <;> rw [hl] at hk <;> cases hk
    have hn1 : s1.heap.Ns X.env.locals m := hn.keeps k
    refine wpAny_bind (wpAny_Name (wpAny_loadName_local J.ok.kind hl hn1 hm ?_) hdb)
    exact wpAny_bind (wpAny_standAt (wpAny_pure hq))
  have LI1 : PySem.W.Looks (model X.prog X.w) s1.heap (isInstance (.ref a1) (.type "BaseException")) true := by
    have LT1 : PySem.W.Looks (model X.prog X.w) s1.heap (typeOf (.ref a1)) cls1 := fun A Q E s kk q => wpAny_typeOf_ref (kk _ _ (k _ _ P1)) (by rw [hz1.1]; exact q)
    exact LT1.andThen (PySem.W.looks_subIn (J.kIn.keeps k) hsub)
  refine ⟨a, oe, vs, cls, rfl, ha, hz.1, hd, h1, hi, nap, ⟨hh, oe1, v1, k _ _ P1, e1, c1⟩, ev, LI1, r1, r2, tk _ _ (XE.new J (fun b u z => ?_) hne (Heap.get?_update_self _ ha4 (Obj.isFreed_of_fields (Obj.data_mapFields hd4 _)))
    ⟨by rw [Obj.cls_mapFields, Obj.cls_mapFields, Obj.cls_mapFields]; exact hz.1, by rw [HandSPX.dict_mapFields, HandSPX.dict_mapFields, HandSPX.dict_mapFields]; exact hz.2.1⟩ (Obj.data_mapFields hd4 _) h12 na os ag q)⟩
  have nab : a ≠ b := fun y => by
    rw [← y, hne] at z
    cases z
  show ((causeFrom s1.heap a (.ref a1)).update a (Obj.mapFields (·.setIfInBounds 2 (.ref a1)))).get? b = some u
  rw [Heap.get?_update_other _ _ nab]
  exact k4 b u z

theorem pmk_own5 {X : Cx} {C : Addr} {bmB : List Value} {B newId initId : String} {x m : Str} {j : Nat} {p p2 pos : Pos} (F : ExcBaseFacts B newId initId bmB) (q : PySem.W.excIn X.K C bmB newId = true) (gC : X.mg x = some (.ref C)) (kC : PySem.W.keepIn X.K (.ref C) = true) (r : Raises X (.ref C)) (hg : Gl X x)
    (hdb : (x == ("__debug__" : Str)) = false := by decide) : L2H.PMk5 X (.Call (.Name x p) [.Constant (.str m) j p2] [] pos) (fun _ H Q => Q (.ref C) none H) := by
  intro pins s σ H Q I h
  refine wpAny_Call_Name_kw (ld_glob I hg gC ?_ hdb)
  have ha : PA X [.Constant (.str m) j p2] (tCons (tC (.str m)) tNil) := pa_cons pe_str pa_nil
  refine PySem.W.callWith_K (h₀ := X.base) I.ok.mod.kin kC (thn (ha.run pos pins s σ H (fun vs H1 => vs = [V.str m] ∧ H = H1) I ⟨rfl, rfl⟩) fun us s1 hh => ?_)
  obtain ⟨vs, H1, I1, r1, ev, eH⟩ := hh
  subst ev
  rw [← eH] at I1
  refine ⟨I1.kIn, ?_⟩
  cases r1 with
  | cons ru rn =>
    rename_i u us'
    cases rn
    show wpAny _ _ (call (.ref C) [u]) _ _ _
    obtain ⟨bm, N, nm, qn, bs, hdct, sn, sub, ab, col, dd, k0, k1, k2, k3, k5, mN, hC, hN, hni, T⟩ := exc_obj I1.kIn q
    refine wpAny_call_exc_subT F T hC hN hni (fun h' e hm => ?_) (by show 1 ≤ sizeLine; rw [sizeLine_eq]; omega)
    exact L2H.mk_of5 I1 hm r h (I1.hok.gone hm.new)

/-- held by the frame at L, the frame's own names changed -/
theorem held_names {B h h' : Heap} {l : List Env} {a L : Addr} {Z : Obj → Prop} {m m' : Str → Option Value} {fl : Value} (hL : B.get? L = none) (hn : h.Ns L m) (hn' : h'.Ns L m') (sb : Heap.SameBut L h h')
    (k1 : B.StaysIn h) (k2 : B.get? a = none) (k3 : h.FunFrames B l) (k4 : HandSPX.TracedZ h B a Z fl) :
    B.StaysIn h' ∧ B.get? a = none ∧ h'.FunFrames B l ∧ HandSPX.TracedZ h' B a Z fl := by
  have notL : ∀ b o vs, h.get? b = some o → o.data = .fields vs → b ≠ L := fun b o vs e d z => by
    obtain ⟨o', es, ep, ho, hd, _⟩ := hn
    rw [z, ho] at e; cases e
    rw [hd] at d; cases d
  refine ⟨fun b o e => ?_, k2, Heap.FunFrames.sameBut sb hn' k3, ?_⟩
  · have hb : b ≠ L := fun z => by rw [z, hL] at e; cases e
    exact (sb.2 b hb).trans (k1 b o e)
  · obtain ⟨oe, vs, T, oT, ts, e1, e2, e3, e4, e5, e6, e7, e8, e9⟩ := k4
    exact ⟨oe, vs, T, oT, ts, (sb.2 a (notL a oe vs e1 e3)).trans e1, e2, e3, e4, e5, e6, (sb.2 T (notL T oT ts e7 e8)).trans e7, e8, e9⟩

section
variable {X : Cx} {pins : List (Addr × Obj)} {σ : L2.St} {H : Hp} {sI : Shared} {B : Heap}
/-- the state without the exception, the clause's name gone -/
theorem gone_ground {i : Nat} {n : Str} {m : Str → Option Value} {v : Option Value} {h7 h8 h9 : Heap} {g : Array GenState} {dr : Drawn} {tk : Nat} (hs : X.stack = X.env :: X.outer) (hf : X.env.frame = some X.env.locals) (hN : X.N.Nodup) (hi : X.N[i]? = some n)
    (J : Inv X pins σ H sI) (nb : ∀ b o, sI.heap.get? b = some o → b ∉ frs X.stack → B.get? b = some o) (hm : sI.heap.Ns X.env.locals m)
    (hlk : ∀ (i : Nat) (x : Str) (v : V), X.N[i]? = some x → σ[i]? = some (some v) → Vis X.env.scope x → ∃ u, RelV v u ∧ Look X.env sI.heap m x u)
    (up7 : sI.heap.UpToSlots h7) (hn8 : h8.Ns X.env.locals (fun x => if x = n then v else m x)) (sb : Heap.SameBut X.env.locals h7 h8) (up9 : h8.UpToSlots h9) (st9 : B.StaysIn h9) (hg : AllBare g) :
    ∃ G : Heap, Inv X pins (σ.set i none) H { sI with heap := G, gens := g, drawn := dr, toks := tk } ∧ (∀ b o, G.get? b = some o → b ∉ frs X.stack → B.get? b = some o) ∧ ∀ b o, G.get? b = some o → h9.get? b = some o := by
  obtain ⟨G, g1, g2⟩ := restrict h9 fun b => (B.get? b).isSome || decide (b ∈ frs X.stack)
  have gB : ∀ b o, B.get? b = some o → G.get? b = some o := fun b o e => by
    rw [g1 b (by simp [e])]
    exact st9 b o e
  have gF : ∀ b, b ∈ frs X.stack → G.get? b = h9.get? b := fun b hb => g1 b (by simp [hb])
  have og : ∀ b o, G.get? b = some o → h9.get? b = some o ∧ ((B.get? b).isSome = true ∨ b ∈ frs X.stack) := fun b o e => by
    cases q : ((B.get? b).isSome || decide (b ∈ frs X.stack)) with
    | false => rw [g2 b q] at e; cases e
    | true =>
      rw [g1 b q] at e
      exact ⟨e, by simpa [Bool.or_eq_true] using q⟩
  have Lfr : X.env.locals ∈ frs X.stack := by
    rw [hs]; unfold frs; rw [List.filterMap_cons, hf]; exact List.mem_cons_self
  have frnf : ∀ b o, b ∈ frs X.stack → sI.heap.get? b = some o → ∀ vs, o.data ≠ .fields vs := fun b o hb e => by
    obtain ⟨_, o', e', hd⟩ := J.stack.mem hb
    rw [e] at e'; cases e'
    exact hd
  have slots : ∀ b o, b ∈ frs X.stack → b ≠ X.env.locals → sI.heap.get? b = some o → ∃ sl, G.get? b = some { o with slots := sl } := fun b o hb hL e => by
    have hd := frnf b o hb e
    obtain ⟨sl1, e1⟩ := up7 b o e hd
    obtain ⟨sl2, e2⟩ := up9 b _ ((sb.2 b hL).trans e1) hd
    exact ⟨sl2, by rw [gF b hb]; exact e2⟩
  have some_ : ∀ b o, b ≠ X.env.locals → sI.heap.get? b = some o → ∃ sl, G.get? b = some { o with slots := sl } := fun b o hL e => by
    by_cases hb : b ∈ frs X.stack
    · exact slots b o hb hL e
    · exact ⟨o.slots, gB b o (nb b o e hb)⟩
  have neL : ∀ b o, X.s_0.heap.get? b = some o → b ≠ X.env.locals := fun b o e => Nat.ne_of_lt (Nat.lt_of_lt_of_le (Heap.lt_size e) J.ok.above)
  have cellG : ∀ y c v, X.env.cells.lookup y = some c → sI.heap.IsCell c v → G.IsCell c v := fun y c v e z => by
    obtain ⟨oc, h1, h2⟩ := z
    obtain ⟨sl, q⟩ := some_ c oc (J.cne y c e) h1
    exact ⟨_, q, h2⟩
  have hn9 : h9.Ns X.env.locals (fun x => if x = n then v else m x) := hn8.upToSlots fun b o e hd => up9 b o e hd
  have hnG : G.Ns X.env.locals (fun x => if x = n then v else m x) := by
    obtain ⟨oL, es, ep, ho, r⟩ := hn9
    exact ⟨oL, es, ep, by rw [gF _ Lfr]; exact ho, r⟩
  refine ⟨G, ⟨J.ok, J.os, hg, ⟨fun b o e n hb hx => ?_, fun b o e n hb hx => ?_, J.base.free, fun b o e hx => ?_, J.base.tups, J.base.frzs, J.base.tbls⟩, ⟨_, hnG, fun j y v' e1 e2 e3 => ?_⟩, fun y c e => ?_, J.free, J.freeC, fun p hp => ?_, (J.inGround nb).kept gB, by simpa using J.len⟩, fun b o e hb => ?_, fun b o e => (og b o e).1⟩
  · exact gB b o (nb b o (J.base.keep b o e n hb hx) fun hm => (List.mem_cons.mp (J.stkSub b hm)).elim (neL b o e) hb)
  · obtain ⟨sl, e1⟩ := J.base.slot b o e n hb hx
    obtain ⟨sl2, e2⟩ := slots b _ (by rw [hs]; unfold frs; rw [List.filterMap_cons, hf]; exact List.mem_cons_of_mem _ hb) (neL b o e) e1
    exact ⟨sl2, e2⟩
  · obtain ⟨o', e1⟩ := J.base.there b o e hx
    obtain ⟨sl, e2⟩ := some_ b o' (neL b o e) e1
    exact ⟨_, e2⟩
  · by_cases hj : j = i
    · subst hj
      by_cases hlt : j < σ.length
      · rw [List.getElem?_set_self hlt] at e2; cases e2
      · rw [List.getElem?_eq_none (by simpa using hlt)] at e2; cases e2
    · rw [List.getElem?_set_ne (Ne.symm hj)] at e2
      obtain ⟨u', r', q⟩ := hlk j y v' e1 e2 e3
      refine ⟨u', r', ?_⟩
      rcases q with ⟨k, e⟩ | ⟨k, c, e, z⟩
      · have ny : y ≠ n := fun e => hj (nodup_ix hN e1 (e ▸ hi))
        exact .inl ⟨k, (if_neg ny).trans e⟩
      · exact .inr ⟨k, c, e, cellG y c _ e z⟩
  · obtain ⟨w', z⟩ := J.cell y c e
    exact ⟨w', cellG y c _ e z⟩
  · obtain ⟨e, n, ne, nf, d⟩ := J.pin p hp
    exact ⟨gB _ _ (nb _ _ e fun hm => (List.mem_cons.mp (J.stkSub _ hm)).elim ne nf), n, ne, nf, d⟩
  · obtain ⟨e', h⟩ := og b o e
    rcases h with h | h
    · obtain ⟨o', q⟩ := Option.isSome_iff_exists.mp h
      have z := st9 b o' q
      rw [e'] at z; cases z
      exact q
    · exact absurd h hb
end

section
variable {X : Cx} {x n : Str} {c : Value} {i : Nat} {body suite : List Stmt} {b₀ : Stmt} {np pos pos' : Pos} {tb : WX → TS} {ts : Addr → Value → Option Addr → TS} {Wout : WX}
/-- what an except suite raises leaves it: the clause's name goes, then it flies on -/
theorem suite_out {pins : List (Addr × Obj)} {a : Addr} {oe : Obj} {N : Value → Shared → Prop} {E2 : Value → Shared → Prop} {u : Value} {s6 : Shared} (hs : X.stack = X.env :: X.outer) (hf : X.env.frame = some X.env.locals) (hN : X.N.Nodup) (hi : X.N[i]? = some n)
    (hln : X.env.kindOf n = some .local) (ok : X.Ok) (tk : L2.Takes X Wout) (hNx : ∀ e s, X.xe e s → N e s) (xx : L2.XE ((L2H.suiteX X a ((a, oe) :: (X.pn ++ pins))).wish E2) (fun c d σ H => Wout c d (σ.set i none) H) u s6) :
    wpAny (model X.prog X.w) (X.A.mark (some (.ref a))) (noteFrame u X.env) (fun _ s₃ => wpAny (model X.prog X.w) (X.A.mark (some (.ref a))) (do bindName X.env n .none; unbindBehindTheSuite X.env n pos')
      (fun _ s₄ => wpAny (model X.prog X.w) (X.A.mark (some (.ref a))) (PySem.passOn "try.except-as" u X.env : Sem Flow) (fun _ _ => False) N s₄)
      (fun y s₄ => wpAny (model X.prog X.w) (X.A.mark (some (.ref a))) (setFlight u none) (fun _ s₅ => N y s₅) N s₄) s₃) N s6 := by
  obtain ⟨a2, B, sI, pn2, σ2, H2, cls2, d2, rfl, I2, nb, up, sky, na, os, ag, w⟩ := xx
  have J : Inv X pins σ2 H2 sI := L2H.unsuiteX (L2.Inv.unwish I2) ok
  have hfr : (X.A.mark (some (.ref a))).frames = some (X.env :: X.outer) := by
    show X.A.frames = _
    rw [ok.frames, hs]
  have nb : ∀ b o, sI.heap.get? b = some o → b ∉ frs X.stack → B.get? b = some o := nb
  have sky : Sky B X.stack a2 (Zc cls2 d2) X.env.locals s6.heap := sky
  rw [hs] at sky
  obtain ⟨m, hm, hlk⟩ := id J.loc
  have hcls : (X.env.scope.kind == .class || (X.env.scope.kind == .module && X.env.locals != X.env.globals)) = false := by rw [ok.kind]; rfl
  have fin : ∀ h7, HandSPX.HeldZ B (X.env :: X.outer) a2 (Zc cls2 d2) X.env.locals h7 → s6.heap.UpToSlots h7 → wpAny (model X.prog X.w) (X.A.mark (some (.ref a))) (do bindName X.env n .none; unbindBehindTheSuite X.env n pos')
      (fun _ s₄ => wpAny (model X.prog X.w) (X.A.mark (some (.ref a))) (PySem.passOn "try.except-as" (.ref a2) X.env : Sem Flow) (fun _ _ => False) N s₄)
      (fun y s₄ => wpAny (model X.prog X.w) (X.A.mark (some (.ref a))) (setFlight (.ref a2) none) (fun _ s₅ => N y s₅) N s₄) { s6 with heap := h7 } := fun h7 hh7 up7 => by
    have hm7 : h7.Ns X.env.locals m := hm.upToSlots fun b o e hd => (up.trans up7) b o e hd
    refine wpAny_nameGoes_keeps hln hm7 hcls fun h8 v hn8 sb => ?_
    obtain ⟨k1, k2, k3, k4⟩ := hh7
    have hL : B.get? X.env.locals = none := (k3.mem (show X.env.locals ∈ frs (X.env :: X.outer) by unfold frs; rw [List.filterMap_cons, hf]; exact List.mem_cons_self)).1
    have hh8 : HandSPX.HeldZ B (X.env :: X.outer) a2 (Zc cls2 d2) X.env.locals h8 := held_names hL hm7 hn8 sb k1 k2 k3 k4
    obtain ⟨q1, q2, q3, oe2, vs, T, oT, ts, he, hz, hd, h1', hr⟩ := id hh8
    unfold PySem.passOn
    refine wpAny_bind (wpAny_field he hd h1' ?_)
    rw [if_neg (show ¬ ((Value.ref T == Value.none) = true) from by simp)]
    rw [hf]
    have fin2 : wpAny (model X.prog X.w) (X.A.mark (some (.ref a))) (setFlight (.ref a2) (some X.env.locals)) (fun _ s4 => wpAny (model X.prog X.w) (X.A.mark (some (.ref a))) (throw (.ref a2) : Sem Flow) (fun _ _ => False) N s4) N { s6 with heap := h8, toks := s6.toks + 1 } := by
      refine HandSPX.setFlight_onZ hh8 fun h9 hh9 up9 => wpAny_throw (hNx _ _ (tk _ _ ?_))
      obtain ⟨G, IG, nG, uG⟩ := gone_ground (g := s6.gens) (dr := s6.drawn) (tk := s6.toks + 1) hs hf hN hi J nb hm hlk (up.trans up7) hn8 sb up9 hh9.1 ag
      exact ⟨a2, B, _, pins, _, H2, cls2, d2, rfl, IG, nG, Heap.UpToSlots.of_keeps uG, .inr (.inr (by rw [hs]; exact hh9)), na, os, ag, w⟩
    first
      | exact wpAny_bind (wpAny_pure (wpAny_bind fin2))
      | exact wpAny_bind fin2
  rcases sky with ⟨hB, hn, hl, oe3, vs, he, hz, hd, h1⟩ | fl | hh
  · exact HandSPX.look_newZ Zc.steady hfr hl hf he hB hn hd h1 hz fin
  · exact HandSPX.looks_onZ Zc.steady hfr hf fl fin
  · exact HandSPX.againZ hf hh.2.2.2 (fin s6.heap hh (Heap.UpToSlots.refl _))
theorem ps_try_asX (hs : X.stack = X.env :: X.outer) (hf : X.env.frame = some X.env.locals) (hN : X.N.Nodup) (hi : X.N[i]? = some n) (hln : X.env.kindOf n = some .local) (hc : Names X x c)
    (hpa : ∀ hd : Option Value, PassesOwnAt (model X.prog X.w) (X.A.mark hd) X.A X.env X.xe) (tk : L2.Takes X Wout)
    (hb : ∀ (W : WX) (pn : List (Addr × Obj)) (xe : Value → Shared → Prop), L2N.Takes (X.tr pn xe) W → PassesOwn (model X.prog X.w) X.A X.env xe → PSs (X.tr pn xe) body (tb W))
    (hsu : ∀ (a : Addr) (oe : Obj) (cls : Value) (d : Option Addr) (pn : List (Addr × Obj)) (xe : Value → Shared → Prop), L2N.Zn cls d oe → (∃ vs, oe.data = .fields vs) →
      L2.Takes ((L2H.suiteX X a ((a, oe) :: pn)).wish xe) (fun c d σ H => Wout c d (σ.set i none) H) → PSs ((L2H.suiteX X a ((a, oe) :: pn)).wish xe) (b₀ :: suite) (ts a cls d)) :
    PS X (.Try body [.ExceptHandler (some (.Name x np)) (some n) (b₀ :: suite) pos'] [] [] pos) (fun D σ H => tb (wAs X.K c i ts Wout D) D σ H) := by
  refine ⟨fun pins s σ H D I h => ?_⟩
  have ok := I.ok
  have hfr : X.A.frames = some (X.env :: X.outer) := by rw [ok.frames, hs]
  have hloc : Loc X.env.scope n := .inl hln
  refine wpAny_Try_except ?_
  refine wpAny_mono ((hb (wAs X.K c i ts Wout D) (X.pn ++ pins) (fun e s₁ => wpAny (model X.prog X.w) X.A (noteFrame e X.env) (fun _ s₂ => wpAny (model X.prog X.w) X.A (setFlight e none) (fun _ s₃ =>
    wpAny (model X.prog X.w) X.A (handleBy e X.env [.ExceptHandler (some (.Name x np)) (some n) (b₀ :: suite) pos']) (SP X pins D) X.xe s₃) X.xe s₂) X.xe s₁) (fun u s' xx => ?_) PassesOwn.looking).run [] s σ H D (I.toTry _) h) (fun f s1 hsp => ?_) (fun e s1 he => he)
  · obtain ⟨a, B, sI, pins', σ', H', cls, d, rfl, J', nb, up, sky, na, os, ag, b, hb1, hyes, hno⟩ := xx
    have J : Inv X pins σ' H' sI := J'.ofTry ok
    have sky' : Sky B (X.env :: X.outer) a (L2N.Zn cls d) X.env.locals s'.heap := by rw [← hs]; exact sky
    show wpAny (model X.prog X.w) X.A (noteFrame (.ref a) X.env) _ _ _
    refine L2N.Sky.land L2N.Zn.steady hfr hf sky' fun h3 fl3 up3 => ?_
    have J3 : Inv X pins σ' H' { s' with heap := h3 } := J.landed nb fl3.1 (up.trans up3) os ag
    obtain ⟨oe3, vs3, he3, hz3, hd3⟩ := fl3.there
    have notFr : ∀ {h : Heap} {o : Obj} {vs : Array Value}, h.FunFrames B (X.env :: X.outer) → h.get? a = some o → o.data = .fields vs → a ∉ frs (X.env :: X.outer) := fun {h o vs} ff e dd hm => by
      obtain ⟨_, o', e', hnf⟩ := ff.mem hm
      rw [e] at e'; cases e'
      exact hnf _ dd
    have nfr := notFr fl3.2.2.1 he3 hd3
    have nL : a ≠ X.env.locals := fun z => nfr (List.mem_filterMap.mpr ⟨X.env, List.mem_cons_self, by rw [hf, z]⟩)
    have nF : a ∉ X.fs := fun hm => by
      obtain ⟨e, he, q⟩ := List.mem_filterMap.mp hm
      exact nfr (List.mem_filterMap.mpr ⟨e, List.mem_cons_of_mem _ he, q⟩)
    have S3 := J3.suite he3 hd3 na nL nF
    refine wpAny_handleBy_cons (codeAny_handlers_test ?_) (by intro q; cases q)
    have LT : PySem.W.Looks (model X.prog X.w) h3 (typeOf (.ref a)) cls := fun A Q E s k q => wpAny_typeOf_ref (k _ _ he3) (by rw [hz3.1]; exact q)
    have LM := PySem.W.exm_one (M := model X.prog X.w) (J3.kIn) LT hb1
    have test : ∀ {Q : Value → Shared → Prop} {E : Value → Shared → Prop}, Q c { s' with heap := h3 } → wpAny (model X.prog X.w) (X.A.mark (some (.ref a))) (eval (.Name x np) X.env) Q E { s' with heap := h3 } := fun {Q E} q => by
      obtain ⟨hg, hdbg, hm | ⟨hm, hv, hnn⟩⟩ := hc
      · exact ld_glob (X := X.suite a ((a, oe3) :: (X.pn ++ pins))) S3 hg hm q hdbg
      · exact ld_blt (X := X.suite a ((a, oe3) :: (X.pn ++ pins))) S3 hg hm hv q hnn hdbg
    refine test (LM.here ?_)
    cases b with
    | true =>
      refine codeAny_handlers_suite_as ?_
      refine HandSPX.lands_againZ fl3 fun h4 fl4 up4 => ?_
      have J4 : Inv X pins σ' H' { s' with heap := h4 } := J.landed nb fl4.1 ((up.trans up3).trans up4) os ag
      obtain ⟨oe4, vs4, he4, hz4, hd4⟩ := fl4.there
      have S4 := J4.suite he4 hd4 na nL nF
      refine store_ok (X := X.suite a ((a, oe4) :: (X.pn ++ pins))) (v := .ref a) S4 hN hi hloc rfl (fun s5 S5 => ?_) (.inr hln)
      have S5' : Inv (L2H.suiteX X a ((a, oe4) :: (X.pn ++ pins))) [] (σ'.set i (some (.ref a))) H' s5 := L2H.suiteX_of S5
      have end_ : ∀ {σ6 : L2.St} {H6 : Hp} {s6 : Shared} {xe : Value → Shared → Prop} {Q : Shared → Prop}, Inv ((L2H.suiteX X a ((a, oe4) :: (X.pn ++ pins))).wish xe) [] σ6 H6 s6 → (∀ s7, Inv X pins (σ6.set i none) H6 s7 → Q s7) →
          wpAny (model X.prog X.w) X.A (do bindName X.env n .none; unbindBehindTheSuite X.env n pos') (fun _ s7 => Q s7) X.xe s6 := fun {σ6 H6 s6 xe Q} S6 hq => gone_ok (L2H.unsuiteX (L2.Inv.unwish S6) ok) hN hi hln hq
      refine wpAny_mono ((hsu a oe4 cls d (X.pn ++ pins) _ hz4 ⟨_, hd4⟩ (fun u s6 xx => suite_out (E2 := _) (N := _) hs hf hN hi hln ok tk (hpa (some (.ref a))) xx)).run [] s5 _ H' _ (S5'.wish _) (hyes rfl a na)) (fun f s6 hsp => ?_) (fun _ _ z => z)
      cases f with
      | next =>
        obtain ⟨σ6, H6, S6, q6⟩ := hsp
        exact end_ S6 fun s7 J7 => ⟨_, _, J7, q6⟩
      | brk =>
        obtain ⟨σ6, H6, S6, q6⟩ := hsp
        exact end_ S6 fun s7 J7 => ⟨_, _, J7, q6⟩
      | cont =>
        obtain ⟨σ6, H6, S6, q6⟩ := hsp
        exact end_ S6 fun s7 J7 => ⟨_, _, J7, q6⟩
      | ret u =>
        obtain ⟨v6, σ6, H6, S6, r6, q6⟩ := hsp
        exact end_ S6 fun s7 J7 => ⟨_, _, _, J7, r6, q6⟩
    | false =>
      show wpAny _ X.A (handleBy (.ref a) X.env []) _ _ _
      refine wpAny_handleBy_nil ?_
      have fl3' : HandSPX.FlyingZ B (X.env :: X.outer) a (Zc cls d) h3 := L2H.flyingZ_imp (fun o z => z.zc) fl3
      obtain ⟨k1, k2, k3, oe, vs, T, oT, ts', he, hz, hd, h1, hr⟩ := id fl3'
      unfold PySem.passOn
      refine wpAny_bind (wpAny_field he hd h1 ?_)
      rw [if_neg (show ¬ ((Value.ref T == Value.none) = true) from by simp)]
      have fin : wpAny (model X.prog X.w) X.A (setFlight (.ref a) X.env.frame) (fun _ s4 => wpAny (model X.prog X.w) X.A (throw (.ref a) : Sem Flow) (SP X pins D) X.xe s4) X.xe { s' with heap := h3 } := by
        rw [hf]
        refine HandSPX.setFlight_upZ fl3' fun h4 hh4 up4 => wpAny_throw (tk _ _ ?_)
        exact ⟨a, B, sI, pins, σ', H', cls, d, rfl, J, nb, (up.trans up3).trans up4, .inr (.inr (by rw [hs]; exact hh4)), na, os, ag, hno rfl⟩
      first
        | exact wpAny_bind (wpAny_pure (wpAny_bind fin))
        | exact wpAny_bind fin
  · cases f with
    | next =>
      obtain ⟨σ', H', J', q⟩ := hsp
      exact wpAny_execs_nil ⟨σ', H', J'.ofTry ok, q⟩
    | brk =>
      obtain ⟨σ', H', J', q⟩ := hsp
      exact ⟨σ', H', J'.ofTry ok, q⟩
    | cont =>
      obtain ⟨σ', H', J', q⟩ := hsp
      exact ⟨σ', H', J'.ofTry ok, q⟩
    | ret u =>
      obtain ⟨v, σ', H', J', r, q⟩ := hsp
      exact ⟨v, σ', H', J'.ofTry ok, r, q⟩
end
end Gh
set_option Elab.async false
set_option linter.all false
set_option maxRecDepth 100000
set_option maxHeartbeats 4000000
/-! Short words over the hand layer: a def of the top, a method, a class, by their names. -/
namespace Gh
open PySem PySem.Spec PyProof.Rows L2
/-- the module's def x keeps the promise sp -/
def Cl (P : Program) (w : World) (K : PySem.W.Frag) (mg : Str → Option Value) (base : Heap) (CX : CXT) (x : Str) (k : Nat) (ps : List Str) (sp : Sp) : Prop :=
  ∃ f fd, FnOk P w K mg base CX k f fd ps sp ∧ mg x = some (.ref f) ∧ PySem.W.keepIn K (.ref f) = true ∧ Binds K fd ps []
/-- the method m of the class at C keeps the promise sp -/
def Ml (P : Program) (w : World) (K : PySem.W.Frag) (mg : Str → Option Value) (base : Heap) (CX : CXT) (C : Addr) (m : Str) (k : Nat) (ps : List Str) (sp : Sp) : Prop :=
  ∃ f fd, FnOk P w K mg base CX k f fd ps sp ∧ Cls K C ∧ Meth K C m f ∧ Binds K fd ps []
/-- the class x at C is made by an __init__ that keeps the promise sp -/
def Il (P : Program) (w : World) (K : PySem.W.Frag) (mg : Str → Option Value) (base : Heap) (CX : CXT) (x : Str) (C : Addr) (k : Nat) (ps : List Str) (sp : Sp) : Prop :=
  ∃ f fd, FnOk P w K mg base CX k f fd ps sp ∧ mg x = some (.ref C) ∧ Mk K C f ∧ Binds K fd ps []
section
variable {P : Program} {w : World} {K : PySem.W.Frag} {mg : Str → Option Value} {base : Heap} {CX : CXT} {x : Str} {C : Addr} {m : Str} {j k : Nat} {ps : List Str} {sp : Sp}
theorem Cl.mono (c : Cl P w K mg base CX x j ps sp) (h : j ≤ k) : Cl P w K mg base CX x k ps sp := by
  obtain ⟨f, fd, F, r⟩ := c
  exact ⟨f, fd, F.mono h, r⟩
theorem Ml.mono (c : Ml P w K mg base CX C m j ps sp) (h : j ≤ k) : Ml P w K mg base CX C m k ps sp := by
  obtain ⟨f, fd, F, r⟩ := c
  exact ⟨f, fd, F.mono h, r⟩
theorem Il.mono (c : Il P w K mg base CX x C j ps sp) (h : j ≤ k) : Il P w K mg base CX x C k ps sp := by
  obtain ⟨f, fd, F, r⟩ := c
  exact ⟨f, fd, F.mono h, r⟩
theorem Cl.imp {sp' : Sp} (c : Cl P w K mg base CX x k ps sp) (h : ∀ vs H Q E, sp' vs H Q E → sp vs H Q E) : Cl P w K mg base CX x k ps sp' := by
  obtain ⟨f, fd, F, r⟩ := c
  exact ⟨f, fd, F.imp h, r⟩
theorem Ml.imp {sp' : Sp} (c : Ml P w K mg base CX C m k ps sp) (h : ∀ vs H Q E, sp' vs H Q E → sp vs H Q E) : Ml P w K mg base CX C m k ps sp' := by
  obtain ⟨f, fd, F, r⟩ := c
  exact ⟨f, fd, F.imp h, r⟩
/-- an exception whose context is None is an exception -/
theorem cxN {outer : List Env} {H : Hp} {s : Shared} {E : XK} {u : Value} {s' : Shared} (h : L2N.CX P w outer H s E u s') : L2.CX P w outer H s E u s' := by
  obtain ⟨a, B, H', cls, d, e, fl, r⟩ := h
  exact ⟨a, B, H', cls, d, e, L2H.flyingZ_imp (fun o z => z.zc) fl, r⟩
theorem cx0 {outer : List Env} {H : Hp} {s : Shared} {E : XK} {u : Value} {s' : Shared} {CX : CXT} (h : CX0 outer H s E u s') : CX outer H s E u s' := h.elim
theorem fnOk_cx {CX' : CXT} {f : Addr} {fd : FuncData} (F : FnOk P w K mg base CX k f fd ps sp) (h : ∀ outer H s E u s', CX outer H s E u s' → CX' outer H s E u s') : FnOk P w K mg base CX' k f fd ps sp :=
  ⟨F.len, fun A outer s H args us vs Q E hr he hb hv hs => codeAny_mono (F.run A outer s H args us vs Q E hr he hb hv hs) fun r s' q => by
    cases r with
    | error e => exact h _ _ _ _ _ _ q
    | ok fl => cases fl <;> exact q⟩
theorem Cl.cxN (c : Cl P w K mg base (L2N.CX P w) x k ps sp) : Cl P w K mg base (L2.CX P w) x k ps sp := by
  obtain ⟨f, fd, F, r⟩ := c
  exact ⟨f, fd, fnOk_cx F fun _ _ _ _ _ _ => Gh.cxN, r⟩
theorem Ml.cxN (c : Ml P w K mg base (L2N.CX P w) C m k ps sp) : Ml P w K mg base (L2.CX P w) C m k ps sp := by
  obtain ⟨f, fd, F, r⟩ := c
  exact ⟨f, fd, fnOk_cx F fun _ _ _ _ _ _ => Gh.cxN, r⟩
theorem cl_of {d : He.DefD} {N : List Str} {f : Addr} (g : mg x = some (.ref f)) (F : ∃ fd, FunD K d.name d.qual d.params d.body d.scope [] [] f fd) (S : FnScope N ps d.scope)
    (hb : ∀ (kV doc pm : Value) (an : Option Addr) (cdv ct : Value) (us : List Value), us.length = ps.length → bindArgs (PySem.W.fnOf d.name d.qual d.params d.body d.scope .none kV doc pm an cdv ct) ⟨us, []⟩ = pure (ps.zip us))
    (len : ∀ vs H Q E, sp vs H Q E → vs.length = ps.length)
    (hbody : ∀ (cdv : Value) (A : Around) (outer : List Env) (s : Shared) (H : Hp) (vs : List V) (Q : VK) (E : XK), Room k (A.deeper (envOfC d.qual d.scope s.heap.objs.size f cdv)) → sp vs H Q E →
      ∃ t, PSs (cxOf CX P w K mg base N d.qual d.scope f cdv A outer s H E) d.body t ∧ t { nx := fun _ H' => Q .non H', rt := Q } (start N vs) H) : Cl P w K mg base CX x (k + 1) ps sp := by
  obtain ⟨fd, F⟩ := F
  exact ⟨f, fd, F.ok S len hbody, g, F.kp, F.bindsN hb⟩
theorem ml_of {d : He.DefD} {N : List Str} {f : Addr} (c : Cls K C) (hm : Meth K C m f) (F : ∃ fd, FunD K d.name d.qual d.params d.body d.scope [] [] f fd) (S : FnScope N ps d.scope)
    (hb : ∀ (kV doc pm : Value) (an : Option Addr) (cdv ct : Value) (us : List Value), us.length = ps.length → bindArgs (PySem.W.fnOf d.name d.qual d.params d.body d.scope .none kV doc pm an cdv ct) ⟨us, []⟩ = pure (ps.zip us))
    (len : ∀ vs H Q E, sp vs H Q E → vs.length = ps.length)
    (hbody : ∀ (cdv : Value) (A : Around) (outer : List Env) (s : Shared) (H : Hp) (vs : List V) (Q : VK) (E : XK), Room k (A.deeper (envOfC d.qual d.scope s.heap.objs.size f cdv)) → sp vs H Q E →
      ∃ t, PSs (cxOf CX P w K mg base N d.qual d.scope f cdv A outer s H E) d.body t ∧ t { nx := fun _ H' => Q .non H', rt := Q } (start N vs) H) : Ml P w K mg base CX C m (k + 1) ps sp := by
  obtain ⟨fd, F⟩ := F
  exact ⟨f, fd, F.ok S len hbody, c, hm, F.bindsN hb⟩
theorem il_of {d : He.DefD} {N : List Str} {f : Addr} (g : mg x = some (.ref C)) (hm : Mk K C f) (F : ∃ fd, FunD K d.name d.qual d.params d.body d.scope [] [] f fd) (S : FnScope N ps d.scope)
    (hb : ∀ (kV doc pm : Value) (an : Option Addr) (cdv ct : Value) (us : List Value), us.length = ps.length → bindArgs (PySem.W.fnOf d.name d.qual d.params d.body d.scope .none kV doc pm an cdv ct) ⟨us, []⟩ = pure (ps.zip us))
    (len : ∀ vs H Q E, sp vs H Q E → vs.length = ps.length)
    (hbody : ∀ (cdv : Value) (A : Around) (outer : List Env) (s : Shared) (H : Hp) (vs : List V) (Q : VK) (E : XK), Room k (A.deeper (envOfC d.qual d.scope s.heap.objs.size f cdv)) → sp vs H Q E →
      ∃ t, PSs (cxOf CX P w K mg base N d.qual d.scope f cdv A outer s H E) d.body t ∧ t { nx := fun _ H' => Q .non H', rt := Q } (start N vs) H) : Il P w K mg base CX x C (k + 1) ps sp := by
  obtain ⟨fd, F⟩ := F
  exact ⟨f, fd, F.ok S len hbody, g, hm, F.bindsN hb⟩
end
section
variable {X : Cx} {CX : CXT} {k : Nat} {C : Addr} {ps : List Str} {sp : Sp} {E : XK} {x m : Str} {p pos apos : Pos} {e o : Expr} {es : List Expr} {ta : TE} {t : TA}
/-- a module's whole number -/
theorem pe_gi {i : Int} (h : ∃ tk, X.mg x = some (.int i tk)) (hg : Gl X x := by rfl) (hd : (x == ("__debug__" : Str)) = false := by decide) : PE X (.Name x pos) (tC (.int i)) := by
  obtain ⟨tk, h⟩ := h
  exact pe_glob hg h ⟨_, rfl⟩ hd
/-- f(e, ..), nothing is raised -/
theorem pe_c (c : Cl X.prog X.w X.K X.mg X.base CX x k ps sp) (hr : Room k X.A) (hx : Passes CX X E) (ha : PA X (e :: es) t) (hg : Gl X x := by rfl) (hdb : (x == ("__debug__" : Str)) = false := by decide)
    (he : starEach (e :: es) X.env = (false, eval e X.env) :: starEach es X.env := by rfl) (hpl : (backTo pos (starEach es X.env)).any (·.1) = false := by rfl) : PE X (.Call (.Name x p) (e :: es) [] pos) (tCall sp [] E t) := by
  obtain ⟨f, fd, F, hm, hk, hb⟩ := c
  exact pe_call F hr hg hm hk hb .nil hx ha hdb he hpl
theorem pe_c0 (c : Cl X.prog X.w X.K X.mg X.base CX x k ps sp) (hr : Room k X.A) (hx : Passes CX X E) (hg : Gl X x := by rfl) (hdb : (x == ("__debug__" : Str)) = false := by decide) : PE X (.Call (.Name x p) [] [] pos) (tCall sp [] E tNil) := by
  obtain ⟨f, fd, F, hm, hk, hb⟩ := c
  exact pe_call0 F hr hg hm hk hb .nil hx hdb
theorem pe_m {pl : Sem Bool} (c : Ml X.prog X.w X.K X.mg X.base CX C m k ps sp) (hr : Room k X.A) (hx : Passes CX X E) (he : PE X o ta) (ha : PA X (e :: es) t)
    (hst : starEach (e :: es) X.env = (false, eval e X.env) :: starEach es X.env := by rfl) (hpl : (backTo pos (starEach es X.env)).any (·.1) = false := by rfl)
    (ht : eval (.Call (.Attribute o m apos) (e :: es) [] pos) X.env = (do
      let ov ← eval o X.env
      standAt apos.atName
      let (f, first) ← holding [ov] (getMethod ov m pl)
      callWith pos f first (backTo pos (starEach (e :: es) X.env)) (backToKw pos (keywordEach [] X.env))) := by rfl) :
    PE X (.Call (.Attribute o m apos) (e :: es) [] pos) (tMeth C m sp [] E ta t) := by
  obtain ⟨f, fd, F, hc, hm, hb⟩ := c
  exact pe_meth he hc hm F hr hb .nil hx ha hst hpl ht
theorem pe_m0 {pl : Sem Bool} (c : Ml X.prog X.w X.K X.mg X.base CX C m k ps sp) (hr : Room k X.A) (hx : Passes CX X E) (he : PE X o ta)
    (ht : eval (.Call (.Attribute o m apos) [] [] pos) X.env = (do
      let ov ← eval o X.env
      standAt apos.atName
      let (f, first) ← holding [ov] (getMethod ov m pl)
      callWith pos f first (backTo pos (starEach [] X.env)) (backToKw pos (keywordEach [] X.env))) := by rfl) :
    PE X (.Call (.Attribute o m apos) [] [] pos) (tMeth C m sp [] E ta tNil) := by
  obtain ⟨f, fd, F, hc, hm, hb⟩ := c
  exact pe_meth0 he hc hm F hr hb .nil hx ht
theorem pe_i (c : Il X.prog X.w X.K X.mg X.base CX x C k ps sp) (hr : Room (k + 1) X.A) (hx : Passes CX X E) (ha : PA X (e :: es) t) (hg : Gl X x := by rfl) (hdb : (x == ("__debug__" : Str)) = false := by decide)
    (he : starEach (e :: es) X.env = (false, eval e X.env) :: starEach es X.env := by rfl) (hpl : (backTo pos (starEach es X.env)).any (·.1) = false := by rfl) : PE X (.Call (.Name x p) (e :: es) [] pos) (tMake C sp [] E t) := by
  obtain ⟨f, fd, F, hm, M, hb⟩ := c
  exact pe_make M F hr hg hm hb .nil hx ha hdb he hpl
theorem pe_i0 (c : Il X.prog X.w X.K X.mg X.base CX x C k ps sp) (hr : Room (k + 1) X.A) (hx : Passes CX X E) (hg : Gl X x := by rfl) (hdb : (x == ("__debug__" : Str)) = false := by decide) : PE X (.Call (.Name x p) [] [] pos) (tMake C sp [] E tNil) := by
  obtain ⟨f, fd, F, hm, M, hb⟩ := c
  exact pe_make0 M F hr hg hm hb .nil hx hdb
/-- f(e, ..) within a try -/
theorem pe_cS {W : L2.St → XK} (c : Cl X.prog X.w X.K X.mg X.base CX x k ps sp) (hr : Room k X.A) (hx : ∀ σ, PassesAt CX X σ (W σ)) (ha : PA X (e :: es) t) (hg : Gl X x := by rfl) (hdb : (x == ("__debug__" : Str)) = false := by decide)
    (he : starEach (e :: es) X.env = (false, eval e X.env) :: starEach es X.env := by rfl) (hpl : (backTo pos (starEach es X.env)).any (·.1) = false := by rfl) : PE X (.Call (.Name x p) (e :: es) [] pos) (tCallS sp W t) := by
  obtain ⟨f, fd, F, hm, hk, hb⟩ := c
  exact pe_callS F hr hg hm hk hb hx ha hdb he hpl
end
end Gh
set_option Elab.async false
set_option linter.all false
set_option maxRecDepth 100000
set_option maxHeartbeats 4000000
/-! A table of pairs at the program's top. -/
namespace Gh
open PySem PySem.Spec PyProof.Rows L2
def pairB (K : PySem.W.Frag) (v : Value) (p : Nat × Bool) : Bool := match v with
  | .ref a => (match K.lookup a with
    | some ⟨.type c, _, .seq its _, _⟩ => decide (c = "tuple") && (decide (its.size ≤ sizeLine) && He.relAll [.int (p.1 : Nat), .bl p.2] its.toList)
    | _ => false)
  | _ => false
def pairsB (K : PySem.W.Frag) : List Value → List (Nat × Bool) → Bool
  | [], [] => true
  | v :: vs, p :: ps => pairB K v p && pairsB K vs ps
  | _, _ => false
def shB (K : PySem.W.Frag) (x : Str) (ps : List (Nat × Bool)) : Bool := match K.lookup (He.ga K x) with
  | some ⟨.type c, _, .seq its _, _⟩ => decide (c = "tuple") && (decide (its.size ≤ sizeLine) && pairsB K its.toList ps)
  | _ => false
theorem pairB_ok {K : PySem.W.Frag} {v : Value} {p : Nat × Bool} (h : pairB K v p = true) : ∃ a, v = .ref a ∧ ∀ H, SqT K H a [.int (p.1 : Nat), .bl p.2] := by
  unfold pairB at h
  cases v with
  | ref a =>
    refine ⟨a, rfl, fun H => ?_⟩
    have h' : (match K.lookup a with
      | some ⟨.type c, _, .seq its _, _⟩ => decide (c = "tuple") && (decide (its.size ≤ sizeLine) && He.relAll [.int (p.1 : Nat), .bl p.2] its.toList)
      | _ => false) = true := h
    cases q : K.lookup a with
    | none => rw [q] at h'; cases h'
    | some o =>
      obtain ⟨oc, od, dt, osl⟩ := o
      rw [q] at h'
      cases oc with
      | type c =>
        cases dt with
        | seq its n =>
          obtain ⟨h1, h2⟩ := He.ba (show (decide (c = "tuple") && (decide (its.size ≤ sizeLine) && He.relAll [.int (p.1 : Nat), .bl p.2] its.toList)) = true from h')
          obtain ⟨h3, h4⟩ := He.ba h2
          exact .inr ⟨_, its, n, q, congrArg Value.type (of_decide_eq_true h1), rfl, of_decide_eq_true h3, He.relAll_ok h4⟩
        | _ => cases h'
      | _ => cases dt <;> cases h'
  | _ => cases h
theorem pairsB_ok {K : PySem.W.Frag} : ∀ {vs : List Value} {ps : List (Nat × Bool)}, pairsB K vs ps = true → ∃ as : List Addr, Vals (as.map V.ref) vs ∧ Paired (fun a (p : Nat × Bool) => ∀ H, SqT K H a [.int (p.1 : Nat), .bl p.2]) as ps
  | [], [], _ => ⟨[], .nil, .nil⟩
  | [], _ :: _, h => by cases h
  | _ :: _, [], h => by cases h
  | v :: vs, p :: ps, h => by
    obtain ⟨h1, h2⟩ := He.ba (show (pairB K v p && pairsB K vs ps) = true from h)
    obtain ⟨a, rfl, ha⟩ := pairB_ok h1
    obtain ⟨as, hv, hp⟩ := pairsB_ok h2
    exact ⟨a :: as, .cons rfl hv, .cons ha hp⟩
theorem shB_ok {K : PySem.W.Frag} {x : Str} {ps : List (Nat × Bool)} (h : shB K x ps = true) : ∃ as : List Addr, (∀ H, SqT K H (He.ga K x) (as.map V.ref)) ∧ Paired (fun a (p : Nat × Bool) => ∀ H, SqT K H a [.int (p.1 : Nat), .bl p.2]) as ps := by
  unfold shB at h
  cases q : K.lookup (He.ga K x) with
  | none => rw [q] at h; cases h
  | some o =>
    obtain ⟨oc, od, dt, osl⟩ := o
    rw [q] at h
    cases oc with
    | type c =>
      cases dt with
      | seq its n =>
        obtain ⟨h1, h2⟩ := He.ba (show (decide (c = "tuple") && (decide (its.size ≤ sizeLine) && pairsB K its.toList ps)) = true from h)
        obtain ⟨h3, h4⟩ := He.ba h2
        obtain ⟨as, hv, hp⟩ := pairsB_ok h4
        exact ⟨as, fun H => .inr ⟨_, its, n, q, congrArg Value.type (of_decide_eq_true h1), rfl, of_decide_eq_true h3, hv⟩, hp⟩
      | _ => cases h
    | _ => cases dt <;> cases h
abbrev AlS : Type := He.AlD × Bool
def obsS (n : Nat) (fa : List He.Fa) (fn : List He.DefD) (x : Str) (ps : List (Nat × Bool)) (g : Addr → Option Obj) : AlS := (He.obsDG n fa fn g, shB (He.frG g (He.asD g n)) x ps)
def hookS (n : Nat) (fa : List He.Fa) (fn : List He.DefD) (x : Str) (ps : List (Nat × Bool)) : PySem.W.Hook where
  α := AlS
  obs := fun s => obsS n fa fn x ps s.heap.get?
  val := fun _ => (He.valD fn, true)
  says := fun _ h => ∃ K : PySem.W.Frag, K.In h ∧ He.SaysD fa fn K ∧ shB K x ps = true
  of := fun _ _ e => ⟨_, He.frG_in, congrArg (fun z : AlS => z.1) e, congrArg (fun z : AlS => z.2) e⟩
  keeps := fun _ _ _ ⟨K, hK, c⟩ k => ⟨K, PySem.W.Frag.In.keeps hK k, c⟩
theorem obsS_eq {n : Nat} {fa : List He.Fa} {fn : List He.DefD} {x : Str} {ps : List (Nat × Bool)} {g : Addr → Option Obj} {s : Shared} (h : ∀ a, g a = s.heap.get? a) : obsS n fa fn x ps g = (hookS n fa fn x ps).obs s := by
  have e : g = s.heap.get? := funext h
  rw [e] <;> rfl
/-- the same where the addresses are written out -/
def obsL (as : List Addr) (fa : List He.Fa) (fn : List He.DefD) (x : Str) (ps : List (Nat × Bool)) (g : Addr → Option Obj) : AlS := (He.obsD fa fn (He.frG g as), shB (He.frG g as) x ps)
def hookL (as : List Addr) (fa : List He.Fa) (fn : List He.DefD) (x : Str) (ps : List (Nat × Bool)) : PySem.W.Hook where
  α := AlS
  obs := fun s => obsL as fa fn x ps s.heap.get?
  val := fun _ => (He.valD fn, true)
  says := fun _ h => ∃ K : PySem.W.Frag, K.In h ∧ He.SaysD fa fn K ∧ shB K x ps = true
  of := fun _ _ e => ⟨_, He.frG_in, congrArg (fun z : AlS => z.1) e, congrArg (fun z : AlS => z.2) e⟩
  keeps := fun _ _ _ ⟨K, hK, c⟩ k => ⟨K, PySem.W.Frag.In.keeps hK k, c⟩
theorem obsL_eq {as : List Addr} {fa : List He.Fa} {fn : List He.DefD} {x : Str} {ps : List (Nat × Bool)} {g : Addr → Option Obj} {s : Shared} (h : ∀ a, g a = s.heap.get? a) : obsL as fa fn x ps g = (hookL as fa fn x ps).obs s := by
  have e : g = s.heap.get? := funext h
  rw [e] <;> rfl
end Gh
set_option Elab.async false
set_option linter.all false
set_option maxRecDepth 100000
set_option maxHeartbeats 4000000
namespace Gh
open PySem PySem.Spec PyProof.Rows L2
def top (i : Nat) : Stmt := PySem.Challenge.pw_granthouse_s01_answers.main.body.getD i (.Pass ⟨0, 0, 0, 0⟩)
abbrev s_read_call : Stmt := top 20
abbrev s_does_something : Stmt := top 21
abbrev s_is_user : Stmt := top 36
abbrev s_is_door : Stmt := top 37
abbrev s_is_request : Stmt := top 38
abbrev s_House_init : Stmt := inClass (top 40) 0
abbrev s_holds : Stmt := top 57
abbrev s_first_found : Stmt := top 58
abbrev s_put_together : Stmt := top 59
abbrev s_decide : Stmt := top 60
abbrev s_Reader_init : Stmt := inClass (top 63) 0
abbrev s_Reader_at_end : Stmt := inClass (top 63) 1
abbrev s_Reader_take : Stmt := inClass (top 63) 2
abbrev s_Reader_take_many : Stmt := inClass (top 63) 3
abbrev s_Reader_take_row : Stmt := inClass (top 63) 4
abbrev s_check : Stmt := top 70
abbrev s_check_holder : Stmt := top 71
abbrev s_read_range : Stmt := top 72
abbrev s_read_condition : Stmt := top 73
abbrev s_read_policy : Stmt := top 74
abbrev s_check_edges : Stmt := top 75
abbrev s_read_code : Stmt := top 76
abbrev s_Grant_init : Stmt := inClass (top 79) 0
abbrev s_share : Stmt := top 80
abbrev s_may_give : Stmt := top 81
abbrev s_of_right : Stmt := top 82
abbrev s_is_given : Stmt := top 83
abbrev s_any_given : Stmt := top 84
abbrev s_without_given : Stmt := top 85
abbrev s_standing : Stmt := top 86
abbrev s_taken_back : Stmt := top 87
abbrev s_taken_over : Stmt := top 88
abbrev s_first_to : Stmt := top 89
abbrev s_chain_to : Stmt := top 90
abbrev s_without_user : Stmt := top 91
abbrev s_Ticket_init : Stmt := inClass (top 99) 0
abbrev s_held_by : Stmt := top 100
abbrev s_caveats_of : Stmt := top 101
abbrev s_is_caveat : Stmt := top 102
abbrev s_are_caveats : Stmt := top 103
abbrev s_caveat_holds : Stmt := top 104
abbrev s_all_hold : Stmt := top 105
abbrev s_is_asked_rightly : Stmt := top 107
abbrev s_maker_has_right : Stmt := top 108
abbrev s_is_good : Stmt := top 109
abbrev s_has_entry : Stmt := top 110
abbrev s_permits : Stmt := top 111
abbrev s_allowers : Stmt := top 112
abbrev s_may_open : Stmt := top 113
abbrev s_is_gift : Stmt := top 115
abbrev s_do_grant : Stmt := top 116
abbrev s_gift_refusal : Stmt := top 117
abbrev s_do_revoke : Stmt := top 118
abbrev s_do_over : Stmt := top 119
abbrev s_do_leave : Stmt := top 120
abbrev s_do_policy : Stmt := top 121
abbrev s_do_quorum : Stmt := top 122
abbrev s_do_ticket : Stmt := top 123
abbrev s_do_narrow : Stmt := top 124
abbrev s_do_allow : Stmt := top 125
abbrev s_do_open : Stmt := top 126
abbrev s_do_call : Stmt := top 128
abbrev s_house_at : Stmt := top 129
abbrev s_openings_in : Stmt := top 130
abbrev s_done_without : Stmt := top 131
abbrev s_hanging_on : Stmt := top 132
abbrev s_counted : Stmt := top 134
abbrev s_tell_may : Stmt := top 135
abbrev s_tell_was : Stmt := top 136
abbrev s_tell_hang : Stmt := top 137
abbrev s_tell_opened : Stmt := top 138
abbrev s_tell_grants : Stmt := top 139
abbrev s_ticket_row : Stmt := top 140
abbrev s_tell_tickets : Stmt := top 141
abbrev s_tell_chain : Stmt := top 142
abbrev s_tell_allowers : Stmt := top 143
abbrev s_tell_call : Stmt := top 144
abbrev s_answer : Stmt := top 146
abbrev s_answers : Stmt := top 147
def d_read_call : He.DefD := ⟨("read_call", none), "read_call", "read_call", defArgs s_read_call, defBody s_read_call, defScope s_read_call, [], []⟩
def d_does_something : He.DefD := ⟨("does_something", none), "does_something", "does_something", defArgs s_does_something, defBody s_does_something, defScope s_does_something, [], []⟩
def d_is_user : He.DefD := ⟨("is_user", none), "is_user", "is_user", defArgs s_is_user, defBody s_is_user, defScope s_is_user, [], []⟩
def d_is_door : He.DefD := ⟨("is_door", none), "is_door", "is_door", defArgs s_is_door, defBody s_is_door, defScope s_is_door, [], []⟩
def d_is_request : He.DefD := ⟨("is_request", none), "is_request", "is_request", defArgs s_is_request, defBody s_is_request, defScope s_is_request, [], []⟩
def d_House_init : He.DefD := ⟨("House", some "__init__"), "__init__", "House.__init__", defArgs s_House_init, defBody s_House_init, defScope s_House_init, [], []⟩
def d_holds : He.DefD := ⟨("holds", none), "holds", "holds", defArgs s_holds, defBody s_holds, defScope s_holds, [], []⟩
def d_first_found : He.DefD := ⟨("first_found", none), "first_found", "first_found", defArgs s_first_found, defBody s_first_found, defScope s_first_found, [], []⟩
def d_put_together : He.DefD := ⟨("put_together", none), "put_together", "put_together", defArgs s_put_together, defBody s_put_together, defScope s_put_together, [], []⟩
def d_decide : He.DefD := ⟨("decide", none), "decide", "decide", defArgs s_decide, defBody s_decide, defScope s_decide, [], []⟩
def d_Reader_init : He.DefD := ⟨("Reader", some "__init__"), "__init__", "Reader.__init__", defArgs s_Reader_init, defBody s_Reader_init, defScope s_Reader_init, [], []⟩
def d_Reader_at_end : He.DefD := ⟨("Reader", some "at_end"), "at_end", "Reader.at_end", defArgs s_Reader_at_end, defBody s_Reader_at_end, defScope s_Reader_at_end, [], []⟩
def d_Reader_take : He.DefD := ⟨("Reader", some "take"), "take", "Reader.take", defArgs s_Reader_take, defBody s_Reader_take, defScope s_Reader_take, [], []⟩
def d_Reader_take_many : He.DefD := ⟨("Reader", some "take_many"), "take_many", "Reader.take_many", defArgs s_Reader_take_many, defBody s_Reader_take_many, defScope s_Reader_take_many, [], []⟩
def d_Reader_take_row : He.DefD := ⟨("Reader", some "take_row"), "take_row", "Reader.take_row", defArgs s_Reader_take_row, defBody s_Reader_take_row, defScope s_Reader_take_row, [], []⟩
def d_check : He.DefD := ⟨("check", none), "check", "check", defArgs s_check, defBody s_check, defScope s_check, [], []⟩
def d_check_holder : He.DefD := ⟨("check_holder", none), "check_holder", "check_holder", defArgs s_check_holder, defBody s_check_holder, defScope s_check_holder, [], []⟩
def d_read_range : He.DefD := ⟨("read_range", none), "read_range", "read_range", defArgs s_read_range, defBody s_read_range, defScope s_read_range, [], []⟩
def d_read_condition : He.DefD := ⟨("read_condition", none), "read_condition", "read_condition", defArgs s_read_condition, defBody s_read_condition, defScope s_read_condition, [], []⟩
def d_read_policy : He.DefD := ⟨("read_policy", none), "read_policy", "read_policy", defArgs s_read_policy, defBody s_read_policy, defScope s_read_policy, [], []⟩
def d_check_edges : He.DefD := ⟨("check_edges", none), "check_edges", "check_edges", defArgs s_check_edges, defBody s_check_edges, defScope s_check_edges, [], []⟩
def d_read_code : He.DefD := ⟨("read_code", none), "read_code", "read_code", defArgs s_read_code, defBody s_read_code, defScope s_read_code, [], []⟩
def d_Grant_init : He.DefD := ⟨("Grant", some "__init__"), "__init__", "Grant.__init__", defArgs s_Grant_init, defBody s_Grant_init, defScope s_Grant_init, [], []⟩
def d_share : He.DefD := ⟨("share", none), "share", "share", defArgs s_share, defBody s_share, defScope s_share, [], []⟩
def d_may_give : He.DefD := ⟨("may_give", none), "may_give", "may_give", defArgs s_may_give, defBody s_may_give, defScope s_may_give, [], []⟩
def d_of_right : He.DefD := ⟨("of_right", none), "of_right", "of_right", defArgs s_of_right, defBody s_of_right, defScope s_of_right, [], []⟩
def d_is_given : He.DefD := ⟨("is_given", none), "is_given", "is_given", defArgs s_is_given, defBody s_is_given, defScope s_is_given, [], []⟩
def d_any_given : He.DefD := ⟨("any_given", none), "any_given", "any_given", defArgs s_any_given, defBody s_any_given, defScope s_any_given, [], []⟩
def d_without_given : He.DefD := ⟨("without_given", none), "without_given", "without_given", defArgs s_without_given, defBody s_without_given, defScope s_without_given, [], []⟩
def d_standing : He.DefD := ⟨("standing", none), "standing", "standing", defArgs s_standing, defBody s_standing, defScope s_standing, [], []⟩
def d_taken_back : He.DefD := ⟨("taken_back", none), "taken_back", "taken_back", defArgs s_taken_back, defBody s_taken_back, defScope s_taken_back, [], []⟩
def d_taken_over : He.DefD := ⟨("taken_over", none), "taken_over", "taken_over", defArgs s_taken_over, defBody s_taken_over, defScope s_taken_over, [], []⟩
def d_first_to : He.DefD := ⟨("first_to", none), "first_to", "first_to", defArgs s_first_to, defBody s_first_to, defScope s_first_to, [], []⟩
def d_chain_to : He.DefD := ⟨("chain_to", none), "chain_to", "chain_to", defArgs s_chain_to, defBody s_chain_to, defScope s_chain_to, [], []⟩
def d_without_user : He.DefD := ⟨("without_user", none), "without_user", "without_user", defArgs s_without_user, defBody s_without_user, defScope s_without_user, [], []⟩
def d_Ticket_init : He.DefD := ⟨("Ticket", some "__init__"), "__init__", "Ticket.__init__", defArgs s_Ticket_init, defBody s_Ticket_init, defScope s_Ticket_init, [], []⟩
def d_held_by : He.DefD := ⟨("held_by", none), "held_by", "held_by", defArgs s_held_by, defBody s_held_by, defScope s_held_by, [], []⟩
def d_caveats_of : He.DefD := ⟨("caveats_of", none), "caveats_of", "caveats_of", defArgs s_caveats_of, defBody s_caveats_of, defScope s_caveats_of, [], []⟩
def d_is_caveat : He.DefD := ⟨("is_caveat", none), "is_caveat", "is_caveat", defArgs s_is_caveat, defBody s_is_caveat, defScope s_is_caveat, [], []⟩
def d_are_caveats : He.DefD := ⟨("are_caveats", none), "are_caveats", "are_caveats", defArgs s_are_caveats, defBody s_are_caveats, defScope s_are_caveats, [], []⟩
def d_caveat_holds : He.DefD := ⟨("caveat_holds", none), "caveat_holds", "caveat_holds", defArgs s_caveat_holds, defBody s_caveat_holds, defScope s_caveat_holds, [], []⟩
def d_all_hold : He.DefD := ⟨("all_hold", none), "all_hold", "all_hold", defArgs s_all_hold, defBody s_all_hold, defScope s_all_hold, [], []⟩
def d_is_asked_rightly : He.DefD := ⟨("is_asked_rightly", none), "is_asked_rightly", "is_asked_rightly", defArgs s_is_asked_rightly, defBody s_is_asked_rightly, defScope s_is_asked_rightly, [], []⟩
def d_maker_has_right : He.DefD := ⟨("maker_has_right", none), "maker_has_right", "maker_has_right", defArgs s_maker_has_right, defBody s_maker_has_right, defScope s_maker_has_right, [], []⟩
def d_is_good : He.DefD := ⟨("is_good", none), "is_good", "is_good", defArgs s_is_good, defBody s_is_good, defScope s_is_good, [], []⟩
def d_has_entry : He.DefD := ⟨("has_entry", none), "has_entry", "has_entry", defArgs s_has_entry, defBody s_has_entry, defScope s_has_entry, [], []⟩
def d_permits : He.DefD := ⟨("permits", none), "permits", "permits", defArgs s_permits, defBody s_permits, defScope s_permits, [], []⟩
def d_allowers : He.DefD := ⟨("allowers", none), "allowers", "allowers", defArgs s_allowers, defBody s_allowers, defScope s_allowers, [], []⟩
def d_may_open : He.DefD := ⟨("may_open", none), "may_open", "may_open", defArgs s_may_open, defBody s_may_open, defScope s_may_open, [], []⟩
def d_is_gift : He.DefD := ⟨("is_gift", none), "is_gift", "is_gift", defArgs s_is_gift, defBody s_is_gift, defScope s_is_gift, [], []⟩
def d_do_grant : He.DefD := ⟨("do_grant", none), "do_grant", "do_grant", defArgs s_do_grant, defBody s_do_grant, defScope s_do_grant, [], []⟩
def d_gift_refusal : He.DefD := ⟨("gift_refusal", none), "gift_refusal", "gift_refusal", defArgs s_gift_refusal, defBody s_gift_refusal, defScope s_gift_refusal, [], []⟩
def d_do_revoke : He.DefD := ⟨("do_revoke", none), "do_revoke", "do_revoke", defArgs s_do_revoke, defBody s_do_revoke, defScope s_do_revoke, [], []⟩
def d_do_over : He.DefD := ⟨("do_over", none), "do_over", "do_over", defArgs s_do_over, defBody s_do_over, defScope s_do_over, [], []⟩
def d_do_leave : He.DefD := ⟨("do_leave", none), "do_leave", "do_leave", defArgs s_do_leave, defBody s_do_leave, defScope s_do_leave, [], []⟩
def d_do_policy : He.DefD := ⟨("do_policy", none), "do_policy", "do_policy", defArgs s_do_policy, defBody s_do_policy, defScope s_do_policy, [], []⟩
def d_do_quorum : He.DefD := ⟨("do_quorum", none), "do_quorum", "do_quorum", defArgs s_do_quorum, defBody s_do_quorum, defScope s_do_quorum, [], []⟩
def d_do_ticket : He.DefD := ⟨("do_ticket", none), "do_ticket", "do_ticket", defArgs s_do_ticket, defBody s_do_ticket, defScope s_do_ticket, [], []⟩
def d_do_narrow : He.DefD := ⟨("do_narrow", none), "do_narrow", "do_narrow", defArgs s_do_narrow, defBody s_do_narrow, defScope s_do_narrow, [], []⟩
def d_do_allow : He.DefD := ⟨("do_allow", none), "do_allow", "do_allow", defArgs s_do_allow, defBody s_do_allow, defScope s_do_allow, [], []⟩
def d_do_open : He.DefD := ⟨("do_open", none), "do_open", "do_open", defArgs s_do_open, defBody s_do_open, defScope s_do_open, [], []⟩
def d_do_call : He.DefD := ⟨("do_call", none), "do_call", "do_call", defArgs s_do_call, defBody s_do_call, defScope s_do_call, [], []⟩
def d_house_at : He.DefD := ⟨("house_at", none), "house_at", "house_at", defArgs s_house_at, defBody s_house_at, defScope s_house_at, [], []⟩
def d_openings_in : He.DefD := ⟨("openings_in", none), "openings_in", "openings_in", defArgs s_openings_in, defBody s_openings_in, defScope s_openings_in, [], []⟩
def d_done_without : He.DefD := ⟨("done_without", none), "done_without", "done_without", defArgs s_done_without, defBody s_done_without, defScope s_done_without, [], []⟩
def d_hanging_on : He.DefD := ⟨("hanging_on", none), "hanging_on", "hanging_on", defArgs s_hanging_on, defBody s_hanging_on, defScope s_hanging_on, [], []⟩
def d_counted : He.DefD := ⟨("counted", none), "counted", "counted", defArgs s_counted, defBody s_counted, defScope s_counted, [], []⟩
def d_tell_may : He.DefD := ⟨("tell_may", none), "tell_may", "tell_may", defArgs s_tell_may, defBody s_tell_may, defScope s_tell_may, [], []⟩
def d_tell_was : He.DefD := ⟨("tell_was", none), "tell_was", "tell_was", defArgs s_tell_was, defBody s_tell_was, defScope s_tell_was, [], []⟩
def d_tell_hang : He.DefD := ⟨("tell_hang", none), "tell_hang", "tell_hang", defArgs s_tell_hang, defBody s_tell_hang, defScope s_tell_hang, [], []⟩
def d_tell_opened : He.DefD := ⟨("tell_opened", none), "tell_opened", "tell_opened", defArgs s_tell_opened, defBody s_tell_opened, defScope s_tell_opened, [], []⟩
def d_tell_grants : He.DefD := ⟨("tell_grants", none), "tell_grants", "tell_grants", defArgs s_tell_grants, defBody s_tell_grants, defScope s_tell_grants, [], []⟩
def d_ticket_row : He.DefD := ⟨("ticket_row", none), "ticket_row", "ticket_row", defArgs s_ticket_row, defBody s_ticket_row, defScope s_ticket_row, [], []⟩
def d_tell_tickets : He.DefD := ⟨("tell_tickets", none), "tell_tickets", "tell_tickets", defArgs s_tell_tickets, defBody s_tell_tickets, defScope s_tell_tickets, [], []⟩
def d_tell_chain : He.DefD := ⟨("tell_chain", none), "tell_chain", "tell_chain", defArgs s_tell_chain, defBody s_tell_chain, defScope s_tell_chain, [], []⟩
def d_tell_allowers : He.DefD := ⟨("tell_allowers", none), "tell_allowers", "tell_allowers", defArgs s_tell_allowers, defBody s_tell_allowers, defScope s_tell_allowers, [], []⟩
def d_tell_call : He.DefD := ⟨("tell_call", none), "tell_call", "tell_call", defArgs s_tell_call, defBody s_tell_call, defScope s_tell_call, [], []⟩
def d_answer : He.DefD := ⟨("answer", none), "answer", "answer", defArgs s_answer, defBody s_answer, defScope s_answer, [], []⟩
def d_answers : He.DefD := ⟨("answers", none), "answers", "answers", defArgs s_answers, defBody s_answers, defScope s_answers, [], []⟩
def fn : List He.DefD := [d_read_call, d_does_something, d_is_user, d_is_door, d_is_request, d_House_init, d_holds, d_first_found, d_put_together, d_decide, d_Reader_init, d_Reader_at_end, d_Reader_take, d_Reader_take_many, d_Reader_take_row, d_check, d_check_holder, d_read_range, d_read_condition, d_read_policy, d_check_edges, d_read_code, d_Grant_init, d_share, d_may_give, d_of_right, d_is_given, d_any_given, d_without_given, d_standing, d_taken_back, d_taken_over, d_first_to, d_chain_to, d_without_user, d_Ticket_init, d_held_by, d_caveats_of, d_is_caveat, d_are_caveats, d_caveat_holds, d_all_hold, d_is_asked_rightly, d_maker_has_right, d_is_good, d_has_entry, d_permits, d_allowers, d_may_open, d_is_gift, d_do_grant, d_gift_refusal, d_do_revoke, d_do_over, d_do_leave, d_do_policy, d_do_quorum, d_do_ticket, d_do_narrow, d_do_allow, d_do_open, d_do_call, d_house_at, d_openings_in, d_done_without, d_hanging_on, d_counted, d_tell_may, d_tell_was, d_tell_hang, d_tell_opened, d_tell_grants, d_ticket_row, d_tell_tickets, d_tell_chain, d_tell_allowers, d_tell_call, d_answer, d_answers]
def fa0 : List He.Fa := [.int "GRANT" (0), .int "REVOKE" (1), .int "OVER" (2), .int "LEAVE" (3), .int "POLICY" (4), .int "QUORUM" (5), .int "TICKET" (6), .int "NARROW" (7), .int "ALLOW" (8), .int "OPENING" (9), .int "MAY" (10), .int "WAS" (11), .int "HANG" (12), .int "OPENED" (13), .int "GRANTS" (14), .int "TICKETS" (15), .int "CHAIN" (16), .int "ALLOWERS" (17), .int "HOUSE" (0), .int "MOST_USER" (12), .int "MOST_DOOR" (4), .int "ATTRIBUTES" (4), .int "MOST_VALUE" (100000), .int "MOST_DONE" (60), .int "MOST_GRANTS" (14), .int "MOST_QUORUM" (3), .int "WRONG" (-1), .int "UNKNOWN" (-2), .int "NO_GRANT" (-3), .int "FULL" (-5)]
def fa1 : List He.Fa := [.int "MAY_NOT" (-6), .int "ALWAYS" (0), .int "RANGE" (1), .int "ALL" (2), .int "ANY" (3), .int "NOT" (4), .int "RULE" (0), .int "SET" (1), .int "NOTHING" (0), .int "PERMIT" (1), .int "DENY" (2), .int "UNCLEAR" (3), .int "DENY_FIRST" (0), .int "PERMIT_FIRST" (1), .int "FIRST_TOLD" (2), .int "ONLY_ONE" (3), .int "MOST_NUMBERS" (120), .int "MOST_HOLDER_DEPTH" (9), .int "MOST_RANGE_NUMBER" (1000), .int "MOST_EDGES" (6), .int "WITH_LEAVE" (2), .int "MOST" (0), .int "JUST" (1), .int "LEAST" (2), .int "CAVEAT_ATTRIBUTES" (3), .int "CAVEAT_NUMBERS" (3), .int "MOST_CAVEATS" (8), .glo "read_call", .glo "does_something", .glo "is_user"]
def fa2 : List He.Fa := [.glo "is_door", .glo "is_request", .glo "holds", .glo "first_found", .glo "put_together", .glo "decide", .glo "check", .glo "check_holder", .glo "read_range", .glo "read_condition", .glo "read_policy", .glo "check_edges", .glo "read_code", .glo "share", .glo "may_give", .glo "of_right", .glo "is_given", .glo "any_given", .glo "without_given", .glo "standing", .glo "taken_back", .glo "taken_over", .glo "first_to", .glo "chain_to", .glo "without_user", .glo "held_by", .glo "caveats_of", .glo "is_caveat", .glo "are_caveats", .glo "caveat_holds"]
def fa3 : List He.Fa := [.glo "all_hold", .glo "is_asked_rightly", .glo "maker_has_right", .glo "is_good", .glo "has_entry", .glo "permits", .glo "allowers", .glo "may_open", .glo "is_gift", .glo "do_grant", .glo "gift_refusal", .glo "do_revoke", .glo "do_over", .glo "do_leave", .glo "do_policy", .glo "do_quorum", .glo "do_ticket", .glo "do_narrow", .glo "do_allow", .glo "do_open", .glo "do_call", .glo "house_at", .glo "openings_in", .glo "done_without", .glo "hanging_on", .glo "counted", .glo "tell_may", .glo "tell_was", .glo "tell_hang", .glo "tell_opened"]
def fa4 : List He.Fa := [.glo "tell_grants", .glo "ticket_row", .glo "tell_tickets", .glo "tell_chain", .glo "tell_allowers", .glo "tell_call", .glo "answer", .glo "answers", .glo "House", .cls "House", .mkr "House", .noat "House" "grants", .noat "House" "tickets", .noat "House" "policies", .noat "House" "quorums", .noat "House" "allowed", .glo "Reader", .cls "Reader", .mkr "Reader", .meth "Reader" "at_end", .meth "Reader" "take", .meth "Reader" "take_many", .meth "Reader" "take_row", .noat "Reader" "numbers", .noat "Reader" "place", .glo "Grant", .cls "Grant", .mkr "Grant", .noat "Grant" "number", .noat "Grant" "giver"]
def fa5 : List He.Fa := [.noat "Grant" "taker", .noat "Grant" "right", .noat "Grant" "leave", .glo "Ticket", .cls "Ticket", .mkr "Ticket", .noat "Ticket" "number", .noat "Ticket" "maker", .noat "Ticket" "holder", .noat "Ticket" "door", .noat "Ticket" "source", .noat "Ticket" "caveats", .glo "TooFew", .exc "TooFew", .exm "TooFew" "TooFew" true, .exm "TooFew" "BadCode" false, .glo "BadCode", .exc "BadCode", .exm "BadCode" "TooFew" false, .exm "BadCode" "BadCode" true, .glo "SHAPES", .free "ValueError", .free "all", .free "any", .free "enumerate", .free "int", .free "len", .free "list", .free "max", .free "range"]
def fa6 : List He.Fa := [.free "reversed", .free "set", .free "sorted"]
def fa : List He.Fa := fa0 ++ (fa1 ++ (fa2 ++ (fa3 ++ (fa4 ++ (fa5 ++ (fa6))))))
def shapes : List (Nat × Bool) := [(4, false), (3, false), (3, false), (1, false), (1, true), (2, false), (3, true), (3, true), (2, false), (3, true), (3, true), (4, true), (1, false), (0, false), (1, false), (1, false), (2, false), (2, false), (0, false)]
/-- what the head says of the program's top -/
structure TX (K : PySem.W.Frag) (mg : Str → Option Value) : Prop where
  says : He.SaysD fa fn K
  lies : ∃ h : Heap, K.In h ∧ h.Ns mainGlobals mg
  tab : shB K "SHAPES" shapes = true
section
variable {K : PySem.W.Frag} {mg : Str → Option Value} (T : TX K mg)
include T
theorem TX.i_GRANT : ∃ t, mg "GRANT" = some (.int (0) t) := by
  obtain ⟨h, X, G⟩ := T.lies
  exact He.int_ok X G (T.says.fact 0 (f := .int "GRANT" (0)) rfl)
theorem TX.i_REVOKE : ∃ t, mg "REVOKE" = some (.int (1) t) := by
  obtain ⟨h, X, G⟩ := T.lies
  exact He.int_ok X G (T.says.fact 1 (f := .int "REVOKE" (1)) rfl)
theorem TX.i_OVER : ∃ t, mg "OVER" = some (.int (2) t) := by
  obtain ⟨h, X, G⟩ := T.lies
  exact He.int_ok X G (T.says.fact 2 (f := .int "OVER" (2)) rfl)
theorem TX.i_LEAVE : ∃ t, mg "LEAVE" = some (.int (3) t) := by
  obtain ⟨h, X, G⟩ := T.lies
  exact He.int_ok X G (T.says.fact 3 (f := .int "LEAVE" (3)) rfl)
theorem TX.i_POLICY : ∃ t, mg "POLICY" = some (.int (4) t) := by
  obtain ⟨h, X, G⟩ := T.lies
  exact He.int_ok X G (T.says.fact 4 (f := .int "POLICY" (4)) rfl)
theorem TX.i_QUORUM : ∃ t, mg "QUORUM" = some (.int (5) t) := by
  obtain ⟨h, X, G⟩ := T.lies
  exact He.int_ok X G (T.says.fact 5 (f := .int "QUORUM" (5)) rfl)
theorem TX.i_TICKET : ∃ t, mg "TICKET" = some (.int (6) t) := by
  obtain ⟨h, X, G⟩ := T.lies
  exact He.int_ok X G (T.says.fact 6 (f := .int "TICKET" (6)) rfl)
theorem TX.i_NARROW : ∃ t, mg "NARROW" = some (.int (7) t) := by
  obtain ⟨h, X, G⟩ := T.lies
  exact He.int_ok X G (T.says.fact 7 (f := .int "NARROW" (7)) rfl)
theorem TX.i_ALLOW : ∃ t, mg "ALLOW" = some (.int (8) t) := by
  obtain ⟨h, X, G⟩ := T.lies
  exact He.int_ok X G (T.says.fact 8 (f := .int "ALLOW" (8)) rfl)
theorem TX.i_OPENING : ∃ t, mg "OPENING" = some (.int (9) t) := by
  obtain ⟨h, X, G⟩ := T.lies
  exact He.int_ok X G (T.says.fact 9 (f := .int "OPENING" (9)) rfl)
theorem TX.i_MAY : ∃ t, mg "MAY" = some (.int (10) t) := by
  obtain ⟨h, X, G⟩ := T.lies
  exact He.int_ok X G (T.says.fact 10 (f := .int "MAY" (10)) rfl)
theorem TX.i_WAS : ∃ t, mg "WAS" = some (.int (11) t) := by
  obtain ⟨h, X, G⟩ := T.lies
  exact He.int_ok X G (T.says.fact 11 (f := .int "WAS" (11)) rfl)
theorem TX.i_HANG : ∃ t, mg "HANG" = some (.int (12) t) := by
  obtain ⟨h, X, G⟩ := T.lies
  exact He.int_ok X G (T.says.fact 12 (f := .int "HANG" (12)) rfl)
theorem TX.i_OPENED : ∃ t, mg "OPENED" = some (.int (13) t) := by
  obtain ⟨h, X, G⟩ := T.lies
  exact He.int_ok X G (T.says.fact 13 (f := .int "OPENED" (13)) rfl)
theorem TX.i_GRANTS : ∃ t, mg "GRANTS" = some (.int (14) t) := by
  obtain ⟨h, X, G⟩ := T.lies
  exact He.int_ok X G (T.says.fact 14 (f := .int "GRANTS" (14)) rfl)
theorem TX.i_TICKETS : ∃ t, mg "TICKETS" = some (.int (15) t) := by
  obtain ⟨h, X, G⟩ := T.lies
  exact He.int_ok X G (T.says.fact 15 (f := .int "TICKETS" (15)) rfl)
theorem TX.i_CHAIN : ∃ t, mg "CHAIN" = some (.int (16) t) := by
  obtain ⟨h, X, G⟩ := T.lies
  exact He.int_ok X G (T.says.fact 16 (f := .int "CHAIN" (16)) rfl)
theorem TX.i_ALLOWERS : ∃ t, mg "ALLOWERS" = some (.int (17) t) := by
  obtain ⟨h, X, G⟩ := T.lies
  exact He.int_ok X G (T.says.fact 17 (f := .int "ALLOWERS" (17)) rfl)
theorem TX.i_HOUSE : ∃ t, mg "HOUSE" = some (.int (0) t) := by
  obtain ⟨h, X, G⟩ := T.lies
  exact He.int_ok X G (T.says.fact 18 (f := .int "HOUSE" (0)) rfl)
theorem TX.i_MOST_USER : ∃ t, mg "MOST_USER" = some (.int (12) t) := by
  obtain ⟨h, X, G⟩ := T.lies
  exact He.int_ok X G (T.says.fact 19 (f := .int "MOST_USER" (12)) rfl)
theorem TX.i_MOST_DOOR : ∃ t, mg "MOST_DOOR" = some (.int (4) t) := by
  obtain ⟨h, X, G⟩ := T.lies
  exact He.int_ok X G (T.says.fact 20 (f := .int "MOST_DOOR" (4)) rfl)
theorem TX.i_ATTRIBUTES : ∃ t, mg "ATTRIBUTES" = some (.int (4) t) := by
  obtain ⟨h, X, G⟩ := T.lies
  exact He.int_ok X G (T.says.fact 21 (f := .int "ATTRIBUTES" (4)) rfl)
theorem TX.i_MOST_VALUE : ∃ t, mg "MOST_VALUE" = some (.int (100000) t) := by
  obtain ⟨h, X, G⟩ := T.lies
  exact He.int_ok X G (T.says.fact 22 (f := .int "MOST_VALUE" (100000)) rfl)
theorem TX.i_MOST_DONE : ∃ t, mg "MOST_DONE" = some (.int (60) t) := by
  obtain ⟨h, X, G⟩ := T.lies
  exact He.int_ok X G (T.says.fact 23 (f := .int "MOST_DONE" (60)) rfl)
theorem TX.i_MOST_GRANTS : ∃ t, mg "MOST_GRANTS" = some (.int (14) t) := by
  obtain ⟨h, X, G⟩ := T.lies
  exact He.int_ok X G (T.says.fact 24 (f := .int "MOST_GRANTS" (14)) rfl)
theorem TX.i_MOST_QUORUM : ∃ t, mg "MOST_QUORUM" = some (.int (3) t) := by
  obtain ⟨h, X, G⟩ := T.lies
  exact He.int_ok X G (T.says.fact 25 (f := .int "MOST_QUORUM" (3)) rfl)
theorem TX.i_WRONG : ∃ t, mg "WRONG" = some (.int (-1) t) := by
  obtain ⟨h, X, G⟩ := T.lies
  exact He.int_ok X G (T.says.fact 26 (f := .int "WRONG" (-1)) rfl)
theorem TX.i_UNKNOWN : ∃ t, mg "UNKNOWN" = some (.int (-2) t) := by
  obtain ⟨h, X, G⟩ := T.lies
  exact He.int_ok X G (T.says.fact 27 (f := .int "UNKNOWN" (-2)) rfl)
theorem TX.i_NO_GRANT : ∃ t, mg "NO_GRANT" = some (.int (-3) t) := by
  obtain ⟨h, X, G⟩ := T.lies
  exact He.int_ok X G (T.says.fact 28 (f := .int "NO_GRANT" (-3)) rfl)
theorem TX.i_FULL : ∃ t, mg "FULL" = some (.int (-5) t) := by
  obtain ⟨h, X, G⟩ := T.lies
  exact He.int_ok X G (T.says.fact 29 (f := .int "FULL" (-5)) rfl)
theorem TX.i_MAY_NOT : ∃ t, mg "MAY_NOT" = some (.int (-6) t) := by
  obtain ⟨h, X, G⟩ := T.lies
  exact He.int_ok X G (T.says.fact 30 (f := .int "MAY_NOT" (-6)) rfl)
theorem TX.i_ALWAYS : ∃ t, mg "ALWAYS" = some (.int (0) t) := by
  obtain ⟨h, X, G⟩ := T.lies
  exact He.int_ok X G (T.says.fact 31 (f := .int "ALWAYS" (0)) rfl)
theorem TX.i_RANGE : ∃ t, mg "RANGE" = some (.int (1) t) := by
  obtain ⟨h, X, G⟩ := T.lies
  exact He.int_ok X G (T.says.fact 32 (f := .int "RANGE" (1)) rfl)
theorem TX.i_ALL : ∃ t, mg "ALL" = some (.int (2) t) := by
  obtain ⟨h, X, G⟩ := T.lies
  exact He.int_ok X G (T.says.fact 33 (f := .int "ALL" (2)) rfl)
theorem TX.i_ANY : ∃ t, mg "ANY" = some (.int (3) t) := by
  obtain ⟨h, X, G⟩ := T.lies
  exact He.int_ok X G (T.says.fact 34 (f := .int "ANY" (3)) rfl)
theorem TX.i_NOT : ∃ t, mg "NOT" = some (.int (4) t) := by
  obtain ⟨h, X, G⟩ := T.lies
  exact He.int_ok X G (T.says.fact 35 (f := .int "NOT" (4)) rfl)
theorem TX.i_RULE : ∃ t, mg "RULE" = some (.int (0) t) := by
  obtain ⟨h, X, G⟩ := T.lies
  exact He.int_ok X G (T.says.fact 36 (f := .int "RULE" (0)) rfl)
theorem TX.i_SET : ∃ t, mg "SET" = some (.int (1) t) := by
  obtain ⟨h, X, G⟩ := T.lies
  exact He.int_ok X G (T.says.fact 37 (f := .int "SET" (1)) rfl)
theorem TX.i_NOTHING : ∃ t, mg "NOTHING" = some (.int (0) t) := by
  obtain ⟨h, X, G⟩ := T.lies
  exact He.int_ok X G (T.says.fact 38 (f := .int "NOTHING" (0)) rfl)
theorem TX.i_PERMIT : ∃ t, mg "PERMIT" = some (.int (1) t) := by
  obtain ⟨h, X, G⟩ := T.lies
  exact He.int_ok X G (T.says.fact 39 (f := .int "PERMIT" (1)) rfl)
theorem TX.i_DENY : ∃ t, mg "DENY" = some (.int (2) t) := by
  obtain ⟨h, X, G⟩ := T.lies
  exact He.int_ok X G (T.says.fact 40 (f := .int "DENY" (2)) rfl)
theorem TX.i_UNCLEAR : ∃ t, mg "UNCLEAR" = some (.int (3) t) := by
  obtain ⟨h, X, G⟩ := T.lies
  exact He.int_ok X G (T.says.fact 41 (f := .int "UNCLEAR" (3)) rfl)
theorem TX.i_DENY_FIRST : ∃ t, mg "DENY_FIRST" = some (.int (0) t) := by
  obtain ⟨h, X, G⟩ := T.lies
  exact He.int_ok X G (T.says.fact 42 (f := .int "DENY_FIRST" (0)) rfl)
theorem TX.i_PERMIT_FIRST : ∃ t, mg "PERMIT_FIRST" = some (.int (1) t) := by
  obtain ⟨h, X, G⟩ := T.lies
  exact He.int_ok X G (T.says.fact 43 (f := .int "PERMIT_FIRST" (1)) rfl)
theorem TX.i_FIRST_TOLD : ∃ t, mg "FIRST_TOLD" = some (.int (2) t) := by
  obtain ⟨h, X, G⟩ := T.lies
  exact He.int_ok X G (T.says.fact 44 (f := .int "FIRST_TOLD" (2)) rfl)
theorem TX.i_ONLY_ONE : ∃ t, mg "ONLY_ONE" = some (.int (3) t) := by
  obtain ⟨h, X, G⟩ := T.lies
  exact He.int_ok X G (T.says.fact 45 (f := .int "ONLY_ONE" (3)) rfl)
theorem TX.i_MOST_NUMBERS : ∃ t, mg "MOST_NUMBERS" = some (.int (120) t) := by
  obtain ⟨h, X, G⟩ := T.lies
  exact He.int_ok X G (T.says.fact 46 (f := .int "MOST_NUMBERS" (120)) rfl)
theorem TX.i_MOST_HOLDER_DEPTH : ∃ t, mg "MOST_HOLDER_DEPTH" = some (.int (9) t) := by
  obtain ⟨h, X, G⟩ := T.lies
  exact He.int_ok X G (T.says.fact 47 (f := .int "MOST_HOLDER_DEPTH" (9)) rfl)
theorem TX.i_MOST_RANGE_NUMBER : ∃ t, mg "MOST_RANGE_NUMBER" = some (.int (1000) t) := by
  obtain ⟨h, X, G⟩ := T.lies
  exact He.int_ok X G (T.says.fact 48 (f := .int "MOST_RANGE_NUMBER" (1000)) rfl)
theorem TX.i_MOST_EDGES : ∃ t, mg "MOST_EDGES" = some (.int (6) t) := by
  obtain ⟨h, X, G⟩ := T.lies
  exact He.int_ok X G (T.says.fact 49 (f := .int "MOST_EDGES" (6)) rfl)
theorem TX.i_WITH_LEAVE : ∃ t, mg "WITH_LEAVE" = some (.int (2) t) := by
  obtain ⟨h, X, G⟩ := T.lies
  exact He.int_ok X G (T.says.fact 50 (f := .int "WITH_LEAVE" (2)) rfl)
theorem TX.i_MOST : ∃ t, mg "MOST" = some (.int (0) t) := by
  obtain ⟨h, X, G⟩ := T.lies
  exact He.int_ok X G (T.says.fact 51 (f := .int "MOST" (0)) rfl)
theorem TX.i_JUST : ∃ t, mg "JUST" = some (.int (1) t) := by
  obtain ⟨h, X, G⟩ := T.lies
  exact He.int_ok X G (T.says.fact 52 (f := .int "JUST" (1)) rfl)
theorem TX.i_LEAST : ∃ t, mg "LEAST" = some (.int (2) t) := by
  obtain ⟨h, X, G⟩ := T.lies
  exact He.int_ok X G (T.says.fact 53 (f := .int "LEAST" (2)) rfl)
theorem TX.i_CAVEAT_ATTRIBUTES : ∃ t, mg "CAVEAT_ATTRIBUTES" = some (.int (3) t) := by
  obtain ⟨h, X, G⟩ := T.lies
  exact He.int_ok X G (T.says.fact 54 (f := .int "CAVEAT_ATTRIBUTES" (3)) rfl)
theorem TX.i_CAVEAT_NUMBERS : ∃ t, mg "CAVEAT_NUMBERS" = some (.int (3) t) := by
  obtain ⟨h, X, G⟩ := T.lies
  exact He.int_ok X G (T.says.fact 55 (f := .int "CAVEAT_NUMBERS" (3)) rfl)
theorem TX.i_MOST_CAVEATS : ∃ t, mg "MOST_CAVEATS" = some (.int (8) t) := by
  obtain ⟨h, X, G⟩ := T.lies
  exact He.int_ok X G (T.says.fact 56 (f := .int "MOST_CAVEATS" (8)) rfl)
theorem TX.g_read_call : mg "read_call" = some (.ref (He.ga K "read_call")) := by
  obtain ⟨h, X, G⟩ := T.lies
  exact He.glo_ok X G (T.says.fact 57 (f := .glo "read_call") rfl)
theorem TX.g_does_something : mg "does_something" = some (.ref (He.ga K "does_something")) := by
  obtain ⟨h, X, G⟩ := T.lies
  exact He.glo_ok X G (T.says.fact 58 (f := .glo "does_something") rfl)
theorem TX.g_is_user : mg "is_user" = some (.ref (He.ga K "is_user")) := by
  obtain ⟨h, X, G⟩ := T.lies
  exact He.glo_ok X G (T.says.fact 59 (f := .glo "is_user") rfl)
theorem TX.g_is_door : mg "is_door" = some (.ref (He.ga K "is_door")) := by
  obtain ⟨h, X, G⟩ := T.lies
  exact He.glo_ok X G (T.says.fact 60 (f := .glo "is_door") rfl)
theorem TX.g_is_request : mg "is_request" = some (.ref (He.ga K "is_request")) := by
  obtain ⟨h, X, G⟩ := T.lies
  exact He.glo_ok X G (T.says.fact 61 (f := .glo "is_request") rfl)
theorem TX.g_holds : mg "holds" = some (.ref (He.ga K "holds")) := by
  obtain ⟨h, X, G⟩ := T.lies
  exact He.glo_ok X G (T.says.fact 62 (f := .glo "holds") rfl)
theorem TX.g_first_found : mg "first_found" = some (.ref (He.ga K "first_found")) := by
  obtain ⟨h, X, G⟩ := T.lies
  exact He.glo_ok X G (T.says.fact 63 (f := .glo "first_found") rfl)
theorem TX.g_put_together : mg "put_together" = some (.ref (He.ga K "put_together")) := by
  obtain ⟨h, X, G⟩ := T.lies
  exact He.glo_ok X G (T.says.fact 64 (f := .glo "put_together") rfl)
theorem TX.g_decide : mg "decide" = some (.ref (He.ga K "decide")) := by
  obtain ⟨h, X, G⟩ := T.lies
  exact He.glo_ok X G (T.says.fact 65 (f := .glo "decide") rfl)
theorem TX.g_check : mg "check" = some (.ref (He.ga K "check")) := by
  obtain ⟨h, X, G⟩ := T.lies
  exact He.glo_ok X G (T.says.fact 66 (f := .glo "check") rfl)
theorem TX.g_check_holder : mg "check_holder" = some (.ref (He.ga K "check_holder")) := by
  obtain ⟨h, X, G⟩ := T.lies
  exact He.glo_ok X G (T.says.fact 67 (f := .glo "check_holder") rfl)
theorem TX.g_read_range : mg "read_range" = some (.ref (He.ga K "read_range")) := by
  obtain ⟨h, X, G⟩ := T.lies
  exact He.glo_ok X G (T.says.fact 68 (f := .glo "read_range") rfl)
theorem TX.g_read_condition : mg "read_condition" = some (.ref (He.ga K "read_condition")) := by
  obtain ⟨h, X, G⟩ := T.lies
  exact He.glo_ok X G (T.says.fact 69 (f := .glo "read_condition") rfl)
theorem TX.g_read_policy : mg "read_policy" = some (.ref (He.ga K "read_policy")) := by
  obtain ⟨h, X, G⟩ := T.lies
  exact He.glo_ok X G (T.says.fact 70 (f := .glo "read_policy") rfl)
theorem TX.g_check_edges : mg "check_edges" = some (.ref (He.ga K "check_edges")) := by
  obtain ⟨h, X, G⟩ := T.lies
  exact He.glo_ok X G (T.says.fact 71 (f := .glo "check_edges") rfl)
theorem TX.g_read_code : mg "read_code" = some (.ref (He.ga K "read_code")) := by
  obtain ⟨h, X, G⟩ := T.lies
  exact He.glo_ok X G (T.says.fact 72 (f := .glo "read_code") rfl)
theorem TX.g_share : mg "share" = some (.ref (He.ga K "share")) := by
  obtain ⟨h, X, G⟩ := T.lies
  exact He.glo_ok X G (T.says.fact 73 (f := .glo "share") rfl)
theorem TX.g_may_give : mg "may_give" = some (.ref (He.ga K "may_give")) := by
  obtain ⟨h, X, G⟩ := T.lies
  exact He.glo_ok X G (T.says.fact 74 (f := .glo "may_give") rfl)
theorem TX.g_of_right : mg "of_right" = some (.ref (He.ga K "of_right")) := by
  obtain ⟨h, X, G⟩ := T.lies
  exact He.glo_ok X G (T.says.fact 75 (f := .glo "of_right") rfl)
theorem TX.g_is_given : mg "is_given" = some (.ref (He.ga K "is_given")) := by
  obtain ⟨h, X, G⟩ := T.lies
  exact He.glo_ok X G (T.says.fact 76 (f := .glo "is_given") rfl)
theorem TX.g_any_given : mg "any_given" = some (.ref (He.ga K "any_given")) := by
  obtain ⟨h, X, G⟩ := T.lies
  exact He.glo_ok X G (T.says.fact 77 (f := .glo "any_given") rfl)
theorem TX.g_without_given : mg "without_given" = some (.ref (He.ga K "without_given")) := by
  obtain ⟨h, X, G⟩ := T.lies
  exact He.glo_ok X G (T.says.fact 78 (f := .glo "without_given") rfl)
theorem TX.g_standing : mg "standing" = some (.ref (He.ga K "standing")) := by
  obtain ⟨h, X, G⟩ := T.lies
  exact He.glo_ok X G (T.says.fact 79 (f := .glo "standing") rfl)
theorem TX.g_taken_back : mg "taken_back" = some (.ref (He.ga K "taken_back")) := by
  obtain ⟨h, X, G⟩ := T.lies
  exact He.glo_ok X G (T.says.fact 80 (f := .glo "taken_back") rfl)
theorem TX.g_taken_over : mg "taken_over" = some (.ref (He.ga K "taken_over")) := by
  obtain ⟨h, X, G⟩ := T.lies
  exact He.glo_ok X G (T.says.fact 81 (f := .glo "taken_over") rfl)
theorem TX.g_first_to : mg "first_to" = some (.ref (He.ga K "first_to")) := by
  obtain ⟨h, X, G⟩ := T.lies
  exact He.glo_ok X G (T.says.fact 82 (f := .glo "first_to") rfl)
theorem TX.g_chain_to : mg "chain_to" = some (.ref (He.ga K "chain_to")) := by
  obtain ⟨h, X, G⟩ := T.lies
  exact He.glo_ok X G (T.says.fact 83 (f := .glo "chain_to") rfl)
theorem TX.g_without_user : mg "without_user" = some (.ref (He.ga K "without_user")) := by
  obtain ⟨h, X, G⟩ := T.lies
  exact He.glo_ok X G (T.says.fact 84 (f := .glo "without_user") rfl)
theorem TX.g_held_by : mg "held_by" = some (.ref (He.ga K "held_by")) := by
  obtain ⟨h, X, G⟩ := T.lies
  exact He.glo_ok X G (T.says.fact 85 (f := .glo "held_by") rfl)
theorem TX.g_caveats_of : mg "caveats_of" = some (.ref (He.ga K "caveats_of")) := by
  obtain ⟨h, X, G⟩ := T.lies
  exact He.glo_ok X G (T.says.fact 86 (f := .glo "caveats_of") rfl)
theorem TX.g_is_caveat : mg "is_caveat" = some (.ref (He.ga K "is_caveat")) := by
  obtain ⟨h, X, G⟩ := T.lies
  exact He.glo_ok X G (T.says.fact 87 (f := .glo "is_caveat") rfl)
theorem TX.g_are_caveats : mg "are_caveats" = some (.ref (He.ga K "are_caveats")) := by
  obtain ⟨h, X, G⟩ := T.lies
  exact He.glo_ok X G (T.says.fact 88 (f := .glo "are_caveats") rfl)
theorem TX.g_caveat_holds : mg "caveat_holds" = some (.ref (He.ga K "caveat_holds")) := by
  obtain ⟨h, X, G⟩ := T.lies
  exact He.glo_ok X G (T.says.fact 89 (f := .glo "caveat_holds") rfl)
theorem TX.g_all_hold : mg "all_hold" = some (.ref (He.ga K "all_hold")) := by
  obtain ⟨h, X, G⟩ := T.lies
  exact He.glo_ok X G (T.says.fact 90 (f := .glo "all_hold") rfl)
theorem TX.g_is_asked_rightly : mg "is_asked_rightly" = some (.ref (He.ga K "is_asked_rightly")) := by
  obtain ⟨h, X, G⟩ := T.lies
  exact He.glo_ok X G (T.says.fact 91 (f := .glo "is_asked_rightly") rfl)
theorem TX.g_maker_has_right : mg "maker_has_right" = some (.ref (He.ga K "maker_has_right")) := by
  obtain ⟨h, X, G⟩ := T.lies
  exact He.glo_ok X G (T.says.fact 92 (f := .glo "maker_has_right") rfl)
theorem TX.g_is_good : mg "is_good" = some (.ref (He.ga K "is_good")) := by
  obtain ⟨h, X, G⟩ := T.lies
  exact He.glo_ok X G (T.says.fact 93 (f := .glo "is_good") rfl)
theorem TX.g_has_entry : mg "has_entry" = some (.ref (He.ga K "has_entry")) := by
  obtain ⟨h, X, G⟩ := T.lies
  exact He.glo_ok X G (T.says.fact 94 (f := .glo "has_entry") rfl)
theorem TX.g_permits : mg "permits" = some (.ref (He.ga K "permits")) := by
  obtain ⟨h, X, G⟩ := T.lies
  exact He.glo_ok X G (T.says.fact 95 (f := .glo "permits") rfl)
theorem TX.g_allowers : mg "allowers" = some (.ref (He.ga K "allowers")) := by
  obtain ⟨h, X, G⟩ := T.lies
  exact He.glo_ok X G (T.says.fact 96 (f := .glo "allowers") rfl)
theorem TX.g_may_open : mg "may_open" = some (.ref (He.ga K "may_open")) := by
  obtain ⟨h, X, G⟩ := T.lies
  exact He.glo_ok X G (T.says.fact 97 (f := .glo "may_open") rfl)
theorem TX.g_is_gift : mg "is_gift" = some (.ref (He.ga K "is_gift")) := by
  obtain ⟨h, X, G⟩ := T.lies
  exact He.glo_ok X G (T.says.fact 98 (f := .glo "is_gift") rfl)
theorem TX.g_do_grant : mg "do_grant" = some (.ref (He.ga K "do_grant")) := by
  obtain ⟨h, X, G⟩ := T.lies
  exact He.glo_ok X G (T.says.fact 99 (f := .glo "do_grant") rfl)
theorem TX.g_gift_refusal : mg "gift_refusal" = some (.ref (He.ga K "gift_refusal")) := by
  obtain ⟨h, X, G⟩ := T.lies
  exact He.glo_ok X G (T.says.fact 100 (f := .glo "gift_refusal") rfl)
theorem TX.g_do_revoke : mg "do_revoke" = some (.ref (He.ga K "do_revoke")) := by
  obtain ⟨h, X, G⟩ := T.lies
  exact He.glo_ok X G (T.says.fact 101 (f := .glo "do_revoke") rfl)
theorem TX.g_do_over : mg "do_over" = some (.ref (He.ga K "do_over")) := by
  obtain ⟨h, X, G⟩ := T.lies
  exact He.glo_ok X G (T.says.fact 102 (f := .glo "do_over") rfl)
theorem TX.g_do_leave : mg "do_leave" = some (.ref (He.ga K "do_leave")) := by
  obtain ⟨h, X, G⟩ := T.lies
  exact He.glo_ok X G (T.says.fact 103 (f := .glo "do_leave") rfl)
theorem TX.g_do_policy : mg "do_policy" = some (.ref (He.ga K "do_policy")) := by
  obtain ⟨h, X, G⟩ := T.lies
  exact He.glo_ok X G (T.says.fact 104 (f := .glo "do_policy") rfl)
theorem TX.g_do_quorum : mg "do_quorum" = some (.ref (He.ga K "do_quorum")) := by
  obtain ⟨h, X, G⟩ := T.lies
  exact He.glo_ok X G (T.says.fact 105 (f := .glo "do_quorum") rfl)
theorem TX.g_do_ticket : mg "do_ticket" = some (.ref (He.ga K "do_ticket")) := by
  obtain ⟨h, X, G⟩ := T.lies
  exact He.glo_ok X G (T.says.fact 106 (f := .glo "do_ticket") rfl)
theorem TX.g_do_narrow : mg "do_narrow" = some (.ref (He.ga K "do_narrow")) := by
  obtain ⟨h, X, G⟩ := T.lies
  exact He.glo_ok X G (T.says.fact 107 (f := .glo "do_narrow") rfl)
theorem TX.g_do_allow : mg "do_allow" = some (.ref (He.ga K "do_allow")) := by
  obtain ⟨h, X, G⟩ := T.lies
  exact He.glo_ok X G (T.says.fact 108 (f := .glo "do_allow") rfl)
theorem TX.g_do_open : mg "do_open" = some (.ref (He.ga K "do_open")) := by
  obtain ⟨h, X, G⟩ := T.lies
  exact He.glo_ok X G (T.says.fact 109 (f := .glo "do_open") rfl)
theorem TX.g_do_call : mg "do_call" = some (.ref (He.ga K "do_call")) := by
  obtain ⟨h, X, G⟩ := T.lies
  exact He.glo_ok X G (T.says.fact 110 (f := .glo "do_call") rfl)
theorem TX.g_house_at : mg "house_at" = some (.ref (He.ga K "house_at")) := by
  obtain ⟨h, X, G⟩ := T.lies
  exact He.glo_ok X G (T.says.fact 111 (f := .glo "house_at") rfl)
theorem TX.g_openings_in : mg "openings_in" = some (.ref (He.ga K "openings_in")) := by
  obtain ⟨h, X, G⟩ := T.lies
  exact He.glo_ok X G (T.says.fact 112 (f := .glo "openings_in") rfl)
theorem TX.g_done_without : mg "done_without" = some (.ref (He.ga K "done_without")) := by
  obtain ⟨h, X, G⟩ := T.lies
  exact He.glo_ok X G (T.says.fact 113 (f := .glo "done_without") rfl)
theorem TX.g_hanging_on : mg "hanging_on" = some (.ref (He.ga K "hanging_on")) := by
  obtain ⟨h, X, G⟩ := T.lies
  exact He.glo_ok X G (T.says.fact 114 (f := .glo "hanging_on") rfl)
theorem TX.g_counted : mg "counted" = some (.ref (He.ga K "counted")) := by
  obtain ⟨h, X, G⟩ := T.lies
  exact He.glo_ok X G (T.says.fact 115 (f := .glo "counted") rfl)
theorem TX.g_tell_may : mg "tell_may" = some (.ref (He.ga K "tell_may")) := by
  obtain ⟨h, X, G⟩ := T.lies
  exact He.glo_ok X G (T.says.fact 116 (f := .glo "tell_may") rfl)
theorem TX.g_tell_was : mg "tell_was" = some (.ref (He.ga K "tell_was")) := by
  obtain ⟨h, X, G⟩ := T.lies
  exact He.glo_ok X G (T.says.fact 117 (f := .glo "tell_was") rfl)
theorem TX.g_tell_hang : mg "tell_hang" = some (.ref (He.ga K "tell_hang")) := by
  obtain ⟨h, X, G⟩ := T.lies
  exact He.glo_ok X G (T.says.fact 118 (f := .glo "tell_hang") rfl)
theorem TX.g_tell_opened : mg "tell_opened" = some (.ref (He.ga K "tell_opened")) := by
  obtain ⟨h, X, G⟩ := T.lies
  exact He.glo_ok X G (T.says.fact 119 (f := .glo "tell_opened") rfl)
theorem TX.g_tell_grants : mg "tell_grants" = some (.ref (He.ga K "tell_grants")) := by
  obtain ⟨h, X, G⟩ := T.lies
  exact He.glo_ok X G (T.says.fact 120 (f := .glo "tell_grants") rfl)
theorem TX.g_ticket_row : mg "ticket_row" = some (.ref (He.ga K "ticket_row")) := by
  obtain ⟨h, X, G⟩ := T.lies
  exact He.glo_ok X G (T.says.fact 121 (f := .glo "ticket_row") rfl)
theorem TX.g_tell_tickets : mg "tell_tickets" = some (.ref (He.ga K "tell_tickets")) := by
  obtain ⟨h, X, G⟩ := T.lies
  exact He.glo_ok X G (T.says.fact 122 (f := .glo "tell_tickets") rfl)
theorem TX.g_tell_chain : mg "tell_chain" = some (.ref (He.ga K "tell_chain")) := by
  obtain ⟨h, X, G⟩ := T.lies
  exact He.glo_ok X G (T.says.fact 123 (f := .glo "tell_chain") rfl)
theorem TX.g_tell_allowers : mg "tell_allowers" = some (.ref (He.ga K "tell_allowers")) := by
  obtain ⟨h, X, G⟩ := T.lies
  exact He.glo_ok X G (T.says.fact 124 (f := .glo "tell_allowers") rfl)
theorem TX.g_tell_call : mg "tell_call" = some (.ref (He.ga K "tell_call")) := by
  obtain ⟨h, X, G⟩ := T.lies
  exact He.glo_ok X G (T.says.fact 125 (f := .glo "tell_call") rfl)
theorem TX.g_answer : mg "answer" = some (.ref (He.ga K "answer")) := by
  obtain ⟨h, X, G⟩ := T.lies
  exact He.glo_ok X G (T.says.fact 126 (f := .glo "answer") rfl)
theorem TX.g_answers : mg "answers" = some (.ref (He.ga K "answers")) := by
  obtain ⟨h, X, G⟩ := T.lies
  exact He.glo_ok X G (T.says.fact 127 (f := .glo "answers") rfl)
theorem TX.g_House : mg "House" = some (.ref (He.ga K "House")) := by
  obtain ⟨h, X, G⟩ := T.lies
  exact He.glo_ok X G (T.says.fact 128 (f := .glo "House") rfl)
theorem TX.c_House : Cls K (He.ga K "House") := He.cls_ok (T.says.fact 129 (f := .cls "House") rfl)
theorem TX.k_House : Mk K (He.ga K "House") (He.ma K (He.ga K "House") "__init__") := He.mkr_ok (T.says.fact 130 (f := .mkr "House") rfl)
theorem TX.n_House_grants : NoAttr K (He.ga K "House") "grants" := He.noat_ok (T.says.fact 131 (f := .noat "House" "grants") rfl)
theorem TX.n_House_tickets : NoAttr K (He.ga K "House") "tickets" := He.noat_ok (T.says.fact 132 (f := .noat "House" "tickets") rfl)
theorem TX.n_House_policies : NoAttr K (He.ga K "House") "policies" := He.noat_ok (T.says.fact 133 (f := .noat "House" "policies") rfl)
theorem TX.n_House_quorums : NoAttr K (He.ga K "House") "quorums" := He.noat_ok (T.says.fact 134 (f := .noat "House" "quorums") rfl)
theorem TX.n_House_allowed : NoAttr K (He.ga K "House") "allowed" := He.noat_ok (T.says.fact 135 (f := .noat "House" "allowed") rfl)
theorem TX.g_Reader : mg "Reader" = some (.ref (He.ga K "Reader")) := by
  obtain ⟨h, X, G⟩ := T.lies
  exact He.glo_ok X G (T.says.fact 136 (f := .glo "Reader") rfl)
theorem TX.c_Reader : Cls K (He.ga K "Reader") := He.cls_ok (T.says.fact 137 (f := .cls "Reader") rfl)
theorem TX.k_Reader : Mk K (He.ga K "Reader") (He.ma K (He.ga K "Reader") "__init__") := He.mkr_ok (T.says.fact 138 (f := .mkr "Reader") rfl)
theorem TX.m_Reader_at_end : Meth K (He.ga K "Reader") "at_end" (He.ma K (He.ga K "Reader") "at_end") := He.meth_ok (T.says.fact 139 (f := .meth "Reader" "at_end") rfl)
theorem TX.m_Reader_take : Meth K (He.ga K "Reader") "take" (He.ma K (He.ga K "Reader") "take") := He.meth_ok (T.says.fact 140 (f := .meth "Reader" "take") rfl)
theorem TX.m_Reader_take_many : Meth K (He.ga K "Reader") "take_many" (He.ma K (He.ga K "Reader") "take_many") := He.meth_ok (T.says.fact 141 (f := .meth "Reader" "take_many") rfl)
theorem TX.m_Reader_take_row : Meth K (He.ga K "Reader") "take_row" (He.ma K (He.ga K "Reader") "take_row") := He.meth_ok (T.says.fact 142 (f := .meth "Reader" "take_row") rfl)
theorem TX.n_Reader_numbers : NoAttr K (He.ga K "Reader") "numbers" := He.noat_ok (T.says.fact 143 (f := .noat "Reader" "numbers") rfl)
theorem TX.n_Reader_place : NoAttr K (He.ga K "Reader") "place" := He.noat_ok (T.says.fact 144 (f := .noat "Reader" "place") rfl)
theorem TX.g_Grant : mg "Grant" = some (.ref (He.ga K "Grant")) := by
  obtain ⟨h, X, G⟩ := T.lies
  exact He.glo_ok X G (T.says.fact 145 (f := .glo "Grant") rfl)
theorem TX.c_Grant : Cls K (He.ga K "Grant") := He.cls_ok (T.says.fact 146 (f := .cls "Grant") rfl)
theorem TX.k_Grant : Mk K (He.ga K "Grant") (He.ma K (He.ga K "Grant") "__init__") := He.mkr_ok (T.says.fact 147 (f := .mkr "Grant") rfl)
theorem TX.n_Grant_number : NoAttr K (He.ga K "Grant") "number" := He.noat_ok (T.says.fact 148 (f := .noat "Grant" "number") rfl)
theorem TX.n_Grant_giver : NoAttr K (He.ga K "Grant") "giver" := He.noat_ok (T.says.fact 149 (f := .noat "Grant" "giver") rfl)
theorem TX.n_Grant_taker : NoAttr K (He.ga K "Grant") "taker" := He.noat_ok (T.says.fact 150 (f := .noat "Grant" "taker") rfl)
theorem TX.n_Grant_right : NoAttr K (He.ga K "Grant") "right" := He.noat_ok (T.says.fact 151 (f := .noat "Grant" "right") rfl)
theorem TX.n_Grant_leave : NoAttr K (He.ga K "Grant") "leave" := He.noat_ok (T.says.fact 152 (f := .noat "Grant" "leave") rfl)
theorem TX.g_Ticket : mg "Ticket" = some (.ref (He.ga K "Ticket")) := by
  obtain ⟨h, X, G⟩ := T.lies
  exact He.glo_ok X G (T.says.fact 153 (f := .glo "Ticket") rfl)
theorem TX.c_Ticket : Cls K (He.ga K "Ticket") := He.cls_ok (T.says.fact 154 (f := .cls "Ticket") rfl)
theorem TX.k_Ticket : Mk K (He.ga K "Ticket") (He.ma K (He.ga K "Ticket") "__init__") := He.mkr_ok (T.says.fact 155 (f := .mkr "Ticket") rfl)
theorem TX.n_Ticket_number : NoAttr K (He.ga K "Ticket") "number" := He.noat_ok (T.says.fact 156 (f := .noat "Ticket" "number") rfl)
theorem TX.n_Ticket_maker : NoAttr K (He.ga K "Ticket") "maker" := He.noat_ok (T.says.fact 157 (f := .noat "Ticket" "maker") rfl)
theorem TX.n_Ticket_holder : NoAttr K (He.ga K "Ticket") "holder" := He.noat_ok (T.says.fact 158 (f := .noat "Ticket" "holder") rfl)
theorem TX.n_Ticket_door : NoAttr K (He.ga K "Ticket") "door" := He.noat_ok (T.says.fact 159 (f := .noat "Ticket" "door") rfl)
theorem TX.n_Ticket_source : NoAttr K (He.ga K "Ticket") "source" := He.noat_ok (T.says.fact 160 (f := .noat "Ticket" "source") rfl)
theorem TX.n_Ticket_caveats : NoAttr K (He.ga K "Ticket") "caveats" := He.noat_ok (T.says.fact 161 (f := .noat "Ticket" "caveats") rfl)
theorem TX.g_TooFew : mg "TooFew" = some (.ref (He.ga K "TooFew")) := by
  obtain ⟨h, X, G⟩ := T.lies
  exact He.glo_ok X G (T.says.fact 162 (f := .glo "TooFew") rfl)
theorem TX.x_TooFew : PySem.W.excIn K (He.ga K "TooFew") He.veBase "ValueError.__new__" = true ∧ PySem.W.keepIn K (.ref (He.ga K "TooFew")) = true ∧ PySem.W.subIn K (.ref (He.ga K "TooFew")) (.type "BaseException") = some true ∧ PySem.W.typeIn K (.ref (He.ga K "TooFew")) = some (.type "type") := He.exc_ok (T.says.fact 163 (f := .exc "TooFew") rfl)
theorem TX.e_TooFew_TooFew : PySem.W.exmOne K (.ref (He.ga K "TooFew")) (.ref (He.ga K "TooFew")) = some true := He.exm_ok (T.says.fact 164 (f := .exm "TooFew" "TooFew" true) rfl)
theorem TX.e_TooFew_BadCode : PySem.W.exmOne K (.ref (He.ga K "TooFew")) (.ref (He.ga K "BadCode")) = some false := He.exm_ok (T.says.fact 165 (f := .exm "TooFew" "BadCode" false) rfl)
theorem TX.g_BadCode : mg "BadCode" = some (.ref (He.ga K "BadCode")) := by
  obtain ⟨h, X, G⟩ := T.lies
  exact He.glo_ok X G (T.says.fact 166 (f := .glo "BadCode") rfl)
theorem TX.x_BadCode : PySem.W.excIn K (He.ga K "BadCode") He.veBase "ValueError.__new__" = true ∧ PySem.W.keepIn K (.ref (He.ga K "BadCode")) = true ∧ PySem.W.subIn K (.ref (He.ga K "BadCode")) (.type "BaseException") = some true ∧ PySem.W.typeIn K (.ref (He.ga K "BadCode")) = some (.type "type") := He.exc_ok (T.says.fact 167 (f := .exc "BadCode") rfl)
theorem TX.e_BadCode_TooFew : PySem.W.exmOne K (.ref (He.ga K "BadCode")) (.ref (He.ga K "TooFew")) = some false := He.exm_ok (T.says.fact 168 (f := .exm "BadCode" "TooFew" false) rfl)
theorem TX.e_BadCode_BadCode : PySem.W.exmOne K (.ref (He.ga K "BadCode")) (.ref (He.ga K "BadCode")) = some true := He.exm_ok (T.says.fact 169 (f := .exm "BadCode" "BadCode" true) rfl)
theorem TX.g_SHAPES : mg "SHAPES" = some (.ref (He.ga K "SHAPES")) := by
  obtain ⟨h, X, G⟩ := T.lies
  exact He.glo_ok X G (T.says.fact 170 (f := .glo "SHAPES") rfl)
theorem TX.f_ValueError : mg "ValueError" = none := by
  obtain ⟨h, X, G⟩ := T.lies
  exact He.free_ok X G (T.says.fact 171 (f := .free "ValueError") rfl)
theorem TX.f_all : mg "all" = none := by
  obtain ⟨h, X, G⟩ := T.lies
  exact He.free_ok X G (T.says.fact 172 (f := .free "all") rfl)
theorem TX.f_any : mg "any" = none := by
  obtain ⟨h, X, G⟩ := T.lies
  exact He.free_ok X G (T.says.fact 173 (f := .free "any") rfl)
theorem TX.f_enumerate : mg "enumerate" = none := by
  obtain ⟨h, X, G⟩ := T.lies
  exact He.free_ok X G (T.says.fact 174 (f := .free "enumerate") rfl)
theorem TX.f_int : mg "int" = none := by
  obtain ⟨h, X, G⟩ := T.lies
  exact He.free_ok X G (T.says.fact 175 (f := .free "int") rfl)
theorem TX.f_len : mg "len" = none := by
  obtain ⟨h, X, G⟩ := T.lies
  exact He.free_ok X G (T.says.fact 176 (f := .free "len") rfl)
theorem TX.f_list : mg "list" = none := by
  obtain ⟨h, X, G⟩ := T.lies
  exact He.free_ok X G (T.says.fact 177 (f := .free "list") rfl)
theorem TX.f_max : mg "max" = none := by
  obtain ⟨h, X, G⟩ := T.lies
  exact He.free_ok X G (T.says.fact 178 (f := .free "max") rfl)
theorem TX.f_range : mg "range" = none := by
  obtain ⟨h, X, G⟩ := T.lies
  exact He.free_ok X G (T.says.fact 179 (f := .free "range") rfl)
theorem TX.f_reversed : mg "reversed" = none := by
  obtain ⟨h, X, G⟩ := T.lies
  exact He.free_ok X G (T.says.fact 180 (f := .free "reversed") rfl)
theorem TX.f_set : mg "set" = none := by
  obtain ⟨h, X, G⟩ := T.lies
  exact He.free_ok X G (T.says.fact 181 (f := .free "set") rfl)
theorem TX.f_sorted : mg "sorted" = none := by
  obtain ⟨h, X, G⟩ := T.lies
  exact He.free_ok X G (T.says.fact 182 (f := .free "sorted") rfl)
theorem TX.u_read_call : ∃ fd, FunD K d_read_call.name d_read_call.qual d_read_call.params d_read_call.body d_read_call.scope [] [] (He.ga K "read_call") fd := T.says.def_ 0 (d := d_read_call) rfl
theorem TX.u_does_something : ∃ fd, FunD K d_does_something.name d_does_something.qual d_does_something.params d_does_something.body d_does_something.scope [] [] (He.ga K "does_something") fd := T.says.def_ 1 (d := d_does_something) rfl
theorem TX.u_is_user : ∃ fd, FunD K d_is_user.name d_is_user.qual d_is_user.params d_is_user.body d_is_user.scope [] [] (He.ga K "is_user") fd := T.says.def_ 2 (d := d_is_user) rfl
theorem TX.u_is_door : ∃ fd, FunD K d_is_door.name d_is_door.qual d_is_door.params d_is_door.body d_is_door.scope [] [] (He.ga K "is_door") fd := T.says.def_ 3 (d := d_is_door) rfl
theorem TX.u_is_request : ∃ fd, FunD K d_is_request.name d_is_request.qual d_is_request.params d_is_request.body d_is_request.scope [] [] (He.ga K "is_request") fd := T.says.def_ 4 (d := d_is_request) rfl
theorem TX.u_House_init : ∃ fd, FunD K d_House_init.name d_House_init.qual d_House_init.params d_House_init.body d_House_init.scope [] [] (He.ma K (He.ga K "House") "__init__") fd := T.says.def_ 5 (d := d_House_init) rfl
theorem TX.u_holds : ∃ fd, FunD K d_holds.name d_holds.qual d_holds.params d_holds.body d_holds.scope [] [] (He.ga K "holds") fd := T.says.def_ 6 (d := d_holds) rfl
theorem TX.u_first_found : ∃ fd, FunD K d_first_found.name d_first_found.qual d_first_found.params d_first_found.body d_first_found.scope [] [] (He.ga K "first_found") fd := T.says.def_ 7 (d := d_first_found) rfl
theorem TX.u_put_together : ∃ fd, FunD K d_put_together.name d_put_together.qual d_put_together.params d_put_together.body d_put_together.scope [] [] (He.ga K "put_together") fd := T.says.def_ 8 (d := d_put_together) rfl
theorem TX.u_decide : ∃ fd, FunD K d_decide.name d_decide.qual d_decide.params d_decide.body d_decide.scope [] [] (He.ga K "decide") fd := T.says.def_ 9 (d := d_decide) rfl
theorem TX.u_Reader_init : ∃ fd, FunD K d_Reader_init.name d_Reader_init.qual d_Reader_init.params d_Reader_init.body d_Reader_init.scope [] [] (He.ma K (He.ga K "Reader") "__init__") fd := T.says.def_ 10 (d := d_Reader_init) rfl
theorem TX.u_Reader_at_end : ∃ fd, FunD K d_Reader_at_end.name d_Reader_at_end.qual d_Reader_at_end.params d_Reader_at_end.body d_Reader_at_end.scope [] [] (He.ma K (He.ga K "Reader") "at_end") fd := T.says.def_ 11 (d := d_Reader_at_end) rfl
theorem TX.u_Reader_take : ∃ fd, FunD K d_Reader_take.name d_Reader_take.qual d_Reader_take.params d_Reader_take.body d_Reader_take.scope [] [] (He.ma K (He.ga K "Reader") "take") fd := T.says.def_ 12 (d := d_Reader_take) rfl
theorem TX.u_Reader_take_many : ∃ fd, FunD K d_Reader_take_many.name d_Reader_take_many.qual d_Reader_take_many.params d_Reader_take_many.body d_Reader_take_many.scope [] [] (He.ma K (He.ga K "Reader") "take_many") fd := T.says.def_ 13 (d := d_Reader_take_many) rfl
theorem TX.u_Reader_take_row : ∃ fd, FunD K d_Reader_take_row.name d_Reader_take_row.qual d_Reader_take_row.params d_Reader_take_row.body d_Reader_take_row.scope [] [] (He.ma K (He.ga K "Reader") "take_row") fd := T.says.def_ 14 (d := d_Reader_take_row) rfl
theorem TX.u_check : ∃ fd, FunD K d_check.name d_check.qual d_check.params d_check.body d_check.scope [] [] (He.ga K "check") fd := T.says.def_ 15 (d := d_check) rfl
theorem TX.u_check_holder : ∃ fd, FunD K d_check_holder.name d_check_holder.qual d_check_holder.params d_check_holder.body d_check_holder.scope [] [] (He.ga K "check_holder") fd := T.says.def_ 16 (d := d_check_holder) rfl
theorem TX.u_read_range : ∃ fd, FunD K d_read_range.name d_read_range.qual d_read_range.params d_read_range.body d_read_range.scope [] [] (He.ga K "read_range") fd := T.says.def_ 17 (d := d_read_range) rfl
theorem TX.u_read_condition : ∃ fd, FunD K d_read_condition.name d_read_condition.qual d_read_condition.params d_read_condition.body d_read_condition.scope [] [] (He.ga K "read_condition") fd := T.says.def_ 18 (d := d_read_condition) rfl
theorem TX.u_read_policy : ∃ fd, FunD K d_read_policy.name d_read_policy.qual d_read_policy.params d_read_policy.body d_read_policy.scope [] [] (He.ga K "read_policy") fd := T.says.def_ 19 (d := d_read_policy) rfl
theorem TX.u_check_edges : ∃ fd, FunD K d_check_edges.name d_check_edges.qual d_check_edges.params d_check_edges.body d_check_edges.scope [] [] (He.ga K "check_edges") fd := T.says.def_ 20 (d := d_check_edges) rfl
theorem TX.u_read_code : ∃ fd, FunD K d_read_code.name d_read_code.qual d_read_code.params d_read_code.body d_read_code.scope [] [] (He.ga K "read_code") fd := T.says.def_ 21 (d := d_read_code) rfl
theorem TX.u_Grant_init : ∃ fd, FunD K d_Grant_init.name d_Grant_init.qual d_Grant_init.params d_Grant_init.body d_Grant_init.scope [] [] (He.ma K (He.ga K "Grant") "__init__") fd := T.says.def_ 22 (d := d_Grant_init) rfl
theorem TX.u_share : ∃ fd, FunD K d_share.name d_share.qual d_share.params d_share.body d_share.scope [] [] (He.ga K "share") fd := T.says.def_ 23 (d := d_share) rfl
theorem TX.u_may_give : ∃ fd, FunD K d_may_give.name d_may_give.qual d_may_give.params d_may_give.body d_may_give.scope [] [] (He.ga K "may_give") fd := T.says.def_ 24 (d := d_may_give) rfl
theorem TX.u_of_right : ∃ fd, FunD K d_of_right.name d_of_right.qual d_of_right.params d_of_right.body d_of_right.scope [] [] (He.ga K "of_right") fd := T.says.def_ 25 (d := d_of_right) rfl
theorem TX.u_is_given : ∃ fd, FunD K d_is_given.name d_is_given.qual d_is_given.params d_is_given.body d_is_given.scope [] [] (He.ga K "is_given") fd := T.says.def_ 26 (d := d_is_given) rfl
theorem TX.u_any_given : ∃ fd, FunD K d_any_given.name d_any_given.qual d_any_given.params d_any_given.body d_any_given.scope [] [] (He.ga K "any_given") fd := T.says.def_ 27 (d := d_any_given) rfl
theorem TX.u_without_given : ∃ fd, FunD K d_without_given.name d_without_given.qual d_without_given.params d_without_given.body d_without_given.scope [] [] (He.ga K "without_given") fd := T.says.def_ 28 (d := d_without_given) rfl
theorem TX.u_standing : ∃ fd, FunD K d_standing.name d_standing.qual d_standing.params d_standing.body d_standing.scope [] [] (He.ga K "standing") fd := T.says.def_ 29 (d := d_standing) rfl
theorem TX.u_taken_back : ∃ fd, FunD K d_taken_back.name d_taken_back.qual d_taken_back.params d_taken_back.body d_taken_back.scope [] [] (He.ga K "taken_back") fd := T.says.def_ 30 (d := d_taken_back) rfl
theorem TX.u_taken_over : ∃ fd, FunD K d_taken_over.name d_taken_over.qual d_taken_over.params d_taken_over.body d_taken_over.scope [] [] (He.ga K "taken_over") fd := T.says.def_ 31 (d := d_taken_over) rfl
theorem TX.u_first_to : ∃ fd, FunD K d_first_to.name d_first_to.qual d_first_to.params d_first_to.body d_first_to.scope [] [] (He.ga K "first_to") fd := T.says.def_ 32 (d := d_first_to) rfl
theorem TX.u_chain_to : ∃ fd, FunD K d_chain_to.name d_chain_to.qual d_chain_to.params d_chain_to.body d_chain_to.scope [] [] (He.ga K "chain_to") fd := T.says.def_ 33 (d := d_chain_to) rfl
theorem TX.u_without_user : ∃ fd, FunD K d_without_user.name d_without_user.qual d_without_user.params d_without_user.body d_without_user.scope [] [] (He.ga K "without_user") fd := T.says.def_ 34 (d := d_without_user) rfl
theorem TX.u_Ticket_init : ∃ fd, FunD K d_Ticket_init.name d_Ticket_init.qual d_Ticket_init.params d_Ticket_init.body d_Ticket_init.scope [] [] (He.ma K (He.ga K "Ticket") "__init__") fd := T.says.def_ 35 (d := d_Ticket_init) rfl
theorem TX.u_held_by : ∃ fd, FunD K d_held_by.name d_held_by.qual d_held_by.params d_held_by.body d_held_by.scope [] [] (He.ga K "held_by") fd := T.says.def_ 36 (d := d_held_by) rfl
theorem TX.u_caveats_of : ∃ fd, FunD K d_caveats_of.name d_caveats_of.qual d_caveats_of.params d_caveats_of.body d_caveats_of.scope [] [] (He.ga K "caveats_of") fd := T.says.def_ 37 (d := d_caveats_of) rfl
theorem TX.u_is_caveat : ∃ fd, FunD K d_is_caveat.name d_is_caveat.qual d_is_caveat.params d_is_caveat.body d_is_caveat.scope [] [] (He.ga K "is_caveat") fd := T.says.def_ 38 (d := d_is_caveat) rfl
theorem TX.u_are_caveats : ∃ fd, FunD K d_are_caveats.name d_are_caveats.qual d_are_caveats.params d_are_caveats.body d_are_caveats.scope [] [] (He.ga K "are_caveats") fd := T.says.def_ 39 (d := d_are_caveats) rfl
theorem TX.u_caveat_holds : ∃ fd, FunD K d_caveat_holds.name d_caveat_holds.qual d_caveat_holds.params d_caveat_holds.body d_caveat_holds.scope [] [] (He.ga K "caveat_holds") fd := T.says.def_ 40 (d := d_caveat_holds) rfl
theorem TX.u_all_hold : ∃ fd, FunD K d_all_hold.name d_all_hold.qual d_all_hold.params d_all_hold.body d_all_hold.scope [] [] (He.ga K "all_hold") fd := T.says.def_ 41 (d := d_all_hold) rfl
theorem TX.u_is_asked_rightly : ∃ fd, FunD K d_is_asked_rightly.name d_is_asked_rightly.qual d_is_asked_rightly.params d_is_asked_rightly.body d_is_asked_rightly.scope [] [] (He.ga K "is_asked_rightly") fd := T.says.def_ 42 (d := d_is_asked_rightly) rfl
theorem TX.u_maker_has_right : ∃ fd, FunD K d_maker_has_right.name d_maker_has_right.qual d_maker_has_right.params d_maker_has_right.body d_maker_has_right.scope [] [] (He.ga K "maker_has_right") fd := T.says.def_ 43 (d := d_maker_has_right) rfl
theorem TX.u_is_good : ∃ fd, FunD K d_is_good.name d_is_good.qual d_is_good.params d_is_good.body d_is_good.scope [] [] (He.ga K "is_good") fd := T.says.def_ 44 (d := d_is_good) rfl
theorem TX.u_has_entry : ∃ fd, FunD K d_has_entry.name d_has_entry.qual d_has_entry.params d_has_entry.body d_has_entry.scope [] [] (He.ga K "has_entry") fd := T.says.def_ 45 (d := d_has_entry) rfl
theorem TX.u_permits : ∃ fd, FunD K d_permits.name d_permits.qual d_permits.params d_permits.body d_permits.scope [] [] (He.ga K "permits") fd := T.says.def_ 46 (d := d_permits) rfl
theorem TX.u_allowers : ∃ fd, FunD K d_allowers.name d_allowers.qual d_allowers.params d_allowers.body d_allowers.scope [] [] (He.ga K "allowers") fd := T.says.def_ 47 (d := d_allowers) rfl
theorem TX.u_may_open : ∃ fd, FunD K d_may_open.name d_may_open.qual d_may_open.params d_may_open.body d_may_open.scope [] [] (He.ga K "may_open") fd := T.says.def_ 48 (d := d_may_open) rfl
theorem TX.u_is_gift : ∃ fd, FunD K d_is_gift.name d_is_gift.qual d_is_gift.params d_is_gift.body d_is_gift.scope [] [] (He.ga K "is_gift") fd := T.says.def_ 49 (d := d_is_gift) rfl
theorem TX.u_do_grant : ∃ fd, FunD K d_do_grant.name d_do_grant.qual d_do_grant.params d_do_grant.body d_do_grant.scope [] [] (He.ga K "do_grant") fd := T.says.def_ 50 (d := d_do_grant) rfl
theorem TX.u_gift_refusal : ∃ fd, FunD K d_gift_refusal.name d_gift_refusal.qual d_gift_refusal.params d_gift_refusal.body d_gift_refusal.scope [] [] (He.ga K "gift_refusal") fd := T.says.def_ 51 (d := d_gift_refusal) rfl
theorem TX.u_do_revoke : ∃ fd, FunD K d_do_revoke.name d_do_revoke.qual d_do_revoke.params d_do_revoke.body d_do_revoke.scope [] [] (He.ga K "do_revoke") fd := T.says.def_ 52 (d := d_do_revoke) rfl
theorem TX.u_do_over : ∃ fd, FunD K d_do_over.name d_do_over.qual d_do_over.params d_do_over.body d_do_over.scope [] [] (He.ga K "do_over") fd := T.says.def_ 53 (d := d_do_over) rfl
theorem TX.u_do_leave : ∃ fd, FunD K d_do_leave.name d_do_leave.qual d_do_leave.params d_do_leave.body d_do_leave.scope [] [] (He.ga K "do_leave") fd := T.says.def_ 54 (d := d_do_leave) rfl
theorem TX.u_do_policy : ∃ fd, FunD K d_do_policy.name d_do_policy.qual d_do_policy.params d_do_policy.body d_do_policy.scope [] [] (He.ga K "do_policy") fd := T.says.def_ 55 (d := d_do_policy) rfl
theorem TX.u_do_quorum : ∃ fd, FunD K d_do_quorum.name d_do_quorum.qual d_do_quorum.params d_do_quorum.body d_do_quorum.scope [] [] (He.ga K "do_quorum") fd := T.says.def_ 56 (d := d_do_quorum) rfl
theorem TX.u_do_ticket : ∃ fd, FunD K d_do_ticket.name d_do_ticket.qual d_do_ticket.params d_do_ticket.body d_do_ticket.scope [] [] (He.ga K "do_ticket") fd := T.says.def_ 57 (d := d_do_ticket) rfl
theorem TX.u_do_narrow : ∃ fd, FunD K d_do_narrow.name d_do_narrow.qual d_do_narrow.params d_do_narrow.body d_do_narrow.scope [] [] (He.ga K "do_narrow") fd := T.says.def_ 58 (d := d_do_narrow) rfl
theorem TX.u_do_allow : ∃ fd, FunD K d_do_allow.name d_do_allow.qual d_do_allow.params d_do_allow.body d_do_allow.scope [] [] (He.ga K "do_allow") fd := T.says.def_ 59 (d := d_do_allow) rfl
theorem TX.u_do_open : ∃ fd, FunD K d_do_open.name d_do_open.qual d_do_open.params d_do_open.body d_do_open.scope [] [] (He.ga K "do_open") fd := T.says.def_ 60 (d := d_do_open) rfl
theorem TX.u_do_call : ∃ fd, FunD K d_do_call.name d_do_call.qual d_do_call.params d_do_call.body d_do_call.scope [] [] (He.ga K "do_call") fd := T.says.def_ 61 (d := d_do_call) rfl
theorem TX.u_house_at : ∃ fd, FunD K d_house_at.name d_house_at.qual d_house_at.params d_house_at.body d_house_at.scope [] [] (He.ga K "house_at") fd := T.says.def_ 62 (d := d_house_at) rfl
theorem TX.u_openings_in : ∃ fd, FunD K d_openings_in.name d_openings_in.qual d_openings_in.params d_openings_in.body d_openings_in.scope [] [] (He.ga K "openings_in") fd := T.says.def_ 63 (d := d_openings_in) rfl
theorem TX.u_done_without : ∃ fd, FunD K d_done_without.name d_done_without.qual d_done_without.params d_done_without.body d_done_without.scope [] [] (He.ga K "done_without") fd := T.says.def_ 64 (d := d_done_without) rfl
theorem TX.u_hanging_on : ∃ fd, FunD K d_hanging_on.name d_hanging_on.qual d_hanging_on.params d_hanging_on.body d_hanging_on.scope [] [] (He.ga K "hanging_on") fd := T.says.def_ 65 (d := d_hanging_on) rfl
theorem TX.u_counted : ∃ fd, FunD K d_counted.name d_counted.qual d_counted.params d_counted.body d_counted.scope [] [] (He.ga K "counted") fd := T.says.def_ 66 (d := d_counted) rfl
theorem TX.u_tell_may : ∃ fd, FunD K d_tell_may.name d_tell_may.qual d_tell_may.params d_tell_may.body d_tell_may.scope [] [] (He.ga K "tell_may") fd := T.says.def_ 67 (d := d_tell_may) rfl
theorem TX.u_tell_was : ∃ fd, FunD K d_tell_was.name d_tell_was.qual d_tell_was.params d_tell_was.body d_tell_was.scope [] [] (He.ga K "tell_was") fd := T.says.def_ 68 (d := d_tell_was) rfl
theorem TX.u_tell_hang : ∃ fd, FunD K d_tell_hang.name d_tell_hang.qual d_tell_hang.params d_tell_hang.body d_tell_hang.scope [] [] (He.ga K "tell_hang") fd := T.says.def_ 69 (d := d_tell_hang) rfl
theorem TX.u_tell_opened : ∃ fd, FunD K d_tell_opened.name d_tell_opened.qual d_tell_opened.params d_tell_opened.body d_tell_opened.scope [] [] (He.ga K "tell_opened") fd := T.says.def_ 70 (d := d_tell_opened) rfl
theorem TX.u_tell_grants : ∃ fd, FunD K d_tell_grants.name d_tell_grants.qual d_tell_grants.params d_tell_grants.body d_tell_grants.scope [] [] (He.ga K "tell_grants") fd := T.says.def_ 71 (d := d_tell_grants) rfl
theorem TX.u_ticket_row : ∃ fd, FunD K d_ticket_row.name d_ticket_row.qual d_ticket_row.params d_ticket_row.body d_ticket_row.scope [] [] (He.ga K "ticket_row") fd := T.says.def_ 72 (d := d_ticket_row) rfl
theorem TX.u_tell_tickets : ∃ fd, FunD K d_tell_tickets.name d_tell_tickets.qual d_tell_tickets.params d_tell_tickets.body d_tell_tickets.scope [] [] (He.ga K "tell_tickets") fd := T.says.def_ 73 (d := d_tell_tickets) rfl
theorem TX.u_tell_chain : ∃ fd, FunD K d_tell_chain.name d_tell_chain.qual d_tell_chain.params d_tell_chain.body d_tell_chain.scope [] [] (He.ga K "tell_chain") fd := T.says.def_ 74 (d := d_tell_chain) rfl
theorem TX.u_tell_allowers : ∃ fd, FunD K d_tell_allowers.name d_tell_allowers.qual d_tell_allowers.params d_tell_allowers.body d_tell_allowers.scope [] [] (He.ga K "tell_allowers") fd := T.says.def_ 75 (d := d_tell_allowers) rfl
theorem TX.u_tell_call : ∃ fd, FunD K d_tell_call.name d_tell_call.qual d_tell_call.params d_tell_call.body d_tell_call.scope [] [] (He.ga K "tell_call") fd := T.says.def_ 76 (d := d_tell_call) rfl
theorem TX.u_answer : ∃ fd, FunD K d_answer.name d_answer.qual d_answer.params d_answer.body d_answer.scope [] [] (He.ga K "answer") fd := T.says.def_ 77 (d := d_answer) rfl
theorem TX.u_answers : ∃ fd, FunD K d_answers.name d_answers.qual d_answers.params d_answers.body d_answers.scope [] [] (He.ga K "answers") fd := T.says.def_ 78 (d := d_answers) rfl
end
abbrev N_read_call : List Str := ["reader", "kind", "shape", "call"]
theorem sc_read_call : FnScope N_read_call ["reader"] (defScope s_read_call) := ⟨rfl, rfl, rfl, by decide +kernel, rfl, by decide +kernel, by decide +kernel⟩
theorem b_read_call (kV doc pm : Value) (an : Option Addr) (cdv ct : Value) (us : List Value) (hl : us.length = (["reader"] : List Str).length) : bindArgs (PySem.W.fnOf d_read_call.name d_read_call.qual d_read_call.params d_read_call.body d_read_call.scope .none kV doc pm an cdv ct) ⟨us, []⟩ = pure ((["reader"] : List Str).zip us) := match us, hl with | [_], _ => rfl
abbrev N_does_something : List Str := ["call"]
theorem sc_does_something : FnScope N_does_something ["call"] (defScope s_does_something) := ⟨rfl, rfl, rfl, by decide +kernel, rfl, by decide +kernel, by decide +kernel⟩
theorem b_does_something (kV doc pm : Value) (an : Option Addr) (cdv ct : Value) (us : List Value) (hl : us.length = (["call"] : List Str).length) : bindArgs (PySem.W.fnOf d_does_something.name d_does_something.qual d_does_something.params d_does_something.body d_does_something.scope .none kV doc pm an cdv ct) ⟨us, []⟩ = pure ((["call"] : List Str).zip us) := match us, hl with | [_], _ => rfl
abbrev N_is_user : List Str := ["number"]
theorem sc_is_user : FnScope N_is_user ["number"] (defScope s_is_user) := ⟨rfl, rfl, rfl, by decide +kernel, rfl, by decide +kernel, by decide +kernel⟩
theorem b_is_user (kV doc pm : Value) (an : Option Addr) (cdv ct : Value) (us : List Value) (hl : us.length = (["number"] : List Str).length) : bindArgs (PySem.W.fnOf d_is_user.name d_is_user.qual d_is_user.params d_is_user.body d_is_user.scope .none kV doc pm an cdv ct) ⟨us, []⟩ = pure ((["number"] : List Str).zip us) := match us, hl with | [_], _ => rfl
abbrev N_is_door : List Str := ["number"]
theorem sc_is_door : FnScope N_is_door ["number"] (defScope s_is_door) := ⟨rfl, rfl, rfl, by decide +kernel, rfl, by decide +kernel, by decide +kernel⟩
theorem b_is_door (kV doc pm : Value) (an : Option Addr) (cdv ct : Value) (us : List Value) (hl : us.length = (["number"] : List Str).length) : bindArgs (PySem.W.fnOf d_is_door.name d_is_door.qual d_is_door.params d_is_door.body d_is_door.scope .none kV doc pm an cdv ct) ⟨us, []⟩ = pure ((["number"] : List Str).zip us) := match us, hl with | [_], _ => rfl
abbrev N_is_request : List Str := ["values", "value"]
theorem sc_is_request : FnScope N_is_request ["values"] (defScope s_is_request) := ⟨rfl, rfl, rfl, by decide +kernel, rfl, by decide +kernel, by decide +kernel⟩
theorem b_is_request (kV doc pm : Value) (an : Option Addr) (cdv ct : Value) (us : List Value) (hl : us.length = (["values"] : List Str).length) : bindArgs (PySem.W.fnOf d_is_request.name d_is_request.qual d_is_request.params d_is_request.body d_is_request.scope .none kV doc pm an cdv ct) ⟨us, []⟩ = pure ((["values"] : List Str).zip us) := match us, hl with | [_], _ => rfl
abbrev N_House_init : List Str := ["self", "door"]
theorem sc_House_init : FnScope N_House_init ["self"] (defScope s_House_init) := ⟨rfl, rfl, rfl, by decide +kernel, rfl, by decide +kernel, by decide +kernel⟩
theorem b_House_init (kV doc pm : Value) (an : Option Addr) (cdv ct : Value) (us : List Value) (hl : us.length = (["self"] : List Str).length) : bindArgs (PySem.W.fnOf d_House_init.name d_House_init.qual d_House_init.params d_House_init.body d_House_init.scope .none kV doc pm an cdv ct) ⟨us, []⟩ = pure ((["self"] : List Str).zip us) := match us, hl with | [_], _ => rfl
abbrev N_holds : List Str := ["condition", "values", "kind", "value", "found", "part"]
theorem sc_holds : FnScope N_holds ["condition", "values"] (defScope s_holds) := ⟨rfl, rfl, rfl, by decide +kernel, rfl, by decide +kernel, by decide +kernel⟩
theorem b_holds (kV doc pm : Value) (an : Option Addr) (cdv ct : Value) (us : List Value) (hl : us.length = (["condition", "values"] : List Str).length) : bindArgs (PySem.W.fnOf d_holds.name d_holds.qual d_holds.params d_holds.body d_holds.scope .none kV doc pm an cdv ct) ⟨us, []⟩ = pure ((["condition", "values"] : List Str).zip us) := match us, hl with | [_, _], _ => rfl
abbrev N_first_found : List Str := ["wanted", "decisions", "decision"]
theorem sc_first_found : FnScope N_first_found ["wanted", "decisions"] (defScope s_first_found) := ⟨rfl, rfl, rfl, by decide +kernel, rfl, by decide +kernel, by decide +kernel⟩
theorem b_first_found (kV doc pm : Value) (an : Option Addr) (cdv ct : Value) (us : List Value) (hl : us.length = (["wanted", "decisions"] : List Str).length) : bindArgs (PySem.W.fnOf d_first_found.name d_first_found.qual d_first_found.params d_first_found.body d_first_found.scope .none kV doc pm an cdv ct) ⟨us, []⟩ = pure ((["wanted", "decisions"] : List Str).zip us) := match us, hl with | [_, _], _ => rfl
abbrev N_put_together : List Str := ["way", "decisions", "told", "decision"]
theorem sc_put_together : FnScope N_put_together ["way", "decisions"] (defScope s_put_together) := ⟨rfl, rfl, rfl, by decide +kernel, rfl, by decide +kernel, by decide +kernel⟩
theorem b_put_together (kV doc pm : Value) (an : Option Addr) (cdv ct : Value) (us : List Value) (hl : us.length = (["way", "decisions"] : List Str).length) : bindArgs (PySem.W.fnOf d_put_together.name d_put_together.qual d_put_together.params d_put_together.body d_put_together.scope .none kV doc pm an cdv ct) ⟨us, []⟩ = pure ((["way", "decisions"] : List Str).zip us) := match us, hl with | [_, _], _ => rfl
abbrev N_decide : List Str := ["policy", "values", "part"]
theorem sc_decide : FnScope N_decide ["policy", "values"] (defScope s_decide) := ⟨rfl, rfl, rfl, by decide +kernel, rfl, by decide +kernel, by decide +kernel⟩
theorem b_decide (kV doc pm : Value) (an : Option Addr) (cdv ct : Value) (us : List Value) (hl : us.length = (["policy", "values"] : List Str).length) : bindArgs (PySem.W.fnOf d_decide.name d_decide.qual d_decide.params d_decide.body d_decide.scope .none kV doc pm an cdv ct) ⟨us, []⟩ = pure ((["policy", "values"] : List Str).zip us) := match us, hl with | [_, _], _ => rfl
abbrev N_Reader_init : List Str := ["self", "numbers"]
theorem sc_Reader_init : FnScope N_Reader_init ["self", "numbers"] (defScope s_Reader_init) := ⟨rfl, rfl, rfl, by decide +kernel, rfl, by decide +kernel, by decide +kernel⟩
theorem b_Reader_init (kV doc pm : Value) (an : Option Addr) (cdv ct : Value) (us : List Value) (hl : us.length = (["self", "numbers"] : List Str).length) : bindArgs (PySem.W.fnOf d_Reader_init.name d_Reader_init.qual d_Reader_init.params d_Reader_init.body d_Reader_init.scope .none kV doc pm an cdv ct) ⟨us, []⟩ = pure ((["self", "numbers"] : List Str).zip us) := match us, hl with | [_, _], _ => rfl
abbrev N_Reader_at_end : List Str := ["self"]
theorem sc_Reader_at_end : FnScope N_Reader_at_end ["self"] (defScope s_Reader_at_end) := ⟨rfl, rfl, rfl, by decide +kernel, rfl, by decide +kernel, by decide +kernel⟩
theorem b_Reader_at_end (kV doc pm : Value) (an : Option Addr) (cdv ct : Value) (us : List Value) (hl : us.length = (["self"] : List Str).length) : bindArgs (PySem.W.fnOf d_Reader_at_end.name d_Reader_at_end.qual d_Reader_at_end.params d_Reader_at_end.body d_Reader_at_end.scope .none kV doc pm an cdv ct) ⟨us, []⟩ = pure ((["self"] : List Str).zip us) := match us, hl with | [_], _ => rfl
abbrev N_Reader_take : List Str := ["self", "number"]
theorem sc_Reader_take : FnScope N_Reader_take ["self"] (defScope s_Reader_take) := ⟨rfl, rfl, rfl, by decide +kernel, rfl, by decide +kernel, by decide +kernel⟩
theorem b_Reader_take (kV doc pm : Value) (an : Option Addr) (cdv ct : Value) (us : List Value) (hl : us.length = (["self"] : List Str).length) : bindArgs (PySem.W.fnOf d_Reader_take.name d_Reader_take.qual d_Reader_take.params d_Reader_take.body d_Reader_take.scope .none kV doc pm an cdv ct) ⟨us, []⟩ = pure ((["self"] : List Str).zip us) := match us, hl with | [_], _ => rfl
abbrev N_Reader_take_many : List Str := ["self", "many", "turn"]
theorem sc_Reader_take_many : FnScope N_Reader_take_many ["self", "many"] (defScope s_Reader_take_many) := ⟨rfl, rfl, rfl, by decide +kernel, rfl, by decide +kernel, by decide +kernel⟩
theorem b_Reader_take_many (kV doc pm : Value) (an : Option Addr) (cdv ct : Value) (us : List Value) (hl : us.length = (["self", "many"] : List Str).length) : bindArgs (PySem.W.fnOf d_Reader_take_many.name d_Reader_take_many.qual d_Reader_take_many.params d_Reader_take_many.body d_Reader_take_many.scope .none kV doc pm an cdv ct) ⟨us, []⟩ = pure ((["self", "many"] : List Str).zip us) := match us, hl with | [_, _], _ => rfl
abbrev N_Reader_take_row : List Str := ["self"]
theorem sc_Reader_take_row : FnScope N_Reader_take_row ["self"] (defScope s_Reader_take_row) := ⟨rfl, rfl, rfl, by decide +kernel, rfl, by decide +kernel, by decide +kernel⟩
theorem b_Reader_take_row (kV doc pm : Value) (an : Option Addr) (cdv ct : Value) (us : List Value) (hl : us.length = (["self"] : List Str).length) : bindArgs (PySem.W.fnOf d_Reader_take_row.name d_Reader_take_row.qual d_Reader_take_row.params d_Reader_take_row.body d_Reader_take_row.scope .none kV doc pm an cdv ct) ⟨us, []⟩ = pure ((["self"] : List Str).zip us) := match us, hl with | [_], _ => rfl
abbrev N_check : List Str := ["fits"]
theorem sc_check : FnScope N_check ["fits"] (defScope s_check) := ⟨rfl, rfl, rfl, by decide +kernel, rfl, by decide +kernel, by decide +kernel⟩
theorem b_check (kV doc pm : Value) (an : Option Addr) (cdv ct : Value) (us : List Value) (hl : us.length = (["fits"] : List Str).length) : bindArgs (PySem.W.fnOf d_check.name d_check.qual d_check.params d_check.body d_check.scope .none kV doc pm an cdv ct) ⟨us, []⟩ = pure ((["fits"] : List Str).zip us) := match us, hl with | [_], _ => rfl
abbrev N_check_holder : List Str := ["depth"]
theorem sc_check_holder : FnScope N_check_holder ["depth"] (defScope s_check_holder) := ⟨rfl, rfl, rfl, by decide +kernel, rfl, by decide +kernel, by decide +kernel⟩
theorem b_check_holder (kV doc pm : Value) (an : Option Addr) (cdv ct : Value) (us : List Value) (hl : us.length = (["depth"] : List Str).length) : bindArgs (PySem.W.fnOf d_check_holder.name d_check_holder.qual d_check_holder.params d_check_holder.body d_check_holder.scope .none kV doc pm an cdv ct) ⟨us, []⟩ = pure ((["depth"] : List Str).zip us) := match us, hl with | [_], _ => rfl
abbrev N_read_range : List Str := ["reader", "ranges", "attribute", "first", "second", "found"]
theorem sc_read_range : FnScope N_read_range ["reader", "ranges"] (defScope s_read_range) := ⟨rfl, rfl, rfl, by decide +kernel, rfl, by decide +kernel, by decide +kernel⟩
theorem b_read_range (kV doc pm : Value) (an : Option Addr) (cdv ct : Value) (us : List Value) (hl : us.length = (["reader", "ranges"] : List Str).length) : bindArgs (PySem.W.fnOf d_read_range.name d_read_range.qual d_read_range.params d_read_range.body d_read_range.scope .none kV doc pm an cdv ct) ⟨us, []⟩ = pure ((["reader", "ranges"] : List Str).zip us) := match us, hl with | [_, _], _ => rfl
abbrev N_read_condition : List Str := ["reader", "depth", "ranges", "kind", "many", "turn"]
theorem sc_read_condition : FnScope N_read_condition ["reader", "depth", "ranges"] (defScope s_read_condition) := ⟨rfl, rfl, rfl, by decide +kernel, rfl, by decide +kernel, by decide +kernel⟩
theorem b_read_condition (kV doc pm : Value) (an : Option Addr) (cdv ct : Value) (us : List Value) (hl : us.length = (["reader", "depth", "ranges"] : List Str).length) : bindArgs (PySem.W.fnOf d_read_condition.name d_read_condition.qual d_read_condition.params d_read_condition.body d_read_condition.scope .none kV doc pm an cdv ct) ⟨us, []⟩ = pure ((["reader", "depth", "ranges"] : List Str).zip us) := match us, hl with | [_, _, _], _ => rfl
abbrev N_read_policy : List Str := ["reader", "depth", "ranges", "kind", "choice", "target", "many", "turn"]
theorem sc_read_policy : FnScope N_read_policy ["reader", "depth", "ranges"] (defScope s_read_policy) := ⟨rfl, rfl, rfl, by decide +kernel, rfl, by decide +kernel, by decide +kernel⟩
theorem b_read_policy (kV doc pm : Value) (an : Option Addr) (cdv ct : Value) (us : List Value) (hl : us.length = (["reader", "depth", "ranges"] : List Str).length) : bindArgs (PySem.W.fnOf d_read_policy.name d_read_policy.qual d_read_policy.params d_read_policy.body d_read_policy.scope .none kV doc pm an cdv ct) ⟨us, []⟩ = pure ((["reader", "depth", "ranges"] : List Str).zip us) := match us, hl with | [_, _, _], _ => rfl
abbrev N_check_edges : List Str := ["ranges", "attribute", "own", "edges", "found"]
theorem sc_check_edges : FnScope N_check_edges ["ranges"] (defScope s_check_edges) := ⟨rfl, rfl, rfl, by decide +kernel, rfl, by decide +kernel, by decide +kernel⟩
theorem b_check_edges (kV doc pm : Value) (an : Option Addr) (cdv ct : Value) (us : List Value) (hl : us.length = (["ranges"] : List Str).length) : bindArgs (PySem.W.fnOf d_check_edges.name d_check_edges.qual d_check_edges.params d_check_edges.body d_check_edges.scope .none kV doc pm an cdv ct) ⟨us, []⟩ = pure ((["ranges"] : List Str).zip us) := match us, hl with | [_], _ => rfl
abbrev N_read_code : List Str := ["code", "reader", "ranges", "policy", "e"]
theorem sc_read_code : FnScope N_read_code ["code"] (defScope s_read_code) := ⟨rfl, rfl, rfl, by decide +kernel, rfl, by decide +kernel, by decide +kernel⟩
theorem b_read_code (kV doc pm : Value) (an : Option Addr) (cdv ct : Value) (us : List Value) (hl : us.length = (["code"] : List Str).length) : bindArgs (PySem.W.fnOf d_read_code.name d_read_code.qual d_read_code.params d_read_code.body d_read_code.scope .none kV doc pm an cdv ct) ⟨us, []⟩ = pure ((["code"] : List Str).zip us) := match us, hl with | [_], _ => rfl
abbrev N_Grant_init : List Str := ["self", "number", "giver", "taker", "right", "leave"]
theorem sc_Grant_init : FnScope N_Grant_init ["self", "number", "giver", "taker", "right", "leave"] (defScope s_Grant_init) := ⟨rfl, rfl, rfl, by decide +kernel, rfl, by decide +kernel, by decide +kernel⟩
theorem b_Grant_init (kV doc pm : Value) (an : Option Addr) (cdv ct : Value) (us : List Value) (hl : us.length = (["self", "number", "giver", "taker", "right", "leave"] : List Str).length) : bindArgs (PySem.W.fnOf d_Grant_init.name d_Grant_init.qual d_Grant_init.params d_Grant_init.body d_Grant_init.scope .none kV doc pm an cdv ct) ⟨us, []⟩ = pure ((["self", "number", "giver", "taker", "right", "leave"] : List Str).zip us) := match us, hl with | [_, _, _, _, _, _], _ => rfl
abbrev N_share : List Str := ["grants", "user", "right", "grant"]
theorem sc_share : FnScope N_share ["grants", "user", "right"] (defScope s_share) := ⟨rfl, rfl, rfl, by decide +kernel, rfl, by decide +kernel, by decide +kernel⟩
theorem b_share (kV doc pm : Value) (an : Option Addr) (cdv ct : Value) (us : List Value) (hl : us.length = (["grants", "user", "right"] : List Str).length) : bindArgs (PySem.W.fnOf d_share.name d_share.qual d_share.params d_share.body d_share.scope .none kV doc pm an cdv ct) ⟨us, []⟩ = pure ((["grants", "user", "right"] : List Str).zip us) := match us, hl with | [_, _, _], _ => rfl
abbrev N_may_give : List Str := ["grants", "giver", "right"]
theorem sc_may_give : FnScope N_may_give ["grants", "giver", "right"] (defScope s_may_give) := ⟨rfl, rfl, rfl, by decide +kernel, rfl, by decide +kernel, by decide +kernel⟩
theorem b_may_give (kV doc pm : Value) (an : Option Addr) (cdv ct : Value) (us : List Value) (hl : us.length = (["grants", "giver", "right"] : List Str).length) : bindArgs (PySem.W.fnOf d_may_give.name d_may_give.qual d_may_give.params d_may_give.body d_may_give.scope .none kV doc pm an cdv ct) ⟨us, []⟩ = pure ((["grants", "giver", "right"] : List Str).zip us) := match us, hl with | [_, _, _], _ => rfl
abbrev N_of_right : List Str := ["grants", "right", "grant"]
theorem sc_of_right : FnScope N_of_right ["grants", "right"] (defScope s_of_right) := ⟨rfl, rfl, rfl, by decide +kernel, rfl, by decide +kernel, by decide +kernel⟩
theorem b_of_right (kV doc pm : Value) (an : Option Addr) (cdv ct : Value) (us : List Value) (hl : us.length = (["grants", "right"] : List Str).length) : bindArgs (PySem.W.fnOf d_of_right.name d_of_right.qual d_of_right.params d_of_right.body d_of_right.scope .none kV doc pm an cdv ct) ⟨us, []⟩ = pure ((["grants", "right"] : List Str).zip us) := match us, hl with | [_, _], _ => rfl
abbrev N_is_given : List Str := ["grant", "giver", "taker", "right"]
theorem sc_is_given : FnScope N_is_given ["grant", "giver", "taker", "right"] (defScope s_is_given) := ⟨rfl, rfl, rfl, by decide +kernel, rfl, by decide +kernel, by decide +kernel⟩
theorem b_is_given (kV doc pm : Value) (an : Option Addr) (cdv ct : Value) (us : List Value) (hl : us.length = (["grant", "giver", "taker", "right"] : List Str).length) : bindArgs (PySem.W.fnOf d_is_given.name d_is_given.qual d_is_given.params d_is_given.body d_is_given.scope .none kV doc pm an cdv ct) ⟨us, []⟩ = pure ((["grant", "giver", "taker", "right"] : List Str).zip us) := match us, hl with | [_, _, _, _], _ => rfl
abbrev N_any_given : List Str := ["grants", "giver", "taker", "right", "grant"]
theorem sc_any_given : FnScope N_any_given ["grants", "giver", "taker", "right"] (defScope s_any_given) := ⟨rfl, rfl, rfl, by decide +kernel, rfl, by decide +kernel, by decide +kernel⟩
theorem b_any_given (kV doc pm : Value) (an : Option Addr) (cdv ct : Value) (us : List Value) (hl : us.length = (["grants", "giver", "taker", "right"] : List Str).length) : bindArgs (PySem.W.fnOf d_any_given.name d_any_given.qual d_any_given.params d_any_given.body d_any_given.scope .none kV doc pm an cdv ct) ⟨us, []⟩ = pure ((["grants", "giver", "taker", "right"] : List Str).zip us) := match us, hl with | [_, _, _, _], _ => rfl
abbrev N_without_given : List Str := ["grants", "giver", "taker", "right", "grant"]
theorem sc_without_given : FnScope N_without_given ["grants", "giver", "taker", "right"] (defScope s_without_given) := ⟨rfl, rfl, rfl, by decide +kernel, rfl, by decide +kernel, by decide +kernel⟩
theorem b_without_given (kV doc pm : Value) (an : Option Addr) (cdv ct : Value) (us : List Value) (hl : us.length = (["grants", "giver", "taker", "right"] : List Str).length) : bindArgs (PySem.W.fnOf d_without_given.name d_without_given.qual d_without_given.params d_without_given.body d_without_given.scope .none kV doc pm an cdv ct) ⟨us, []⟩ = pure ((["grants", "giver", "taker", "right"] : List Str).zip us) := match us, hl with | [_, _, _, _], _ => rfl
abbrev N_standing : List Str := ["grants", "kept", "grant"]
theorem sc_standing : FnScope N_standing ["grants"] (defScope s_standing) := ⟨rfl, rfl, rfl, by decide +kernel, rfl, by decide +kernel, by decide +kernel⟩
theorem b_standing (kV doc pm : Value) (an : Option Addr) (cdv ct : Value) (us : List Value) (hl : us.length = (["grants"] : List Str).length) : bindArgs (PySem.W.fnOf d_standing.name d_standing.qual d_standing.params d_standing.body d_standing.scope .none kV doc pm an cdv ct) ⟨us, []⟩ = pure ((["grants"] : List Str).zip us) := match us, hl with | [_], _ => rfl
abbrev N_taken_back : List Str := ["grants", "giver", "taker", "right"]
theorem sc_taken_back : FnScope N_taken_back ["grants", "giver", "taker", "right"] (defScope s_taken_back) := ⟨rfl, rfl, rfl, by decide +kernel, rfl, by decide +kernel, by decide +kernel⟩
theorem b_taken_back (kV doc pm : Value) (an : Option Addr) (cdv ct : Value) (us : List Value) (hl : us.length = (["grants", "giver", "taker", "right"] : List Str).length) : bindArgs (PySem.W.fnOf d_taken_back.name d_taken_back.qual d_taken_back.params d_taken_back.body d_taken_back.scope .none kV doc pm an cdv ct) ⟨us, []⟩ = pure ((["grants", "giver", "taker", "right"] : List Str).zip us) := match us, hl with | [_, _, _, _], _ => rfl
abbrev N_taken_over : List Str := ["grants", "giver", "taker", "right", "kept", "grant"]
theorem sc_taken_over : FnScope N_taken_over ["grants", "giver", "taker", "right"] (defScope s_taken_over) := ⟨rfl, rfl, rfl, by decide +kernel, rfl, by decide +kernel, by decide +kernel⟩
theorem b_taken_over (kV doc pm : Value) (an : Option Addr) (cdv ct : Value) (us : List Value) (hl : us.length = (["grants", "giver", "taker", "right"] : List Str).length) : bindArgs (PySem.W.fnOf d_taken_over.name d_taken_over.qual d_taken_over.params d_taken_over.body d_taken_over.scope .none kV doc pm an cdv ct) ⟨us, []⟩ = pure ((["grants", "giver", "taker", "right"] : List Str).zip us) := match us, hl with | [_, _, _, _], _ => rfl
abbrev N_first_to : List Str := ["grants", "user", "right", "leave", "grant"]
theorem sc_first_to : FnScope N_first_to ["grants", "user", "right", "leave"] (defScope s_first_to) := ⟨rfl, rfl, rfl, by decide +kernel, rfl, by decide +kernel, by decide +kernel⟩
theorem b_first_to (kV doc pm : Value) (an : Option Addr) (cdv ct : Value) (us : List Value) (hl : us.length = (["grants", "user", "right", "leave"] : List Str).length) : bindArgs (PySem.W.fnOf d_first_to.name d_first_to.qual d_first_to.params d_first_to.body d_first_to.scope .none kV doc pm an cdv ct) ⟨us, []⟩ = pure ((["grants", "user", "right", "leave"] : List Str).zip us) := match us, hl with | [_, _, _, _], _ => rfl
abbrev N_chain_to : List Str := ["grants", "user", "right", "grant", "found"]
theorem sc_chain_to : FnScope N_chain_to ["grants", "user", "right"] (defScope s_chain_to) := ⟨rfl, rfl, rfl, by decide +kernel, rfl, by decide +kernel, by decide +kernel⟩
theorem b_chain_to (kV doc pm : Value) (an : Option Addr) (cdv ct : Value) (us : List Value) (hl : us.length = (["grants", "user", "right"] : List Str).length) : bindArgs (PySem.W.fnOf d_chain_to.name d_chain_to.qual d_chain_to.params d_chain_to.body d_chain_to.scope .none kV doc pm an cdv ct) ⟨us, []⟩ = pure ((["grants", "user", "right"] : List Str).zip us) := match us, hl with | [_, _, _], _ => rfl
abbrev N_without_user : List Str := ["grants", "user", "grant"]
theorem sc_without_user : FnScope N_without_user ["grants", "user"] (defScope s_without_user) := ⟨rfl, rfl, rfl, by decide +kernel, rfl, by decide +kernel, by decide +kernel⟩
theorem b_without_user (kV doc pm : Value) (an : Option Addr) (cdv ct : Value) (us : List Value) (hl : us.length = (["grants", "user"] : List Str).length) : bindArgs (PySem.W.fnOf d_without_user.name d_without_user.qual d_without_user.params d_without_user.body d_without_user.scope .none kV doc pm an cdv ct) ⟨us, []⟩ = pure ((["grants", "user"] : List Str).zip us) := match us, hl with | [_, _], _ => rfl
abbrev N_Ticket_init : List Str := ["self", "number", "maker", "holder", "door", "source", "caveats"]
theorem sc_Ticket_init : FnScope N_Ticket_init ["self", "number", "maker", "holder", "door", "source", "caveats"] (defScope s_Ticket_init) := ⟨rfl, rfl, rfl, by decide +kernel, rfl, by decide +kernel, by decide +kernel⟩
theorem b_Ticket_init (kV doc pm : Value) (an : Option Addr) (cdv ct : Value) (us : List Value) (hl : us.length = (["self", "number", "maker", "holder", "door", "source", "caveats"] : List Str).length) : bindArgs (PySem.W.fnOf d_Ticket_init.name d_Ticket_init.qual d_Ticket_init.params d_Ticket_init.body d_Ticket_init.scope .none kV doc pm an cdv ct) ⟨us, []⟩ = pure ((["self", "number", "maker", "holder", "door", "source", "caveats"] : List Str).zip us) := match us, hl with | [_, _, _, _, _, _, _], _ => rfl
abbrev N_held_by : List Str := ["tickets", "user", "ticket"]
theorem sc_held_by : FnScope N_held_by ["tickets", "user"] (defScope s_held_by) := ⟨rfl, rfl, rfl, by decide +kernel, rfl, by decide +kernel, by decide +kernel⟩
theorem b_held_by (kV doc pm : Value) (an : Option Addr) (cdv ct : Value) (us : List Value) (hl : us.length = (["tickets", "user"] : List Str).length) : bindArgs (PySem.W.fnOf d_held_by.name d_held_by.qual d_held_by.params d_held_by.body d_held_by.scope .none kV doc pm an cdv ct) ⟨us, []⟩ = pure ((["tickets", "user"] : List Str).zip us) := match us, hl with | [_, _], _ => rfl
abbrev N_caveats_of : List Str := ["row", "at"]
theorem sc_caveats_of : FnScope N_caveats_of ["row"] (defScope s_caveats_of) := ⟨rfl, rfl, rfl, by decide +kernel, rfl, by decide +kernel, by decide +kernel⟩
theorem b_caveats_of (kV doc pm : Value) (an : Option Addr) (cdv ct : Value) (us : List Value) (hl : us.length = (["row"] : List Str).length) : bindArgs (PySem.W.fnOf d_caveats_of.name d_caveats_of.qual d_caveats_of.params d_caveats_of.body d_caveats_of.scope .none kV doc pm an cdv ct) ⟨us, []⟩ = pure ((["row"] : List Str).zip us) := match us, hl with | [_], _ => rfl
abbrev N_is_caveat : List Str := ["caveat"]
theorem sc_is_caveat : FnScope N_is_caveat ["caveat"] (defScope s_is_caveat) := ⟨rfl, rfl, rfl, by decide +kernel, rfl, by decide +kernel, by decide +kernel⟩
theorem b_is_caveat (kV doc pm : Value) (an : Option Addr) (cdv ct : Value) (us : List Value) (hl : us.length = (["caveat"] : List Str).length) : bindArgs (PySem.W.fnOf d_is_caveat.name d_is_caveat.qual d_is_caveat.params d_is_caveat.body d_is_caveat.scope .none kV doc pm an cdv ct) ⟨us, []⟩ = pure ((["caveat"] : List Str).zip us) := match us, hl with | [_], _ => rfl
abbrev N_are_caveats : List Str := ["row", "caveat"]
theorem sc_are_caveats : FnScope N_are_caveats ["row"] (defScope s_are_caveats) := ⟨rfl, rfl, rfl, by decide +kernel, rfl, by decide +kernel, by decide +kernel⟩
theorem b_are_caveats (kV doc pm : Value) (an : Option Addr) (cdv ct : Value) (us : List Value) (hl : us.length = (["row"] : List Str).length) : bindArgs (PySem.W.fnOf d_are_caveats.name d_are_caveats.qual d_are_caveats.params d_are_caveats.body d_are_caveats.scope .none kV doc pm an cdv ct) ⟨us, []⟩ = pure ((["row"] : List Str).zip us) := match us, hl with | [_], _ => rfl
abbrev N_caveat_holds : List Str := ["caveat", "values", "value"]
theorem sc_caveat_holds : FnScope N_caveat_holds ["caveat", "values"] (defScope s_caveat_holds) := ⟨rfl, rfl, rfl, by decide +kernel, rfl, by decide +kernel, by decide +kernel⟩
theorem b_caveat_holds (kV doc pm : Value) (an : Option Addr) (cdv ct : Value) (us : List Value) (hl : us.length = (["caveat", "values"] : List Str).length) : bindArgs (PySem.W.fnOf d_caveat_holds.name d_caveat_holds.qual d_caveat_holds.params d_caveat_holds.body d_caveat_holds.scope .none kV doc pm an cdv ct) ⟨us, []⟩ = pure ((["caveat", "values"] : List Str).zip us) := match us, hl with | [_, _], _ => rfl
abbrev N_all_hold : List Str := ["caveats", "values", "caveat"]
theorem sc_all_hold : FnScope N_all_hold ["caveats", "values"] (defScope s_all_hold) := ⟨rfl, rfl, rfl, by decide +kernel, rfl, by decide +kernel, by decide +kernel⟩
theorem b_all_hold (kV doc pm : Value) (an : Option Addr) (cdv ct : Value) (us : List Value) (hl : us.length = (["caveats", "values"] : List Str).length) : bindArgs (PySem.W.fnOf d_all_hold.name d_all_hold.qual d_all_hold.params d_all_hold.body d_all_hold.scope .none kV doc pm an cdv ct) ⟨us, []⟩ = pure ((["caveats", "values"] : List Str).zip us) := match us, hl with | [_, _], _ => rfl
abbrev N_is_asked_rightly : List Str := ["user", "door", "values"]
theorem sc_is_asked_rightly : FnScope N_is_asked_rightly ["user", "door", "values"] (defScope s_is_asked_rightly) := ⟨rfl, rfl, rfl, by decide +kernel, rfl, by decide +kernel, by decide +kernel⟩
theorem b_is_asked_rightly (kV doc pm : Value) (an : Option Addr) (cdv ct : Value) (us : List Value) (hl : us.length = (["user", "door", "values"] : List Str).length) : bindArgs (PySem.W.fnOf d_is_asked_rightly.name d_is_asked_rightly.qual d_is_asked_rightly.params d_is_asked_rightly.body d_is_asked_rightly.scope .none kV doc pm an cdv ct) ⟨us, []⟩ = pure ((["user", "door", "values"] : List Str).zip us) := match us, hl with | [_, _, _], _ => rfl
abbrev N_maker_has_right : List Str := ["house", "ticket"]
theorem sc_maker_has_right : FnScope N_maker_has_right ["house", "ticket"] (defScope s_maker_has_right) := ⟨rfl, rfl, rfl, by decide +kernel, rfl, by decide +kernel, by decide +kernel⟩
theorem b_maker_has_right (kV doc pm : Value) (an : Option Addr) (cdv ct : Value) (us : List Value) (hl : us.length = (["house", "ticket"] : List Str).length) : bindArgs (PySem.W.fnOf d_maker_has_right.name d_maker_has_right.qual d_maker_has_right.params d_maker_has_right.body d_maker_has_right.scope .none kV doc pm an cdv ct) ⟨us, []⟩ = pure ((["house", "ticket"] : List Str).zip us) := match us, hl with | [_, _], _ => rfl
abbrev N_is_good : List Str := ["house", "ticket", "values"]
theorem sc_is_good : FnScope N_is_good ["house", "ticket", "values"] (defScope s_is_good) := ⟨rfl, rfl, rfl, by decide +kernel, rfl, by decide +kernel, by decide +kernel⟩
theorem b_is_good (kV doc pm : Value) (an : Option Addr) (cdv ct : Value) (us : List Value) (hl : us.length = (["house", "ticket", "values"] : List Str).length) : bindArgs (PySem.W.fnOf d_is_good.name d_is_good.qual d_is_good.params d_is_good.body d_is_good.scope .none kV doc pm an cdv ct) ⟨us, []⟩ = pure ((["house", "ticket", "values"] : List Str).zip us) := match us, hl with | [_, _, _], _ => rfl
abbrev N_has_entry : List Str := ["house", "user", "door", "ticket_number", "values", "ticket"]
theorem sc_has_entry : FnScope N_has_entry ["house", "user", "door", "ticket_number", "values"] (defScope s_has_entry) := ⟨rfl, rfl, rfl, by decide +kernel, rfl, by decide +kernel, by decide +kernel⟩
theorem b_has_entry (kV doc pm : Value) (an : Option Addr) (cdv ct : Value) (us : List Value) (hl : us.length = (["house", "user", "door", "ticket_number", "values"] : List Str).length) : bindArgs (PySem.W.fnOf d_has_entry.name d_has_entry.qual d_has_entry.params d_has_entry.body d_has_entry.scope .none kV doc pm an cdv ct) ⟨us, []⟩ = pure ((["house", "user", "door", "ticket_number", "values"] : List Str).zip us) := match us, hl with | [_, _, _, _, _], _ => rfl
abbrev N_permits : List Str := ["house", "door", "values", "policy"]
theorem sc_permits : FnScope N_permits ["house", "door", "values"] (defScope s_permits) := ⟨rfl, rfl, rfl, by decide +kernel, rfl, by decide +kernel, by decide +kernel⟩
theorem b_permits (kV doc pm : Value) (an : Option Addr) (cdv ct : Value) (us : List Value) (hl : us.length = (["house", "door", "values"] : List Str).length) : bindArgs (PySem.W.fnOf d_permits.name d_permits.qual d_permits.params d_permits.body d_permits.scope .none kV doc pm an cdv ct) ⟨us, []⟩ = pure ((["house", "door", "values"] : List Str).zip us) := match us, hl with | [_, _, _], _ => rfl
abbrev N_allowers : List Str := ["house", "user", "door", "others", "other"]
theorem sc_allowers : FnScope N_allowers ["house", "user", "door"] (defScope s_allowers) := ⟨rfl, rfl, rfl, by decide +kernel, rfl, by decide +kernel, by decide +kernel⟩
theorem b_allowers (kV doc pm : Value) (an : Option Addr) (cdv ct : Value) (us : List Value) (hl : us.length = (["house", "user", "door"] : List Str).length) : bindArgs (PySem.W.fnOf d_allowers.name d_allowers.qual d_allowers.params d_allowers.body d_allowers.scope .none kV doc pm an cdv ct) ⟨us, []⟩ = pure ((["house", "user", "door"] : List Str).zip us) := match us, hl with | [_, _, _], _ => rfl
abbrev N_may_open : List Str := ["house", "user", "door", "ticket_number", "values"]
theorem sc_may_open : FnScope N_may_open ["house", "user", "door", "ticket_number", "values"] (defScope s_may_open) := ⟨rfl, rfl, rfl, by decide +kernel, rfl, by decide +kernel, by decide +kernel⟩
theorem b_may_open (kV doc pm : Value) (an : Option Addr) (cdv ct : Value) (us : List Value) (hl : us.length = (["house", "user", "door", "ticket_number", "values"] : List Str).length) : bindArgs (PySem.W.fnOf d_may_open.name d_may_open.qual d_may_open.params d_may_open.body d_may_open.scope .none kV doc pm an cdv ct) ⟨us, []⟩ = pure ((["house", "user", "door", "ticket_number", "values"] : List Str).zip us) := match us, hl with | [_, _, _, _, _], _ => rfl
abbrev N_is_gift : List Str := ["giver", "taker", "right"]
theorem sc_is_gift : FnScope N_is_gift ["giver", "taker", "right"] (defScope s_is_gift) := ⟨rfl, rfl, rfl, by decide +kernel, rfl, by decide +kernel, by decide +kernel⟩
theorem b_is_gift (kV doc pm : Value) (an : Option Addr) (cdv ct : Value) (us : List Value) (hl : us.length = (["giver", "taker", "right"] : List Str).length) : bindArgs (PySem.W.fnOf d_is_gift.name d_is_gift.qual d_is_gift.params d_is_gift.body d_is_gift.scope .none kV doc pm an cdv ct) ⟨us, []⟩ = pure ((["giver", "taker", "right"] : List Str).zip us) := match us, hl with | [_, _, _], _ => rfl
abbrev N_do_grant : List Str := ["house", "number", "giver", "taker", "right", "leave"]
theorem sc_do_grant : FnScope N_do_grant ["house", "number", "giver", "taker", "right", "leave"] (defScope s_do_grant) := ⟨rfl, rfl, rfl, by decide +kernel, rfl, by decide +kernel, by decide +kernel⟩
theorem b_do_grant (kV doc pm : Value) (an : Option Addr) (cdv ct : Value) (us : List Value) (hl : us.length = (["house", "number", "giver", "taker", "right", "leave"] : List Str).length) : bindArgs (PySem.W.fnOf d_do_grant.name d_do_grant.qual d_do_grant.params d_do_grant.body d_do_grant.scope .none kV doc pm an cdv ct) ⟨us, []⟩ = pure ((["house", "number", "giver", "taker", "right", "leave"] : List Str).zip us) := match us, hl with | [_, _, _, _, _, _], _ => rfl
abbrev N_gift_refusal : List Str := ["house", "giver", "taker", "right"]
theorem sc_gift_refusal : FnScope N_gift_refusal ["house", "giver", "taker", "right"] (defScope s_gift_refusal) := ⟨rfl, rfl, rfl, by decide +kernel, rfl, by decide +kernel, by decide +kernel⟩
theorem b_gift_refusal (kV doc pm : Value) (an : Option Addr) (cdv ct : Value) (us : List Value) (hl : us.length = (["house", "giver", "taker", "right"] : List Str).length) : bindArgs (PySem.W.fnOf d_gift_refusal.name d_gift_refusal.qual d_gift_refusal.params d_gift_refusal.body d_gift_refusal.scope .none kV doc pm an cdv ct) ⟨us, []⟩ = pure ((["house", "giver", "taker", "right"] : List Str).zip us) := match us, hl with | [_, _, _, _], _ => rfl
abbrev N_do_revoke : List Str := ["house", "number", "giver", "taker", "right", "refusal"]
theorem sc_do_revoke : FnScope N_do_revoke ["house", "number", "giver", "taker", "right"] (defScope s_do_revoke) := ⟨rfl, rfl, rfl, by decide +kernel, rfl, by decide +kernel, by decide +kernel⟩
theorem b_do_revoke (kV doc pm : Value) (an : Option Addr) (cdv ct : Value) (us : List Value) (hl : us.length = (["house", "number", "giver", "taker", "right"] : List Str).length) : bindArgs (PySem.W.fnOf d_do_revoke.name d_do_revoke.qual d_do_revoke.params d_do_revoke.body d_do_revoke.scope .none kV doc pm an cdv ct) ⟨us, []⟩ = pure ((["house", "number", "giver", "taker", "right"] : List Str).zip us) := match us, hl with | [_, _, _, _, _], _ => rfl
abbrev N_do_over : List Str := ["house", "number", "giver", "taker", "right", "refusal"]
theorem sc_do_over : FnScope N_do_over ["house", "number", "giver", "taker", "right"] (defScope s_do_over) := ⟨rfl, rfl, rfl, by decide +kernel, rfl, by decide +kernel, by decide +kernel⟩
theorem b_do_over (kV doc pm : Value) (an : Option Addr) (cdv ct : Value) (us : List Value) (hl : us.length = (["house", "number", "giver", "taker", "right"] : List Str).length) : bindArgs (PySem.W.fnOf d_do_over.name d_do_over.qual d_do_over.params d_do_over.body d_do_over.scope .none kV doc pm an cdv ct) ⟨us, []⟩ = pure ((["house", "number", "giver", "taker", "right"] : List Str).zip us) := match us, hl with | [_, _, _, _, _], _ => rfl
abbrev N_do_leave : List Str := ["house", "number", "user"]
theorem sc_do_leave : FnScope N_do_leave ["house", "number", "user"] (defScope s_do_leave) := ⟨rfl, rfl, rfl, by decide +kernel, rfl, by decide +kernel, by decide +kernel⟩
theorem b_do_leave (kV doc pm : Value) (an : Option Addr) (cdv ct : Value) (us : List Value) (hl : us.length = (["house", "number", "user"] : List Str).length) : bindArgs (PySem.W.fnOf d_do_leave.name d_do_leave.qual d_do_leave.params d_do_leave.body d_do_leave.scope .none kV doc pm an cdv ct) ⟨us, []⟩ = pure ((["house", "number", "user"] : List Str).zip us) := match us, hl with | [_, _, _], _ => rfl
abbrev N_do_policy : List Str := ["house", "number", "door", "code"]
theorem sc_do_policy : FnScope N_do_policy ["house", "number", "door", "code"] (defScope s_do_policy) := ⟨rfl, rfl, rfl, by decide +kernel, rfl, by decide +kernel, by decide +kernel⟩
theorem b_do_policy (kV doc pm : Value) (an : Option Addr) (cdv ct : Value) (us : List Value) (hl : us.length = (["house", "number", "door", "code"] : List Str).length) : bindArgs (PySem.W.fnOf d_do_policy.name d_do_policy.qual d_do_policy.params d_do_policy.body d_do_policy.scope .none kV doc pm an cdv ct) ⟨us, []⟩ = pure ((["house", "number", "door", "code"] : List Str).zip us) := match us, hl with | [_, _, _, _], _ => rfl
abbrev N_do_quorum : List Str := ["house", "number", "door", "quorum"]
theorem sc_do_quorum : FnScope N_do_quorum ["house", "number", "door", "quorum"] (defScope s_do_quorum) := ⟨rfl, rfl, rfl, by decide +kernel, rfl, by decide +kernel, by decide +kernel⟩
theorem b_do_quorum (kV doc pm : Value) (an : Option Addr) (cdv ct : Value) (us : List Value) (hl : us.length = (["house", "number", "door", "quorum"] : List Str).length) : bindArgs (PySem.W.fnOf d_do_quorum.name d_do_quorum.qual d_do_quorum.params d_do_quorum.body d_do_quorum.scope .none kV doc pm an cdv ct) ⟨us, []⟩ = pure ((["house", "number", "door", "quorum"] : List Str).zip us) := match us, hl with | [_, _, _, _], _ => rfl
abbrev N_do_ticket : List Str := ["house", "number", "maker", "holder", "door", "row"]
theorem sc_do_ticket : FnScope N_do_ticket ["house", "number", "maker", "holder", "door", "row"] (defScope s_do_ticket) := ⟨rfl, rfl, rfl, by decide +kernel, rfl, by decide +kernel, by decide +kernel⟩
theorem b_do_ticket (kV doc pm : Value) (an : Option Addr) (cdv ct : Value) (us : List Value) (hl : us.length = (["house", "number", "maker", "holder", "door", "row"] : List Str).length) : bindArgs (PySem.W.fnOf d_do_ticket.name d_do_ticket.qual d_do_ticket.params d_do_ticket.body d_do_ticket.scope .none kV doc pm an cdv ct) ⟨us, []⟩ = pure ((["house", "number", "maker", "holder", "door", "row"] : List Str).zip us) := match us, hl with | [_, _, _, _, _, _], _ => rfl
abbrev N_do_narrow : List Str := ["house", "number", "user", "source", "holder", "row", "ticket", "caveats"]
theorem sc_do_narrow : FnScope N_do_narrow ["house", "number", "user", "source", "holder", "row"] (defScope s_do_narrow) := ⟨rfl, rfl, rfl, by decide +kernel, rfl, by decide +kernel, by decide +kernel⟩
theorem b_do_narrow (kV doc pm : Value) (an : Option Addr) (cdv ct : Value) (us : List Value) (hl : us.length = (["house", "number", "user", "source", "holder", "row"] : List Str).length) : bindArgs (PySem.W.fnOf d_do_narrow.name d_do_narrow.qual d_do_narrow.params d_do_narrow.body d_do_narrow.scope .none kV doc pm an cdv ct) ⟨us, []⟩ = pure ((["house", "number", "user", "source", "holder", "row"] : List Str).zip us) := match us, hl with | [_, _, _, _, _, _], _ => rfl
abbrev N_do_allow : List Str := ["house", "number", "user", "door"]
theorem sc_do_allow : FnScope N_do_allow ["house", "number", "user", "door"] (defScope s_do_allow) := ⟨rfl, rfl, rfl, by decide +kernel, rfl, by decide +kernel, by decide +kernel⟩
theorem b_do_allow (kV doc pm : Value) (an : Option Addr) (cdv ct : Value) (us : List Value) (hl : us.length = (["house", "number", "user", "door"] : List Str).length) : bindArgs (PySem.W.fnOf d_do_allow.name d_do_allow.qual d_do_allow.params d_do_allow.body d_do_allow.scope .none kV doc pm an cdv ct) ⟨us, []⟩ = pure ((["house", "number", "user", "door"] : List Str).zip us) := match us, hl with | [_, _, _, _], _ => rfl
abbrev N_do_open : List Str := ["house", "number", "user", "door", "ticket_number", "values"]
theorem sc_do_open : FnScope N_do_open ["house", "number", "user", "door", "ticket_number", "values"] (defScope s_do_open) := ⟨rfl, rfl, rfl, by decide +kernel, rfl, by decide +kernel, by decide +kernel⟩
theorem b_do_open (kV doc pm : Value) (an : Option Addr) (cdv ct : Value) (us : List Value) (hl : us.length = (["house", "number", "user", "door", "ticket_number", "values"] : List Str).length) : bindArgs (PySem.W.fnOf d_do_open.name d_do_open.qual d_do_open.params d_do_open.body d_do_open.scope .none kV doc pm an cdv ct) ⟨us, []⟩ = pure ((["house", "number", "user", "door", "ticket_number", "values"] : List Str).zip us) := match us, hl with | [_, _, _, _, _, _], _ => rfl
abbrev N_do_call : List Str := ["house", "number", "call", "kind"]
theorem sc_do_call : FnScope N_do_call ["house", "number", "call"] (defScope s_do_call) := ⟨rfl, rfl, rfl, by decide +kernel, rfl, by decide +kernel, by decide +kernel⟩
theorem b_do_call (kV doc pm : Value) (an : Option Addr) (cdv ct : Value) (us : List Value) (hl : us.length = (["house", "number", "call"] : List Str).length) : bindArgs (PySem.W.fnOf d_do_call.name d_do_call.qual d_do_call.params d_do_call.body d_do_call.scope .none kV doc pm an cdv ct) ⟨us, []⟩ = pure ((["house", "number", "call"] : List Str).zip us) := match us, hl with | [_, _, _], _ => rfl
abbrev N_house_at : List Str := ["log", "moment", "house", "number", "call"]
theorem sc_house_at : FnScope N_house_at ["log", "moment"] (defScope s_house_at) := ⟨rfl, rfl, rfl, by decide +kernel, rfl, by decide +kernel, by decide +kernel⟩
theorem b_house_at (kV doc pm : Value) (an : Option Addr) (cdv ct : Value) (us : List Value) (hl : us.length = (["log", "moment"] : List Str).length) : bindArgs (PySem.W.fnOf d_house_at.name d_house_at.qual d_house_at.params d_house_at.body d_house_at.scope .none kV doc pm an cdv ct) ⟨us, []⟩ = pure ((["log", "moment"] : List Str).zip us) := match us, hl with | [_, _], _ => rfl
abbrev N_openings_in : List Str := ["log", "number", "call"]
theorem sc_openings_in : FnScope N_openings_in ["log"] (defScope s_openings_in) := ⟨rfl, rfl, rfl, by decide +kernel, rfl, by decide +kernel, by decide +kernel⟩
theorem b_openings_in (kV doc pm : Value) (an : Option Addr) (cdv ct : Value) (us : List Value) (hl : us.length = (["log"] : List Str).length) : bindArgs (PySem.W.fnOf d_openings_in.name d_openings_in.qual d_openings_in.params d_openings_in.body d_openings_in.scope .none kV doc pm an cdv ct) ⟨us, []⟩ = pure ((["log"] : List Str).zip us) := match us, hl with | [_], _ => rfl
abbrev N_done_without : List Str := ["log", "left_out", "house", "done", "number", "call"]
theorem sc_done_without : FnScope N_done_without ["log", "left_out"] (defScope s_done_without) := ⟨rfl, rfl, rfl, by decide +kernel, rfl, by decide +kernel, by decide +kernel⟩
theorem b_done_without (kV doc pm : Value) (an : Option Addr) (cdv ct : Value) (us : List Value) (hl : us.length = (["log", "left_out"] : List Str).length) : bindArgs (PySem.W.fnOf d_done_without.name d_done_without.qual d_done_without.params d_done_without.body d_done_without.scope .none kV doc pm an cdv ct) ⟨us, []⟩ = pure ((["log", "left_out"] : List Str).zip us) := match us, hl with | [_, _], _ => rfl
abbrev N_hanging_on : List Str := ["log", "left_out", "done", "number"]
theorem sc_hanging_on : FnScope N_hanging_on ["log", "left_out"] (defScope s_hanging_on) := ⟨rfl, rfl, rfl, by decide +kernel, rfl, by decide +kernel, by decide +kernel⟩
theorem b_hanging_on (kV doc pm : Value) (an : Option Addr) (cdv ct : Value) (us : List Value) (hl : us.length = (["log", "left_out"] : List Str).length) : bindArgs (PySem.W.fnOf d_hanging_on.name d_hanging_on.qual d_hanging_on.params d_hanging_on.body d_hanging_on.scope .none kV doc pm an cdv ct) ⟨us, []⟩ = pure ((["log", "left_out"] : List Str).zip us) := match us, hl with | [_, _], _ => rfl
abbrev N_counted : List Str := ["numbers"]
theorem sc_counted : FnScope N_counted ["numbers"] (defScope s_counted) := ⟨rfl, rfl, rfl, by decide +kernel, rfl, by decide +kernel, by decide +kernel⟩
theorem b_counted (kV doc pm : Value) (an : Option Addr) (cdv ct : Value) (us : List Value) (hl : us.length = (["numbers"] : List Str).length) : bindArgs (PySem.W.fnOf d_counted.name d_counted.qual d_counted.params d_counted.body d_counted.scope .none kV doc pm an cdv ct) ⟨us, []⟩ = pure ((["numbers"] : List Str).zip us) := match us, hl with | [_], _ => rfl
abbrev N_tell_may : List Str := ["house", "user", "door", "ticket_number", "values"]
theorem sc_tell_may : FnScope N_tell_may ["house", "user", "door", "ticket_number", "values"] (defScope s_tell_may) := ⟨rfl, rfl, rfl, by decide +kernel, rfl, by decide +kernel, by decide +kernel⟩
theorem b_tell_may (kV doc pm : Value) (an : Option Addr) (cdv ct : Value) (us : List Value) (hl : us.length = (["house", "user", "door", "ticket_number", "values"] : List Str).length) : bindArgs (PySem.W.fnOf d_tell_may.name d_tell_may.qual d_tell_may.params d_tell_may.body d_tell_may.scope .none kV doc pm an cdv ct) ⟨us, []⟩ = pure ((["house", "user", "door", "ticket_number", "values"] : List Str).zip us) := match us, hl with | [_, _, _, _, _], _ => rfl
abbrev N_tell_was : List Str := ["log", "moment", "user", "door", "ticket_number", "values"]
theorem sc_tell_was : FnScope N_tell_was ["log", "moment", "user", "door", "ticket_number", "values"] (defScope s_tell_was) := ⟨rfl, rfl, rfl, by decide +kernel, rfl, by decide +kernel, by decide +kernel⟩
theorem b_tell_was (kV doc pm : Value) (an : Option Addr) (cdv ct : Value) (us : List Value) (hl : us.length = (["log", "moment", "user", "door", "ticket_number", "values"] : List Str).length) : bindArgs (PySem.W.fnOf d_tell_was.name d_tell_was.qual d_tell_was.params d_tell_was.body d_tell_was.scope .none kV doc pm an cdv ct) ⟨us, []⟩ = pure ((["log", "moment", "user", "door", "ticket_number", "values"] : List Str).zip us) := match us, hl with | [_, _, _, _, _, _], _ => rfl
abbrev N_tell_hang : List Str := ["log", "number"]
theorem sc_tell_hang : FnScope N_tell_hang ["log", "number"] (defScope s_tell_hang) := ⟨rfl, rfl, rfl, by decide +kernel, rfl, by decide +kernel, by decide +kernel⟩
theorem b_tell_hang (kV doc pm : Value) (an : Option Addr) (cdv ct : Value) (us : List Value) (hl : us.length = (["log", "number"] : List Str).length) : bindArgs (PySem.W.fnOf d_tell_hang.name d_tell_hang.qual d_tell_hang.params d_tell_hang.body d_tell_hang.scope .none kV doc pm an cdv ct) ⟨us, []⟩ = pure ((["log", "number"] : List Str).zip us) := match us, hl with | [_, _], _ => rfl
abbrev N_tell_opened : List Str := ["log"]
theorem sc_tell_opened : FnScope N_tell_opened ["log"] (defScope s_tell_opened) := ⟨rfl, rfl, rfl, by decide +kernel, rfl, by decide +kernel, by decide +kernel⟩
theorem b_tell_opened (kV doc pm : Value) (an : Option Addr) (cdv ct : Value) (us : List Value) (hl : us.length = (["log"] : List Str).length) : bindArgs (PySem.W.fnOf d_tell_opened.name d_tell_opened.qual d_tell_opened.params d_tell_opened.body d_tell_opened.scope .none kV doc pm an cdv ct) ⟨us, []⟩ = pure ((["log"] : List Str).zip us) := match us, hl with | [_], _ => rfl
abbrev N_tell_grants : List Str := ["house", "right", "found", "told", "grant"]
theorem sc_tell_grants : FnScope N_tell_grants ["house", "right"] (defScope s_tell_grants) := ⟨rfl, rfl, rfl, by decide +kernel, rfl, by decide +kernel, by decide +kernel⟩
theorem b_tell_grants (kV doc pm : Value) (an : Option Addr) (cdv ct : Value) (us : List Value) (hl : us.length = (["house", "right"] : List Str).length) : bindArgs (PySem.W.fnOf d_tell_grants.name d_tell_grants.qual d_tell_grants.params d_tell_grants.body d_tell_grants.scope .none kV doc pm an cdv ct) ⟨us, []⟩ = pure ((["house", "right"] : List Str).zip us) := match us, hl with | [_, _], _ => rfl
abbrev N_ticket_row : List Str := ["house", "ticket", "row", "caveat"]
theorem sc_ticket_row : FnScope N_ticket_row ["house", "ticket"] (defScope s_ticket_row) := ⟨rfl, rfl, rfl, by decide +kernel, rfl, by decide +kernel, by decide +kernel⟩
theorem b_ticket_row (kV doc pm : Value) (an : Option Addr) (cdv ct : Value) (us : List Value) (hl : us.length = (["house", "ticket"] : List Str).length) : bindArgs (PySem.W.fnOf d_ticket_row.name d_ticket_row.qual d_ticket_row.params d_ticket_row.body d_ticket_row.scope .none kV doc pm an cdv ct) ⟨us, []⟩ = pure ((["house", "ticket"] : List Str).zip us) := match us, hl with | [_, _], _ => rfl
abbrev N_tell_tickets : List Str := ["house", "user", "found", "told", "ticket"]
theorem sc_tell_tickets : FnScope N_tell_tickets ["house", "user"] (defScope s_tell_tickets) := ⟨rfl, rfl, rfl, by decide +kernel, rfl, by decide +kernel, by decide +kernel⟩
theorem b_tell_tickets (kV doc pm : Value) (an : Option Addr) (cdv ct : Value) (us : List Value) (hl : us.length = (["house", "user"] : List Str).length) : bindArgs (PySem.W.fnOf d_tell_tickets.name d_tell_tickets.qual d_tell_tickets.params d_tell_tickets.body d_tell_tickets.scope .none kV doc pm an cdv ct) ⟨us, []⟩ = pure ((["house", "user"] : List Str).zip us) := match us, hl with | [_, _], _ => rfl
abbrev N_tell_chain : List Str := ["house", "user", "right", "grant"]
theorem sc_tell_chain : FnScope N_tell_chain ["house", "user", "right"] (defScope s_tell_chain) := ⟨rfl, rfl, rfl, by decide +kernel, rfl, by decide +kernel, by decide +kernel⟩
theorem b_tell_chain (kV doc pm : Value) (an : Option Addr) (cdv ct : Value) (us : List Value) (hl : us.length = (["house", "user", "right"] : List Str).length) : bindArgs (PySem.W.fnOf d_tell_chain.name d_tell_chain.qual d_tell_chain.params d_tell_chain.body d_tell_chain.scope .none kV doc pm an cdv ct) ⟨us, []⟩ = pure ((["house", "user", "right"] : List Str).zip us) := match us, hl with | [_, _, _], _ => rfl
abbrev N_tell_allowers : List Str := ["house", "user", "door"]
theorem sc_tell_allowers : FnScope N_tell_allowers ["house", "user", "door"] (defScope s_tell_allowers) := ⟨rfl, rfl, rfl, by decide +kernel, rfl, by decide +kernel, by decide +kernel⟩
theorem b_tell_allowers (kV doc pm : Value) (an : Option Addr) (cdv ct : Value) (us : List Value) (hl : us.length = (["house", "user", "door"] : List Str).length) : bindArgs (PySem.W.fnOf d_tell_allowers.name d_tell_allowers.qual d_tell_allowers.params d_tell_allowers.body d_tell_allowers.scope .none kV doc pm an cdv ct) ⟨us, []⟩ = pure ((["house", "user", "door"] : List Str).zip us) := match us, hl with | [_, _, _], _ => rfl
abbrev N_tell_call : List Str := ["house", "log", "call", "kind"]
theorem sc_tell_call : FnScope N_tell_call ["house", "log", "call"] (defScope s_tell_call) := ⟨rfl, rfl, rfl, by decide +kernel, rfl, by decide +kernel, by decide +kernel⟩
theorem b_tell_call (kV doc pm : Value) (an : Option Addr) (cdv ct : Value) (us : List Value) (hl : us.length = (["house", "log", "call"] : List Str).length) : bindArgs (PySem.W.fnOf d_tell_call.name d_tell_call.qual d_tell_call.params d_tell_call.body d_tell_call.scope .none kV doc pm an cdv ct) ⟨us, []⟩ = pure ((["house", "log", "call"] : List Str).zip us) := match us, hl with | [_, _, _], _ => rfl
abbrev N_answer : List Str := ["house", "log", "call", "told"]
theorem sc_answer : FnScope N_answer ["house", "log", "call"] (defScope s_answer) := ⟨rfl, rfl, rfl, by decide +kernel, rfl, by decide +kernel, by decide +kernel⟩
theorem b_answer (kV doc pm : Value) (an : Option Addr) (cdv ct : Value) (us : List Value) (hl : us.length = (["house", "log", "call"] : List Str).length) : bindArgs (PySem.W.fnOf d_answer.name d_answer.qual d_answer.params d_answer.body d_answer.scope .none kV doc pm an cdv ct) ⟨us, []⟩ = pure ((["house", "log", "call"] : List Str).zip us) := match us, hl with | [_, _, _], _ => rfl
abbrev N_answers : List Str := ["calls", "house", "log", "reader", "given", "told"]
theorem sc_answers : FnScope N_answers ["calls"] (defScope s_answers) := ⟨rfl, rfl, rfl, by decide +kernel, rfl, by decide +kernel, by decide +kernel⟩
theorem b_answers (kV doc pm : Value) (an : Option Addr) (cdv ct : Value) (us : List Value) (hl : us.length = (["calls"] : List Str).length) : bindArgs (PySem.W.fnOf d_answers.name d_answers.qual d_answers.params d_answers.body d_answers.scope .none kV doc pm an cdv ct) ⟨us, []⟩ = pure ((["calls"] : List Str).zip us) := match us, hl with | [_], _ => rfl
def loose0 : List PySem.Str := ["GRANT", "REVOKE", "OVER", "LEAVE", "POLICY", "QUORUM", "TICKET", "NARROW", "ALLOW", "OPENING", "MAY", "WAS", "HANG", "OPENED", "GRANTS", "TICKETS", "CHAIN", "ALLOWERS", "SHAPES", "read_call", "does_something", "HOUSE", "MOST_USER", "MOST_DOOR", "ATTRIBUTES", "MOST_VALUE", "MOST_DONE", "MOST_GRANTS", "MOST_QUORUM", "WRONG"]
def loose1 : List PySem.Str := ["UNKNOWN", "NO_GRANT", "FULL", "MAY_NOT", "is_user", "is_door", "is_request", "House", "ALWAYS", "RANGE", "ALL", "ANY", "NOT", "RULE", "SET", "NOTHING", "PERMIT", "DENY", "UNCLEAR", "DENY_FIRST", "PERMIT_FIRST", "FIRST_TOLD", "ONLY_ONE", "holds", "first_found", "put_together", "decide", "TooFew", "Reader", "MOST_NUMBERS"]
def loose2 : List PySem.Str := ["MOST_HOLDER_DEPTH", "MOST_RANGE_NUMBER", "MOST_EDGES", "BadCode", "check", "check_holder", "read_range", "read_condition", "read_policy", "check_edges", "read_code", "WITH_LEAVE", "Grant", "share", "may_give", "of_right", "is_given", "any_given", "without_given", "standing", "taken_back", "taken_over", "first_to", "chain_to", "without_user", "MOST", "JUST", "LEAST", "CAVEAT_ATTRIBUTES", "CAVEAT_NUMBERS"]
def loose3 : List PySem.Str := ["MOST_CAVEATS", "Ticket", "held_by", "caveats_of", "is_caveat", "are_caveats", "caveat_holds", "all_hold", "is_asked_rightly", "maker_has_right", "is_good", "has_entry", "permits", "allowers", "may_open", "is_gift", "do_grant", "gift_refusal", "do_revoke", "do_over", "do_leave", "do_policy", "do_quorum", "do_ticket", "do_narrow", "do_allow", "do_open", "do_call", "house_at", "openings_in"]
def loose4 : List PySem.Str := ["done_without", "hanging_on", "counted", "tell_may", "tell_was", "tell_hang", "tell_opened", "tell_grants", "ticket_row", "tell_tickets", "tell_chain", "tell_allowers", "tell_call", "answer"]
def loose : List PySem.Str := loose0 ++ loose1 ++ loose2 ++ loose3 ++ loose4
def answersAt : Nat := 147
end Gh
set_option Elab.async false
set_option linter.all false
set_option maxRecDepth 100000
set_option maxHeartbeats 0
noncomputable section
namespace Gh
open PySem PySem.W PySem.Calls PyProof.Rows HandSHeadRun
abbrev R : PySem.W.OpenSpec := PySem.Challenge.rw_granthouse_s01_answers
def ls0 : List Addr := [3, 6, 4, 34, 41, 48, 55, 62, 67, 84, 93, 100, 105, 110, 120, 166, 180, 190, 197, 204, 209, 214, 219, 226, 243, 252, 259, 264, 271, 276, 281, 288, 295, 302, 309]
def ls1 : List Addr := [316, 321, 338, 347, 352, 359, 364, 371, 376, 383, 390, 397, 404, 411, 416, 423, 430, 437, 444, 451, 458, 465, 472, 479, 486, 493, 500, 507, 514, 521, 526, 533, 538, 545, 552]
def ls2 : List Addr := [559, 566, 573, 580, 587, 594, 599, 606, 613, 620, 627, 0, 15, 16, 17, 18, 19, 20, 21, 22, 23, 24, 25, 26, 27, 28, 29, 30, 31, 32, 33, 40, 47, 54, 61]
def ls3 : List Addr := [66, 83, 92, 99, 104, 109, 119, 165, 179, 189, 196, 203, 208, 213, 218, 225, 242, 251, 258, 263, 270, 275, 280, 287, 294, 301, 308, 315, 320, 337, 346, 351, 358, 363, 370]
def ls4 : List Addr := [375, 382, 389, 396, 403, 410, 415, 422, 429, 436, 443, 450, 457, 464, 471, 478, 485, 492, 499, 506, 513, 520, 525, 532, 537, 544, 551, 558, 565, 572, 579, 586, 593, 598, 605]
def ls5 : List Addr := [612, 619, 626, 35, 36, 37, 38, 39, 42, 43, 44, 45, 46, 49, 50, 51, 52, 53, 56, 57, 58, 59, 60, 63, 64, 65, 81, 82, 85, 86, 89, 90, 91, 94, 95]
def ls6 : List Addr := [96, 97, 98, 101, 102, 103, 106, 107, 108, 118, 121, 137, 144, 151, 156, 163, 164, 167, 168, 178, 181, 184, 185, 186, 187, 188, 191, 192, 193, 194, 195, 198, 199, 200, 201]
def ls7 : List Addr := [202, 205, 206, 207, 210, 211, 212, 215, 216, 217, 220, 221, 222, 223, 224, 240, 241, 244, 245, 248, 249, 250, 253, 254, 255, 256, 257, 260, 261, 262, 265, 266, 267, 268, 269]
def ls8 : List Addr := [272, 273, 274, 277, 278, 279, 282, 283, 284, 285, 286, 289, 290, 291, 292, 293, 296, 297, 298, 299, 300, 303, 304, 305, 306, 307, 310, 311, 312, 313, 314, 317, 318, 319, 335]
def ls9 : List Addr := [336, 339, 340, 343, 344, 345, 348, 349, 350, 353, 354, 355, 356, 357, 360, 361, 362, 365, 366, 367, 368, 369, 372, 373, 374, 377, 378, 379, 380, 381, 384, 385, 386, 387, 388]
def ls10 : List Addr := [391, 392, 393, 394, 395, 398, 399, 400, 401, 402, 405, 406, 407, 408, 409, 412, 413, 414, 417, 418, 419, 420, 421, 424, 425, 426, 427, 428, 431, 432, 433, 434, 435, 438, 439]
def ls11 : List Addr := [440, 441, 442, 445, 446, 447, 448, 449, 452, 453, 454, 455, 456, 459, 460, 461, 462, 463, 466, 467, 468, 469, 470, 473, 474, 475, 476, 477, 480, 481, 482, 483, 484, 487, 488]
def ls12 : List Addr := [489, 490, 491, 494, 495, 496, 497, 498, 501, 502, 503, 504, 505, 508, 509, 510, 511, 512, 515, 516, 517, 518, 519, 522, 523, 524, 527, 528, 529, 530, 531, 534, 535, 536, 539]
def ls13 : List Addr := [540, 541, 542, 543, 546, 547, 548, 549, 550, 553, 554, 555, 556, 557, 560, 561, 562, 563, 564, 567, 568, 569, 570, 571, 574, 575, 576, 577, 578, 581, 582, 583, 584, 585, 588]
def ls14 : List Addr := [589, 590, 591, 592, 595, 596, 597, 600, 601, 602, 603, 604, 607, 608, 609, 610, 611, 614, 615, 616, 617, 618, 621, 622, 623, 624, 625, 80, 136, 143, 150, 155, 162, 239, 334]
/-- the addresses that the module's names reach in four steps (gen/addrs.txt tells how they were found) -/
def ls : List Addr := ls0 ++ (ls1 ++ (ls2 ++ (ls3 ++ (ls4 ++ (ls5 ++ (ls6 ++ (ls7 ++ (ls8 ++ (ls9 ++ (ls10 ++ (ls11 ++ (ls12 ++ (ls13 ++ (ls14))))))))))))))
abbrev hk : PySem.W.Hook := hookL ls fa fn "SHAPES" shapes
def ob (s : PySem.W.SharedT) : AlS := obsL ls fa fn "SHAPES" shapes (HandSHeadRun.getT s)
theorem ob_eq (s : PySem.W.SharedT) : ob s = hk.obs s.abs := obsL_eq (HandSHeadRun.getT_eq s)
theorem runA (w : World) (os : OsState) : (endF (stepQ (denQ tabQ) R.prog w) 8000 R.prog w os).map (fun s => looksF R.prog (boot_heap w.params) s.abs) = some true := by
  kernel_rfl
theorem runB (w : World) (os : OsState) : (endF (stepQ (denQ tabQ) R.prog w) 8000 R.prog w os).map (fun s => seenQ (view R.prog [answersAt]) loose (importedModules R.prog.main.body) (fun s => xlAt (view R.prog [answersAt]) [] s && recOk [] s) s.abs) = some (openGood (view R.prog [answersAt]) loose) := by
  kernel_rfl
theorem runC (w : World) (os : OsState) : (endF (stepQ (denQ tabQ) R.prog w) 8000 R.prog w os).map (fun s => ob s) = some (hk.val w) := by
  kernel_rfl
theorem map3 {α β γ δ : Type} {x : Option α} {f : α → β} {g : α → γ} {h : α → δ} {a : β} {b : γ} {c : δ} (h1 : x.map f = some a) (h2 : x.map g = some b) (h3 : x.map h = some c) : x.map (fun s => (f s, g s, h s)) = some (a, b, c) := by
  cases x with
  | none => cases h1
  | some s =>
    rw [Option.map_some, Option.some.injEq] at h1 h2 h3
    rw [Option.map_some, h1, h2, h3]
theorem run (w : World) : HandSHeadRun.RunEqS R (PySem.W.view R.prog [answersAt]) hk ob 8000 loose w := fun os => map3 (runA w os) (runB w os) (runC w os)
/-! What else the last theorem asks of the row: the kernel decides it. -/
theorem said : R.wellSaid = true := by decide +kernel
theorem opens : opening R.prog = plainProg R.prog.main.scope.names := by kernel_rfl
theorem fences (s : Shared) : fenceModules? R.prog s = some s := by kernel_rfl
theorem looks : (chainsOk (view R.prog [answersAt]) && opensWell R.prog) = true := by decide +kernel
theorem bare : R.prog.bare := ⟨rfl, rfl, rfl, rfl, rfl, by decide +kernel⟩
theorem some_req : ∃ args, R.pre args = true ∧ WData.layableAll args = true := ⟨[.list [.int 18]], by decide +kernel, by decide +kernel⟩
end Gh
end
set_option Elab.async false
set_option linter.all false
set_option maxRecDepth 100000
set_option maxHeartbeats 4000000
/-! Heaps and lists of things. -/
namespace Gh
open PySem PySem.Spec PyProof.Rows L2
theorem sz1000 {n : Nat} (h : n ≤ 100000) : n < sizeLine := Nat.lt_of_le_of_lt h (by decide)
section
variable {α β : Type} {F G : α → β → Prop}
theorem pr_imp : ∀ {l : List α} {m : List β}, Paired F l m → (∀ a b, F a b → G a b) → Paired G l m
  | _, _, .nil, _ => .nil
  | _, _, .cons r t, f => .cons (f _ _ r) (pr_imp t f)
theorem pr_len : ∀ {l : List α} {m : List β}, Paired F l m → l.length = m.length
  | _, _, .nil => rfl
  | _, _, .cons _ t => congrArg (· + 1) (pr_len t)
theorem pr_get : ∀ {l : List α} {m : List β} {i : Nat} {x : α}, Paired F l m → l[i]? = some x → ∃ y, m[i]? = some y ∧ F x y
  | _, _, _, _, .nil, h => by simp at h
  | _, _, 0, _, .cons r _, h => by simp at h; subst h; exact ⟨_, rfl, r⟩
  | _, _, i + 1, x, .cons _ t, h => by
    obtain ⟨y, h1, h2⟩ := pr_get (i := i) (x := x) t (by simpa using h)
    exact ⟨y, by simpa using h1, h2⟩
theorem pr_app : ∀ {l l' : List α} {m m' : List β}, Paired F l m → Paired F l' m' → Paired F (l ++ l') (m ++ m')
  | _, _, _, _, .nil, s => s
  | _, _, _, _, .cons r t, s => .cons r (pr_app t s)
theorem pr_map {f : β → α} : ∀ {l : List α} {m : List β}, Paired (fun a b => a = f b) l m → l = m.map f
  | _, _, .nil => rfl
  | _, _, .cons r t => by rw [r, pr_map t]; rfl
theorem pr_of_map {f : β → α} : ∀ (m : List β), Paired (fun a b => a = f b) (m.map f) m
  | [] => .nil
  | _ :: m => .cons rfl (pr_of_map m)
end
theorem take_more {α : Type} : ∀ {l : List α} {i : Nat} {x : α}, l[i]? = some x → l.take (i + 1) = l.take i ++ [x]
  | [], i, x, h => by simp at h
  | a :: l, 0, x, h => by
    have e : a = x := Option.some.inj h
    subst e
    rfl
  | a :: l, i + 1, x, h => by
    have ih := take_more (l := l) (i := i) (x := x) h
    show a :: l.take (i + 1) = a :: l.take i ++ [x]
    rw [ih]
    rfl
theorem filter_more {α : Type} {p : α → Bool} {l : List α} {i : Nat} {x : α} (h : l[i]? = some x) : (l.take (i + 1)).filter p = (l.take i).filter p ++ (if p x = true then [x] else []) := by
  rw [take_more h, List.filter_append]
  cases e : p x <;> simp [e]
theorem same_upd {H : Hp} {p : Addr} {o : HO} (h : H p = none) : Same H (upd H p o) := fun b u e => by rw [upd_ne (ne_of_none e h)]; exact e
theorem same_upd2 {H H' : Hp} {p : Addr} {o : HO} (s : Same H H') (h : H p = none) : Same H (upd H' p o) := fun b u e => by rw [upd_ne (ne_of_none e h)]; exact s b u e
/-- what is new -/
def newOf (H H' : Hp) : Hp := fun b => if H b = none then H' b else none
theorem newOf_at {H H' : Hp} {b : Addr} {o : HO} (h : H b = none) (h' : H' b = some o) : newOf H H' b = some o := by unfold newOf; rw [if_pos h]; exact h'
theorem of_newOf {H H' : Hp} {b : Addr} {o : HO} (h : newOf H H' b = some o) : H b = none ∧ H' b = some o := by
  unfold newOf at h
  by_cases e : H b = none
  · rw [if_pos e] at h; exact ⟨e, h⟩
  · rw [if_neg e] at h; cases h
theorem newOf_same {H H' : Hp} : Same (newOf H H') H' := fun b o e => (of_newOf e).2
/-- new things of a later part, from an earlier point -/
theorem newOf_later {H H1 H2 : Hp} (s : Same H H1) : Same (newOf H1 H2) (newOf H H2) := fun b o e => by
  obtain ⟨h1, h2⟩ := of_newOf e
  exact newOf_at (s.free h1) h2
theorem newOf_more {H H1 H2 : Hp} (s : Same H1 H2) : Same (newOf H H1) (newOf H H2) := fun b o e => by
  obtain ⟨h1, h2⟩ := of_newOf e
  exact newOf_at h1 (s b o h2)
/-- a heap without some places -/
def less (H : Hp) (M : List Addr) : Hp := fun b => if b ∈ M then none else H b
theorem less_same {H : Hp} {M : List Addr} : Same (less H M) H := fun b o e => by
  unfold less at e
  by_cases h : b ∈ M
  · rw [if_pos h] at e; cases e
  · rw [if_neg h] at e; exact e
theorem of_less {H : Hp} {M : List Addr} {b : Addr} {o : HO} (e : less H M b = some o) : b ∉ M ∧ H b = some o := by
  unfold less at e
  by_cases h : b ∈ M
  · rw [if_pos h] at e; cases e
  · rw [if_neg h] at e; exact ⟨h, e⟩
theorem less_at {H : Hp} {M : List Addr} {b : Addr} {o : HO} (h : b ∉ M) (e : H b = some o) : less H M b = some o := by unfold less; rw [if_neg h]; exact e
/-- all but some places is as it was -/
def Kept (M : List Addr) (H H' : Hp) : Prop := ∀ b o, H b = some o → b ∉ M → H' b = some o
theorem Kept.of {M : List Addr} {H H' : Hp} (s : Same H H') : Kept M H H' := fun b o e _ => s b o e
theorem Kept.trans {M : List Addr} {H H1 H2 : Hp} (a : Kept M H H1) (b : Kept M H1 H2) : Kept M H H2 := fun c o e h => b c o (a c o e h) h
theorem Kept.same {M : List Addr} {H H' : Hp} (a : Kept M H H') (h : ∀ b ∈ M, H b = none) : Same H H' := fun b o e => a b o e fun hm => by rw [h b hm] at e; cases e
theorem Kept.less {M : List Addr} {H H' : Hp} (a : Kept M H H') : Same (less H M) (less H' M) := fun b o e => by
  obtain ⟨h1, h2⟩ := of_less e
  exact less_at h1 (a b o h2 h1)

section
variable {K : PySem.W.Frag} {α : Type} {R : V → α → Prop} {S : V → α → Prop} {xs : List V} {gs : List α} {a : Addr} {j : Nat} {tt : TT} {te : TE} {vs : List Nat} {σ : L2.St} {H : Hp} {D : Addr} {Qd : Hp → Prop}
/-- a comprehension over a list of things, its parts leave nothing but what is new -/
theorem lc_rows (hq : SqL K H a xs) (hp : Paired R xs gs) (hz : xs.length ≤ 100000) (b : α → Bool) (hD : H D = none)
    (hw : ∀ x, wipe ((wipe σ vs).set j (some x)) vs = wipe σ vs)
    (ht : ∀ x g, g ∈ gs → R x g → ∀ H', Same H H' → ∀ Q : Bool → Hp → Prop, (∀ H'', Same H' H'' → Q (b g) H'') → tt ((wipe σ vs).set j (some x)) H' Q)
    (he : ∀ x g, g ∈ gs → R x g → b g = true → ∀ H', Same H H' → ∀ Q : V → Hp → Prop, (∀ y H'', S y g → Same H' H'' → Q y H'') → te ((wipe σ vs).set j (some x)) H' Q)
    (hd : ∀ ys H', Paired S ys (gs.filter b) → Same H H' → H' D = some (.lst ys) → Qd H') :
    ∃ W : Nat → Nat → Hp → Prop, (∃ m, W 0 m (upd H D (.lst []))) ∧ ∀ i m H, W i m H →
      ((Itl K a).stop i H ∧ Qd H) ∨ ((Itl K a).go i H ∧ ∃ Nx : Hp → Prop, (∀ H', Nx H' → ∃ m', m' < m ∧ W (i + 1) m' H') ∧ ∀ x H', (Itl K a).yld i H x H' → gName j x (wipe σ vs) H' fun σ2 H2 => wipe σ2 vs = wipe σ vs ∧ tt σ2 H2 fun b H3 =>
        if b = true then te σ2 H3 fun y H4 => ∃ acc, H4 D = some (.lst acc) ∧ acc.length < sizeLine ∧ Nx (upd H4 D (.lst (acc ++ [y]))) else Nx H3) := by
  refine lc_list (K := K) (a := a) (xs := xs) (fun i H' => Same H H' ∧ ∃ ys, H' D = some (.lst ys) ∧ Paired S ys ((gs.take i).filter b)) ⟨same_upd hD, [], upd_same, .nil⟩ (fun i H' _ ⟨s, _⟩ => s.seq hq) ?_ ?_
  · rintro i x H' hi ⟨s, ys, hy, hys⟩
    obtain ⟨g, hg, r⟩ := pr_get hp hi
    have hm : g ∈ gs := List.mem_of_getElem? hg
    refine ⟨hw x, ht x g hm r H' s _ fun H2 s2 => ?_⟩
    have hlt : i < xs.length := (List.getElem?_eq_some_iff.mp hi).1
    have hlen : ys.length ≤ i := by
      rw [pr_len hys]
      exact Nat.le_trans (List.length_filter_le _ _) (by rw [List.length_take]; omega)
    cases e : b g with
    | true =>
      rw [if_pos rfl]
      refine he x g hm r e H2 (s.trans s2) _ fun y H3 hs s3 => ⟨ys, s3 _ _ (s2 _ _ hy), sz1000 (by omega), same_upd2 (s.trans (s2.trans s3)) hD, ys ++ [y], upd_same, ?_⟩
      rw [filter_more hg, if_pos e]
      exact pr_app hys (.cons hs .nil)
    | false =>
      rw [if_neg Bool.false_ne_true]
      refine ⟨s.trans s2, ys, s2 _ _ hy, ?_⟩
      rw [filter_more hg, e, if_neg Bool.false_ne_true, List.append_nil]
      exact hys
  · rintro H' ⟨s, ys, hy, hys⟩
    have e : gs.take xs.length = gs := by rw [pr_len hp, List.take_length]
    rw [e] at hys
    exact hd ys H' hys s hy
end
theorem andV {Q : VK} {H : Hp} {c b : Bool} : (if c = true then Q (.bl b) H else Q (.bl false) H) = Q (.bl (c && b)) H := by cases c <;> simp
theorem orV {Q : VK} {H : Hp} {c b : Bool} : (if c = true then Q (.bl true) H else Q (.bl b) H) = Q (.bl (c || b)) H := by cases c <;> simp
theorem andT {Q : Bool → Hp → Prop} {H : Hp} {c b : Bool} : (if c = true then Q b H else Q false H) = Q (c && b) H := by cases c <;> simp
theorem orT {Q : Bool → Hp → Prop} {H : Hp} {c b : Bool} : (if c = true then Q true H else Q b H) = Q (c || b) H := by cases c <;> simp
theorem if_true_of {c : Bool} {A B : Prop} (hc : c = true) (h : A) : if c = true then A else B := by
  rw [if_pos hc]
  exact h
theorem if_false_of {c : Bool} {A B : Prop} (hc : c = false) (h : B) : if c = true then A else B := by
  rw [hc, if_neg Bool.false_ne_true]
  exact h
theorem lk_here {k : Str} {v : V} {r : List (Str × V)} : List.lookup k ((k, v) :: r) = some v := by
  have e : (k == k) = true := beq_self_eq_true k
  simp only [List.lookup, e]
theorem lk_past {k g : Str} {v : V} {r : List (Str × V)} (h : (k == g) = false) : List.lookup k ((g, v) :: r) = List.lookup k r := by
  simp only [List.lookup, h]
theorem put_here {f : Str} {v x : V} {r : List (Str × V)} : putF f v ((f, x) :: r) = (f, v) :: r := if_pos rfl
theorem put_past {f g : Str} {v x : V} {r : List (Str × V)} (h : ¬ g = f) : putF f v ((g, x) :: r) = (g, x) :: putF f v r := if_neg h
theorem put_nil {f : Str} {v : V} : putF f v [] = [(f, v)] := rfl
theorem deq (a b : Nat) : decide ((a : Int) = (b : Int)) = (a == b) := by
  by_cases h : a = b
  · subst h; simp
  · have h' : ¬ (a : Int) = (b : Int) := by omega
    rw [decide_eq_false h']
    exact (beq_eq_false_iff_ne.mpr h).symm
theorem dle (a b : Nat) : decide ((a : Int) ≤ (b : Int)) = decide (a ≤ b) := by
  by_cases h : a ≤ b
  · rw [decide_eq_true h, decide_eq_true (by omega)]
  · rw [decide_eq_false h, decide_eq_false (by omega)]
theorem dlt (a b : Nat) : decide ((a : Int) < (b : Int)) = decide (a < b) := by
  by_cases h : a < b
  · rw [decide_eq_true h, decide_eq_true (by omega)]
  · rw [decide_eq_false h, decide_eq_false (by omega)]
/-- a new instance and its __init__ leave all that was tracked -/
theorem made_same {H H1 : Hp} {x dx C : Addr} (nx : H x = none) (nd : H dx = none) (k : Kept [x] (upd (upd H dx (.own x)) x (.ins C dx [])) H1) : Same H H1 := fun b o e =>
  k b o (by rw [upd_ne (ne_of_none e nx), upd_ne (ne_of_none e nd)]; exact e) (by simpa using ne_of_none e nx)
theorem cxK {CX : CXT} {P : Program} {w : World} {K : PySem.W.Frag} {mg : Str → Option Value} {base : Heap} {N : List Str} {qual : Str} {scope : Scope} {f : Addr} {cd : Value} {A : Around} {outer : List Env} {s : Shared} {H : Hp} {E : XK} :
    (cxOf CX P w K mg base N qual scope f cd A outer s H E).K = K := rfl
def rLenS (K : PySem.W.Frag) : List V → Hp → VK → Prop := fun xs H Q => ∃ p ys, xs = [.ref p] ∧ (SqL K H p ys ∨ SqT K H p ys) ∧ Q (.int (ys.length : Nat)) H
theorem cr_lenS {X : Cx} : CallR X (.builtin "len") (rLenS X.K) := call_len_seq
theorem lenS {K : PySem.W.Frag} {H : Hp} {l : Addr} {ys : List V} {Q : VK} (h : SqL K H l ys) (q : Q (.int (ys.length : Nat)) H) : rLenS K [.ref l] H Q := ⟨l, ys, rfl, .inl h, q⟩
def rLenD : List V → Hp → VK → Prop := fun xs H Q => ∃ a kvs, xs = [V.ref a] ∧ H a = some (.dK kvs) ∧ Q (.int (kvs.length : Nat)) H
theorem cr_lenD {X : Cx} : CallR X (.builtin "len") rLenD := call_lenD
def rSortD : List V → Hp → VK → Prop := fun xs H Q => ∃ (a : Addr) (kvs : List (Key × V)) (ks : List Int), xs = [.ref a] ∧ Rd H a (.dK kvs) ∧ kvs.map (·.1) = ks.map Sum.inl ∧ ks.length < 64 ∧
  ∀ (ys : List Int) (p : Addr), ys.Perm ks → ys.Pairwise (· ≤ ·) → H p = none → Q (.ref p) (upd H p (.lst (ys.map V.int)))
theorem cr_sortD {X : Cx} (h : X.calm = true) : CallR X (.builtin "sorted") rSortD := call_sortedDI h
theorem ixT {K : PySem.W.Frag} {H : Hp} {a : Addr} {xs : List V} {i : Int} {v : V} {Q : VK} (h : H a = some (.tup xs)) (e : atI xs i = some v) (q : Q v H) : rIxT K (.ref a) (.int i) H Q := ⟨a, xs, i, v, rfl, rfl, SqT.of h, e, q⟩
theorem ixL {K : PySem.W.Frag} {H : Hp} {a : Addr} {xs : List V} {i : Int} {v : V} {Q : VK} (h : SqL K H a xs) (e : atI xs i = some v) (q : Q v H) : rIxL K (.ref a) (.int i) H Q := ⟨a, xs, i, v, rfl, rfl, h, e, q⟩
end Gh
set_option Elab.async false
set_option linter.all false
set_option maxRecDepth 100000
set_option maxHeartbeats 4000000
namespace Gh
open PySem PySem.Spec PyProof.Rows L2
local macro_rules | `(tactic| walk_at "rd") => `(tactic| simp only [tRet, tSeq, tAsg, gName, tDrop, tIfS, tTest, tB, tAnd, tOr, tNot, tAndV, tOrV, tNotV, tCmp, t2I, tAdd, tSub, tMul, tIsN, tNotN, tC, tVar, tCons, tNil, tCall, tOp, tUn, tCB, tNext, tRetN, tIf, tFld, wipe, tYes, HO.ins.injEq, and_assoc, L2.start, List.map_cons, List.map_nil, List.length_cons, List.length_nil, List.cons_append, List.nil_append, List.append_nil, List.set_cons_zero, List.set_cons_succ, List.replicate, Nat.reduceAdd, Nat.reduceSub, Nat.zero_add, Nat.sub_self, List.getElem?_cons_zero, List.getElem?_cons_succ, Option.some.injEq, V.int.injEq, V.bl.injEq, V.ref.injEq, V.str.injEq, List.cons.injEq, reduceCtorEq, and_true, true_and, and_false, false_and, exists_eq_left, exists_eq_left', exists_eq_right, exists_eq_right', exists_and_left, exists_const, exists_false, exists_eq, if_true, if_false, Bool.false_eq_true, Bool.true_eq_false, cxK, andV, orV, andT, orT, deq, dle, dlt, Bool.not_true, Bool.not_false, decide_true, decide_false, ite_true, ite_false])
local macro_rules | `(tactic| k_call_by "rd" ($a, $bs,*)) => do { let cs := bs.getElems; `(tactic| simp only [$a:term, $[$cs:term],*, tRet, tSeq, tAsg, gName, tDrop, tIfS, tTest, tB, tAnd, tOr, tNot, tAndV, tOrV, tNotV, tCmp, t2I, tAdd, tSub, tMul, tIsN, tNotN, tC, tVar, tCons, tNil, tCall, tOp, tUn, tCB, tNext, tRetN, tIf, tFld, wipe, tYes, HO.ins.injEq, and_assoc, L2.start, List.map_cons, List.map_nil, List.length_cons, List.length_nil, List.cons_append, List.nil_append, List.append_nil, List.set_cons_zero, List.set_cons_succ, List.replicate, Nat.reduceAdd, Nat.reduceSub, Nat.zero_add, Nat.sub_self, List.getElem?_cons_zero, List.getElem?_cons_succ, Option.some.injEq, V.int.injEq, V.bl.injEq, V.ref.injEq, V.str.injEq, List.cons.injEq, reduceCtorEq, and_true, true_and, and_false, false_and, exists_eq_left, exists_eq_left', exists_eq_right, exists_eq_right', exists_and_left, exists_const, exists_false, exists_eq, if_true, if_false, Bool.false_eq_true, Bool.true_eq_false, cxK, andV, orV, andT, orT, deq, dle, dlt, Bool.not_true, Bool.not_false, decide_true, decide_false, ite_true, ite_false]) }
section
variable {P : Program} {w : World} {K : PySem.W.Frag} {mg : Str → Option Value} {base : Heap}
theorem d1le (n : Nat) : decide ((1 : Int) ≤ (n : Int)) = decide (1 ≤ n) := dle 1 n
theorem dle12 (n : Nat) : decide ((n : Int) ≤ 12) = decide (n ≤ 12) := dle n 12
theorem dle4 (n : Nat) : decide ((n : Int) ≤ 4) = decide (n ≤ 4) := dle n 4
theorem dle5 (n : Nat) : decide ((n : Int) ≤ 100000) = decide (n ≤ 100000) := dle n 100000
theorem deq4 (n : Nat) : decide ((n : Int) = 4) = (n == 4) := deq n 4
def spIsUser : Sp := fun vs H Q _ => ∃ n : Nat, vs = [.int n] ∧ Q (.bl (Wm01.isUser n)) H
theorem cl_is_user (T : TX K mg) : Cl P w K mg base CX0 "is_user" 1 ["number"] spIsUser := by
  refine cl_of (d := d_is_user) T.g_is_user T.u_is_user sc_is_user b_is_user (fun vs H Q E h => ?_) (fun cdv A outer s H vs Q E hr h => ⟨_, PSs.nox (pss_one (ps_ret (pe_and (pe_cmp (pc_le pe_int (pv 0)) rfl) (pe_one (pe_cmp (pc_le (pv 0) (pe_gi T.i_MOST_USER)) rfl))))), ?_⟩)
  · obtain ⟨n, rfl, _⟩ := h
    rfl
  · obtain ⟨n, rfl, q⟩ := h
    k_call_by "rd" (d1le, dle12)
    exact q
def spIsDoor : Sp := fun vs H Q _ => ∃ n : Nat, vs = [.int n] ∧ Q (.bl (Wm01.isRight n)) H
theorem cl_is_door (T : TX K mg) : Cl P w K mg base CX0 "is_door" 1 ["number"] spIsDoor := by
  refine cl_of (d := d_is_door) T.g_is_door T.u_is_door sc_is_door b_is_door (fun vs H Q E h => ?_) (fun cdv A outer s H vs Q E hr h => ⟨_, PSs.nox (pss_one (ps_ret (pe_and (pe_cmp (pc_le pe_int (pv 0)) rfl) (pe_one (pe_cmp (pc_le (pv 0) (pe_gi T.i_MOST_DOOR)) rfl))))), ?_⟩)
  · obtain ⟨n, rfl, _⟩ := h
    rfl
  · obtain ⟨n, rfl, q⟩ := h
    k_call_by "rd" (d1le, dle4)
    exact q
def nats (l : List Nat) : List V := l.map fun (n : Nat) => V.int (n : Int)
def spIsRequest (K : PySem.W.Frag) : Sp := fun vs H Q _ => ∃ (l : Addr) (ns : List Nat), vs = [.ref l] ∧ SqL K H l (nats ns) ∧ ns.length ≤ 1000 ∧ ∀ H', Same H H' → Q (.bl (Wm08.isRequest ns)) H'
theorem cl_is_request (T : TX K mg) : Cl P w K mg base CX0 "is_request" 1 ["values"] (spIsRequest K) := by
  refine cl_of (d := d_is_request) T.g_is_request T.u_is_request sc_is_request b_is_request (fun vs H Q E h => ?_) (fun cdv A outer s H vs Q E hr h => ⟨_, PSs.nox (pss_one (ps_ret (pe_and (pe_cmp (pc_eqI (pe_callB cr_lenS (by rfl) T.f_len PySem.boot_len (pa_cons (pv 0) pa_nil)) (pe_gi T.i_ATTRIBUTES)) rfl) (pe_one (pe_callB (cr_all rfl) (by rfl) T.f_all (by decide +kernel) (pa_cons (pe_lc (own := [("value", 1)]) (g := gName 1) (tt := tYes) (te := tLe (tVar 1) (tC (.int (100000)))) rfl sc_is_request.nd (pi_list (pv 0)) (blkOk_by (N := N_is_request) (sc := defScope s_is_request) (by decide +kernel)) (fun _ _ _ _ _ => pg_name (i := 1) sc_is_request.nd rfl (Or.inl rfl)) (fun _ _ _ _ _ => pts_nil) (fun _ _ _ _ _ => (pe_cmp (pc_le (pv 1) (pe_gi T.i_MOST_VALUE)) rfl))) pa_nil)))))), ?_⟩)
  · obtain ⟨l, ns, rfl, _⟩ := h
    rfl
  · obtain ⟨l, ns, rfl, hS, hn, q⟩ := h
    have hlen : (nats ns).length = ns.length := by unfold nats; rw [List.length_map]
    walk_at "rd"
    refine lenS hS ?_
    rw [hlen]
    k_call_by "rd" (deq4, deq4)
    unfold Wm08.isRequest at q
    cases c : ns.length == 4 with
    | false =>
      refine if_false_of rfl ?_
      have := q H (Same.refl _)
      rw [c] at this
      exact this
    | true =>
      refine if_true_of rfl ?_
      rw [c] at q
      refine ⟨_, rfl, l, rfl, ⟨_, hS⟩, fun D hD => ?_⟩
      refine lc_rows (R := fun v (n : Nat) => v = V.int (n : Int)) (S := fun y (n : Nat) => y = V.bl (decide (n ≤ 100000))) hS (pr_of_map ns) (by rw [hlen]; omega) (fun _ => true) hD (fun x => rfl) ?_ ?_ ?_
      · rintro x n hm rfl H' s' R hR
        exact hR _ (Same.refl _)
      · rintro x n hm rfl _ H' s' R hR
        k_call_by "rd" (dle5, dle5)
        exact hR _ _ rfl (Same.refl _)
      · intro ys H' hys s' hd
        have e := pr_map hys
        rw [List.filter_eq_self.mpr (fun _ _ => rfl)] at e
        refine ⟨D, ns.map (fun n => decide (n ≤ 100000)), rfl, SqL.of (hd.trans (congrArg (fun z => some (HO.lst z)) (e.trans (List.map_map (f := fun n : Nat => decide (n ≤ 100000)) (g := V.bl)).symm))), ?_⟩
        rw [List.all_map]
        exact q H' s'
def spIsGift : Sp := fun vs H Q _ => ∃ a b r : Nat, vs = [.int a, .int b, .int r] ∧ Q (.bl (Wm01.isTriple a b r)) H
theorem cl_is_gift (T : TX K mg) : Cl P w K mg base CX0 "is_gift" 2 ["giver", "taker", "right"] spIsGift := by
  have c_is_user : Cl P w K mg base CX0 "is_user" 1 ["number"] spIsUser := cl_is_user T
  have c_is_door : Cl P w K mg base CX0 "is_door" 1 ["number"] spIsDoor := cl_is_door T
  refine cl_of (d := d_is_gift) T.g_is_gift T.u_is_gift sc_is_gift b_is_gift (fun vs H Q E h => ?_) (fun cdv A outer s H vs Q E hr h => ⟨_, PSs.nox (pss_one (ps_ret (pe_and (pe_cmp (pc_le (pv 0) (pe_gi T.i_MOST_USER)) rfl) (pe_and (pe_c c_is_user (hr.mono (by omega)) pass0 (pa_cons (pv 1) pa_nil)) (pe_and (pe_c c_is_door (hr.mono (by omega)) pass0 (pa_cons (pv 2) pa_nil)) (pe_one (pe_cmp (pc_neI (pv 0) (pv 1)) rfl))))))), ?_⟩)
  · obtain ⟨a, b, r, rfl, _⟩ := h
    rfl
  · obtain ⟨a, b, r, rfl, q⟩ := h
    k_call_by "rd" (dle12, dle12)
    unfold Wm01.isTriple at q
    cases c1 : decide (a ≤ 12) with
    | false =>
      rw [c1] at q
      exact if_false_of rfl q
    | true =>
      rw [c1] at q
      refine if_true_of rfl ⟨b, rfl, ?_⟩
      walk_at "rd"
      cases c2 : Wm01.isUser b with
      | false =>
        rw [c2] at q
        exact if_false_of rfl q
      | true =>
        rw [c2] at q
        refine if_true_of rfl ⟨r, rfl, ?_⟩
        walk_at "rd"
        exact q
end
end Gh
set_option Elab.async false
set_option linter.all false
set_option maxRecDepth 100000
set_option maxHeartbeats 4000000
namespace Gh
open PySem PySem.Spec PyProof.Rows L2
local macro_rules | `(tactic| walk_at "rd") => `(tactic| simp only [tRet, tSeq, tAsg, gName, tDrop, tIfS, tTest, tB, tAnd, tOr, tNot, tAndV, tOrV, tNotV, tCmp, t2I, tAdd, tSub, tMul, tIsN, tNotN, tC, tVar, tCons, tNil, tCall, tOp, tUn, tCB, tNext, tRetN, tIf, tFld, wipe, tYes, HO.ins.injEq, and_assoc, L2.start, List.map_cons, List.map_nil, List.length_cons, List.length_nil, List.cons_append, List.nil_append, List.append_nil, List.set_cons_zero, List.set_cons_succ, List.replicate, Nat.reduceAdd, Nat.reduceSub, Nat.zero_add, Nat.sub_self, List.getElem?_cons_zero, List.getElem?_cons_succ, Option.some.injEq, V.int.injEq, V.bl.injEq, V.ref.injEq, V.str.injEq, List.cons.injEq, reduceCtorEq, and_true, true_and, and_false, false_and, exists_eq_left, exists_eq_left', exists_eq_right, exists_eq_right', exists_and_left, exists_const, exists_false, exists_eq, if_true, if_false, Bool.false_eq_true, Bool.true_eq_false, cxK, andV, orV, andT, orT, deq, dle, dlt, Bool.not_true, Bool.not_false, decide_true, decide_false, ite_true, ite_false])
local macro_rules | `(tactic| k_call_by "rd" ($a, $bs,*)) => do { let cs := bs.getElems; `(tactic| simp only [$a:term, $[$cs:term],*, tRet, tSeq, tAsg, gName, tDrop, tIfS, tTest, tB, tAnd, tOr, tNot, tAndV, tOrV, tNotV, tCmp, t2I, tAdd, tSub, tMul, tIsN, tNotN, tC, tVar, tCons, tNil, tCall, tOp, tUn, tCB, tNext, tRetN, tIf, tFld, wipe, tYes, HO.ins.injEq, and_assoc, L2.start, List.map_cons, List.map_nil, List.length_cons, List.length_nil, List.cons_append, List.nil_append, List.append_nil, List.set_cons_zero, List.set_cons_succ, List.replicate, Nat.reduceAdd, Nat.reduceSub, Nat.zero_add, Nat.sub_self, List.getElem?_cons_zero, List.getElem?_cons_succ, Option.some.injEq, V.int.injEq, V.bl.injEq, V.ref.injEq, V.str.injEq, List.cons.injEq, reduceCtorEq, and_true, true_and, and_false, false_and, exists_eq_left, exists_eq_left', exists_eq_right, exists_eq_right', exists_and_left, exists_const, exists_false, exists_eq, if_true, if_false, Bool.false_eq_true, Bool.true_eq_false, cxK, andV, orV, andT, orT, deq, dle, dlt, Bool.not_true, Bool.not_false, decide_true, decide_false, ite_true, ite_false]) }
section
variable {P : Program} {w : World} {K : PySem.W.Frag} {mg : Str → Option Value} {base : Heap}
/-! ### grants -/
def leaveV (b : Bool) : Int := if b = true then 1 else 0
def gFv (n a b r p : V) : List (Str × V) := [("number", n), ("giver", a), ("taker", b), ("right", r), ("leave", p)]
def gF (g : Wm01.Grant) : List (Str × V) := gFv (.int g.num) (.int g.giver) (.int g.taker) (.int g.right) (.int (leaveV g.pass))
theorem gF_number (g : Wm01.Grant) : (gF g).lookup ("number" : Str) = some (.int g.num) := lk_here
theorem gF_giver (g : Wm01.Grant) : (gF g).lookup ("giver" : Str) = some (.int g.giver) := (lk_past (by decide +kernel)).trans lk_here
theorem gF_taker (g : Wm01.Grant) : (gF g).lookup ("taker" : Str) = some (.int g.taker) := (lk_past (by decide +kernel)).trans ((lk_past (by decide +kernel)).trans lk_here)
theorem gF_right (g : Wm01.Grant) : (gF g).lookup ("right" : Str) = some (.int g.right) := (lk_past (by decide +kernel)).trans ((lk_past (by decide +kernel)).trans ((lk_past (by decide +kernel)).trans lk_here))
theorem gF_leave (g : Wm01.Grant) : (gF g).lookup ("leave" : Str) = some (.int (leaveV g.pass)) := (lk_past (by decide +kernel)).trans ((lk_past (by decide +kernel)).trans ((lk_past (by decide +kernel)).trans ((lk_past (by decide +kernel)).trans lk_here)))
def GrAt (K : PySem.W.Frag) (H : Hp) (a : Addr) (g : Wm01.Grant) : Prop := ∃ dx, H a = some (.ins (He.ga K "Grant") dx (gF g))
def GrV (K : PySem.W.Frag) (H : Hp) (v : V) (g : Wm01.Grant) : Prop := ∃ a, v = .ref a ∧ GrAt K H a g
theorem GrV.mono {H H' : Hp} {v : V} {g : Wm01.Grant} (s : Same H H') (h : GrV K H v g) : GrV K H' v g := by
  obtain ⟨a, e, dx, h⟩ := h
  exact ⟨a, e, dx, s _ _ h⟩
theorem grs_mono {H H' : Hp} {xs : List V} {gs : List Wm01.Grant} (s : Same H H') (h : Paired (GrV K H) xs gs) : Paired (GrV K H') xs gs := pr_imp h fun _ _ z => z.mono s
def spGrantInit (K : PySem.W.Frag) : Sp := fun vs H Q _ => ∃ (p dx : Addr) (n a b r v : V), vs = [.ref p, n, a, b, r, v] ∧ H p = some (.ins (He.ga K "Grant") dx []) ∧
  ∀ H', H' p = some (.ins (He.ga K "Grant") dx (gFv n a b r v)) → Kept [p] H H' → Q .non H'
theorem il_Grant (T : TX K mg) : Il P w K mg base CX0 "Grant" (He.ga K "Grant") 1 ["self", "number", "giver", "taker", "right", "leave"] (spGrantInit K) := by
  refine il_of (d := d_Grant_init) T.g_Grant T.k_Grant T.u_Grant_init sc_Grant_init b_Grant_init (fun vs H Q E h => ?_) (fun cdv A outer s H vs Q E hr h => ⟨_, PSs.nox (pss_cons (ps_fld (pv 0) (pv 1) rfl)
    (pss_cons (ps_fld (pv 0) (pv 2) rfl)
    (pss_cons (ps_fld (pv 0) (pv 3) rfl)
    (pss_cons (ps_fld (pv 0) (pv 4) rfl)
    (pss_one (ps_fld (pv 0) (pv 5) rfl)))))), ?_⟩)
  · obtain ⟨p, dx, n, a, b, r, v, rfl, _⟩ := h
    rfl
  · obtain ⟨p, dx, n, a, b, r, v, rfl, hp, q⟩ := h
    refine ⟨_, rfl, _, rfl, p, _, dx, [], rfl, hp, T.c_Grant, T.n_Grant_number, (by show 0 < 1000; decide), ?_⟩
    refine ⟨_, rfl, _, rfl, p, _, dx, _, rfl, upd_same, T.c_Grant, T.n_Grant_giver, (by show 1 < 1000; decide), ?_⟩
    refine ⟨_, rfl, _, rfl, p, _, dx, _, rfl, upd_same, T.c_Grant, T.n_Grant_taker, (by show 2 < 1000; decide), ?_⟩
    refine ⟨_, rfl, _, rfl, p, _, dx, _, rfl, upd_same, T.c_Grant, T.n_Grant_right, (by show 3 < 1000; decide), ?_⟩
    refine ⟨_, rfl, _, rfl, p, _, dx, _, rfl, upd_same, T.c_Grant, T.n_Grant_leave, (by show 4 < 1000; decide), ?_⟩
    refine q _ (Eq.trans upd_same rfl) fun b o e hb => ?_
    have hb' : b ≠ p := by simpa using hb
    rw [upd_ne hb', upd_ne hb', upd_ne hb', upd_ne hb', upd_ne hb']
    exact e
/-- what somebody has of a right by some grants -/
def share (l : List Wm01.Grant) (u r : Nat) : Nat := if (l.any fun g => g.taker == u && (g.right == r && g.pass)) = true then 2 else if (l.any fun g => g.taker == u && g.right == r) = true then 1 else 0
theorem share_max {l : List Wm01.Grant} {u r : Nat} {m : Int} (h0 : (l.filter fun g => g.taker == u && g.right == r).map (fun g => 1 + leaveV g.pass) = [] → m = 0)
    (h1 : (l.filter fun g => g.taker == u && g.right == r).map (fun g => 1 + leaveV g.pass) ≠ [] → m ∈ (l.filter fun g => g.taker == u && g.right == r).map (fun g => 1 + leaveV g.pass) ∧ ∀ y ∈ (l.filter fun g => g.taker == u && g.right == r).map (fun g => 1 + leaveV g.pass), y ≤ m) : m = (share l u r : Int) := by
  unfold share
  by_cases c : (l.any fun g => g.taker == u && (g.right == r && g.pass)) = true
  · rw [if_pos c]
    obtain ⟨g, hg, e⟩ := List.any_eq_true.mp c
    have e1 : (g.taker == u && g.right == r) = true ∧ g.pass = true := by
      simp only [Bool.and_eq_true] at e ⊢
      exact ⟨⟨e.1, e.2.1⟩, e.2.2⟩
    have hm : (2 : Int) ∈ (l.filter fun g => g.taker == u && g.right == r).map (fun g => 1 + leaveV g.pass) := List.mem_map.mpr ⟨g, List.mem_filter.mpr ⟨hg, e1.1⟩, by rw [e1.2]; rfl⟩
    obtain ⟨h2, h3⟩ := h1 (List.ne_nil_of_mem hm)
    have h4 := h3 2 hm
    obtain ⟨g', _, e'⟩ := List.mem_map.mp h2
    have : leaveV g'.pass ≤ 1 := by unfold leaveV; split <;> omega
    have e' : 1 + leaveV g'.pass = m := e'
    show m = 2
    omega
  · rw [if_neg c]
    by_cases d : (l.any fun g => g.taker == u && g.right == r) = true
    · rw [if_pos d]
      obtain ⟨g, hg, e⟩ := List.any_eq_true.mp d
      have hm : (1 + leaveV g.pass) ∈ (l.filter fun g => g.taker == u && g.right == r).map (fun g => 1 + leaveV g.pass) := List.mem_map.mpr ⟨g, List.mem_filter.mpr ⟨hg, e⟩, rfl⟩
      obtain ⟨h2, h3⟩ := h1 (List.ne_nil_of_mem hm)
      obtain ⟨g', hg', e'⟩ := List.mem_map.mp h2
      obtain ⟨hg1, hg2⟩ := List.mem_filter.mp hg'
      have np : g'.pass = false := by
        cases e2 : g'.pass with
        | false => rfl
        | true =>
          exfalso
          apply c
          refine List.any_eq_true.mpr ⟨g', hg1, ?_⟩
          simp only [Bool.and_eq_true] at hg2 ⊢
          exact ⟨hg2.1, hg2.2, e2⟩
      rw [np] at e'
      exact e'.symm
    · rw [if_neg d]
      refine h0 ?_
      rw [List.map_eq_nil_iff, List.filter_eq_nil_iff]
      intro g hg hh
      exact d (List.any_eq_true.mpr ⟨g, hg, hh⟩)
theorem share_two {l : List Wm01.Grant} {u r : Nat} : (share l u r == 2) = (l.any fun g => g.taker == u && (g.right == r && g.pass)) := by
  unfold share
  by_cases c : (l.any fun g => g.taker == u && (g.right == r && g.pass)) = true
  · rw [if_pos c, c]; rfl
  · rw [if_neg c]
    have c' : (l.any fun g => g.taker == u && (g.right == r && g.pass)) = false := by simpa using c
    rw [c']
    split <;> rfl
theorem share_has {l : List Wm01.Grant} {u r : Nat} (h : u ≠ 0) : Wm01.has l u r = share l u r := by
  unfold Wm01.has share
  rw [if_neg h]
def spShare (K : PySem.W.Frag) : Sp := fun vs H Q _ => ∃ (l : Addr) (xs : List V) (gs : List Wm01.Grant) (u r : Nat), vs = [.ref l, .int u, .int r] ∧ SqL K H l xs ∧ Paired (GrV K H) xs gs ∧ gs.length ≤ 1000 ∧ ∀ H', Same H H' → Q (.int (share gs u r)) H'
theorem cl_share (T : TX K mg) : Cl P w K mg base CX0 "share" 1 ["grants", "user", "right"] (spShare K) := by
  refine cl_of (d := d_share) T.g_share T.u_share sc_share b_share (fun vs H Q E h => ?_) (fun cdv A outer s H vs Q E hr h => ⟨_, PSs.nox (pss_one (ps_ret (pe_callBK (cr_maxDef rfl hr.units) (by rfl) T.f_max (by decide +kernel) (pa_cons (pe_lc (own := [("grant", 3)]) (g := gName 3) (tt := tAnd (tB (tEqI (tFld K (tVar 3) "taker") (tVar 1))) (tB (tEqI (tFld K (tVar 3) "right") (tVar 2)))) (te := tAdd (tC (.int (1))) (tFld K (tVar 3) "leave")) rfl sc_share.nd (pi_list (pv 0)) (blkOk_by (N := N_share) (sc := defScope s_share) (by decide +kernel)) (fun _ _ _ _ _ => pg_name (i := 3) sc_share.nd rfl (Or.inl rfl)) (fun _ _ _ _ _ => (pts_one (PW.pt (pw_and (pt_cmp (pc_eqI (pe_fld (pv 3) rfl) (pv 1))) (pw_and1 (pt_cmp (pc_eqI (pe_fld (pv 3) rfl) (pv 2)))))))) (fun _ _ _ _ _ => (pe_add pe_int (pe_fld (pv 3) rfl)))) pa_nil) (pk_cons pe_int pk_nil)))), ?_⟩)
  · obtain ⟨l, xs, gs, u, r, rfl, _⟩ := h
    rfl
  · obtain ⟨l, xs, gs, u, r, rfl, hS, hp, hn, q⟩ := h
    refine ⟨_, rfl, l, rfl, ⟨_, hS⟩, fun D hD => ?_⟩
    refine lc_rows (R := GrV K H) (S := fun y g => y = V.int (1 + leaveV g.pass)) hS hp (by rw [pr_len hp]; omega) (fun g => g.taker == u && g.right == r) hD (fun x => rfl) ?_ ?_ ?_
    · rintro x g hm ⟨a, rfl, dx, hg⟩ H' s' R hR
      have h1 := s' _ _ hg
      k_call_by "rd" (h1, T.c_Grant, T.n_Grant_taker, T.n_Grant_right, gF_taker, gF_right)
      exact hR _ (Same.refl _)
    · rintro x g hm ⟨a, rfl, dx, hg⟩ _ H' s' R hR
      have h1 := s' _ _ hg
      k_call_by "rd" (h1, T.c_Grant, T.n_Grant_leave, gF_leave)
      exact hR _ _ rfl (Same.refl _)
    · intro ys H' hys s' hd
      have e := pr_map hys
      refine ⟨D, _, 0, rfl, rfl, SqL.of (hd.trans (congrArg (fun z => some (HO.lst z)) (e.trans (List.map_map (f := fun g : Wm01.Grant => 1 + leaveV g.pass) (g := V.int)).symm))), fun m h0 h1 => ?_⟩
      rw [share_max h0 h1]
      exact q H' s'
def spMayGive (K : PySem.W.Frag) : Sp := fun vs H Q _ => ∃ (l : Addr) (xs : List V) (gs : List Wm01.Grant) (u r : Nat), vs = [.ref l, .int u, .int r] ∧ SqL K H l xs ∧ Paired (GrV K H) xs gs ∧ gs.length ≤ 1000 ∧ ∀ H', Same H H' → Q (.bl (Wm01.mayGive gs u r)) H'
theorem cl_may_give (T : TX K mg) : Cl P w K mg base CX0 "may_give" 2 ["grants", "giver", "right"] (spMayGive K) := by
  have c_share : Cl P w K mg base CX0 "share" 1 ["grants", "user", "right"] (spShare K) := cl_share T
  refine cl_of (d := d_may_give) T.g_may_give T.u_may_give sc_may_give b_may_give (fun vs H Q E h => ?_) (fun cdv A outer s H vs Q E hr h => ⟨_, PSs.nox (pss_one (ps_ret (pe_or (pe_cmp (pc_eqI (pv 1) (pe_gi T.i_HOUSE)) rfl) (pe_one (pe_cmp (pc_eqI (pe_c c_share (hr.mono (by omega)) pass0 (pa_cons (pv 0) (pa_cons (pv 1) (pa_cons (pv 2) pa_nil)))) (pe_gi T.i_WITH_LEAVE)) rfl))))), ?_⟩)
  · obtain ⟨l, xs, gs, u, r, rfl, _⟩ := h
    rfl
  · obtain ⟨l, xs, gs, u, r, rfl, hS, hp, hn, q⟩ := h
    walk_at "rd"
    by_cases c : u = 0
    · subst c
      refine if_true_of (by decide) ?_
      have := q H (Same.refl _)
      unfold Wm01.mayGive at this
      exact this
    · refine if_false_of (decide_eq_false (by omega)) ?_
      refine ⟨l, xs, gs, u, r, rfl, hS, hp, hn, fun H' s' => ?_⟩
      have e : decide (((share gs u r : Nat) : Int) = 2) = Wm01.mayGive gs u r := by
        unfold Wm01.mayGive
        rw [← share_two, show (u == 0) = false from beq_eq_false_iff_ne.mpr c, Bool.false_or]
        exact deq _ 2
      walk_at "rd"
      rw [e]
      exact q H' s'
def spOfRight (K : PySem.W.Frag) : Sp := fun vs H Q _ => ∃ (l : Addr) (xs : List V) (gs : List Wm01.Grant) (r : Nat), vs = [.ref l, .int r] ∧ SqL K H l xs ∧ Paired (GrV K H) xs gs ∧ gs.length ≤ 1000 ∧
  ∀ H' p ys, Same H H' → H p = none → H' p = some (.lst ys) → Paired (GrV K H') ys (gs.filter fun g => g.right == r) → Q (.ref p) H'
theorem cl_of_right (T : TX K mg) : Cl P w K mg base CX0 "of_right" 1 ["grants", "right"] (spOfRight K) := by
  refine cl_of (d := d_of_right) T.g_of_right T.u_of_right sc_of_right b_of_right (fun vs H Q E h => ?_) (fun cdv A outer s H vs Q E hr h => ⟨_, PSs.nox (pss_one (ps_ret (pe_lc (own := [("grant", 2)]) (g := gName 2) (tt := tB (tEqI (tFld K (tVar 2) "right") (tVar 1))) (te := tVar 2) rfl sc_of_right.nd (pi_list (pv 0)) (blkOk_by (N := N_of_right) (sc := defScope s_of_right) (by decide +kernel)) (fun _ _ _ _ _ => pg_name (i := 2) sc_of_right.nd rfl (Or.inl rfl)) (fun _ _ _ _ _ => (pts_one (pt_cmp (pc_eqI (pe_fld (pv 2) rfl) (pv 1))))) (fun _ _ _ _ _ => (pv 2))))), ?_⟩)
  · obtain ⟨l, xs, gs, r, rfl, _⟩ := h
    rfl
  · obtain ⟨l, xs, gs, r, rfl, hS, hp, hn, q⟩ := h
    refine ⟨_, rfl, l, rfl, ⟨_, hS⟩, fun D hD => ?_⟩
    refine lc_rows (R := GrV K H) (S := GrV K H) hS hp (by rw [pr_len hp]; omega) (fun g => g.right == r) hD (fun x => rfl) ?_ ?_ ?_
    · rintro x g hm ⟨a, rfl, dx, hg⟩ H' s' R hR
      have h1 := s' _ _ hg
      k_call_by "rd" (h1, T.c_Grant, T.n_Grant_right, gF_right)
      exact hR _ (Same.refl _)
    · rintro x g hm hx _ H' s' R hR
      walk_at "rd"
      exact hR _ _ hx (Same.refl _)
    · intro ys H' hys s' hd
      exact q H' D ys s' hD hd (grs_mono s' hys)
def spIsGiven (K : PySem.W.Frag) : Sp := fun vs H Q _ => ∃ (v : V) (g : Wm01.Grant) (a b r : Nat), vs = [v, .int a, .int b, .int r] ∧ GrV K H v g ∧ Q (.bl (Wm01.by_ a b r g)) H
theorem cl_is_given (T : TX K mg) : Cl P w K mg base CX0 "is_given" 1 ["grant", "giver", "taker", "right"] (spIsGiven K) := by
  refine cl_of (d := d_is_given) T.g_is_given T.u_is_given sc_is_given b_is_given (fun vs H Q E h => ?_) (fun cdv A outer s H vs Q E hr h => ⟨_, PSs.nox (pss_one (ps_ret (pe_and (pe_cmp (pc_eqI (pe_fld (pv 0) rfl) (pv 1)) rfl) (pe_and (pe_cmp (pc_eqI (pe_fld (pv 0) rfl) (pv 2)) rfl) (pe_one (pe_cmp (pc_eqI (pe_fld (pv 0) rfl) (pv 3)) rfl)))))), ?_⟩)
  · obtain ⟨l, g, a, b, r, rfl, _⟩ := h
    rfl
  · obtain ⟨v, g, a, b, r, rfl, ⟨l, rfl, dx, hg⟩, q⟩ := h
    k_call_by "rd" (hg, T.c_Grant, T.n_Grant_right, gF_right, T.n_Grant_giver, gF_giver, T.n_Grant_taker, gF_taker)
    exact q
def spAnyGiven (K : PySem.W.Frag) : Sp := fun vs H Q _ => ∃ (l : Addr) (xs : List V) (gs : List Wm01.Grant) (a b r : Nat), vs = [.ref l, .int a, .int b, .int r] ∧ SqL K H l xs ∧ Paired (GrV K H) xs gs ∧ gs.length ≤ 1000 ∧ ∀ H', Same H H' → Q (.bl (gs.any (Wm01.by_ a b r))) H'
theorem cl_any_given (T : TX K mg) : Cl P w K mg base CX0 "any_given" 2 ["grants", "giver", "taker", "right"] (spAnyGiven K) := by
  have c_is_given : Cl P w K mg base CX0 "is_given" 1 ["grant", "giver", "taker", "right"] (spIsGiven K) := cl_is_given T
  refine cl_of (d := d_any_given) T.g_any_given T.u_any_given sc_any_given b_any_given (fun vs H Q E h => ?_) (fun cdv A outer s H vs Q E hr h => ⟨_, PSs.nox (pss_one (ps_ret (pe_callB (cr_any rfl) (by rfl) T.f_any (by decide +kernel) (pa_cons (pe_lc (own := [("grant", 4)]) (g := gName 4) (tt := tYes) (te := tCall _ [] _ (tCons (tVar 4) (tCons (tVar 1) (tCons (tVar 2) (tCons (tVar 3) tNil))))) rfl sc_any_given.nd (pi_list (pv 0)) (blkOk_by (N := N_any_given) (sc := defScope s_any_given) (by decide +kernel)) (fun _ _ _ _ _ => pg_name (i := 4) sc_any_given.nd rfl (Or.inl rfl)) (fun _ _ _ _ _ => pts_nil) (fun _ _ _ _ _ => (pe_c c_is_given (hr.mono (by omega)) pass0 (pa_cons (pv 4) (pa_cons (pv 1) (pa_cons (pv 2) (pa_cons (pv 3) pa_nil))))))) pa_nil)))), ?_⟩)
  · obtain ⟨l, xs, gs, a, b, r, rfl, _⟩ := h
    rfl
  · obtain ⟨l, xs, gs, a, b, r, rfl, hS, hp, hn, q⟩ := h
    refine ⟨_, rfl, l, rfl, ⟨_, hS⟩, fun D hD => ?_⟩
    refine lc_rows (R := GrV K H) (S := fun y g => y = V.bl (Wm01.by_ a b r g)) hS hp (by rw [pr_len hp]; omega) (fun g => true) hD (fun x => rfl) ?_ ?_ ?_
    · rintro x g hm hx H' s' R hR
      exact hR _ (Same.refl _)
    · rintro x g hm hx _ H' s' R hR
      walk_at "rd"
      exact ⟨x, g, a, b, r, rfl, hx.mono s', hR _ _ rfl (Same.refl _)⟩
    · intro ys H' hys s' hd
      have e := pr_map hys
      rw [List.filter_eq_self.mpr (fun _ _ => rfl)] at e
      refine ⟨D, gs.map (Wm01.by_ a b r), rfl, SqL.of (hd.trans (congrArg (fun z => some (HO.lst z)) (e.trans (List.map_map (f := Wm01.by_ a b r) (g := V.bl)).symm))), ?_⟩
      rw [List.any_map]
      exact q H' s'
def spWithoutGiven (K : PySem.W.Frag) : Sp := fun vs H Q _ => ∃ (l : Addr) (xs : List V) (gs : List Wm01.Grant) (a b r : Nat), vs = [.ref l, .int a, .int b, .int r] ∧ SqL K H l xs ∧ Paired (GrV K H) xs gs ∧ gs.length ≤ 1000 ∧
  ∀ H' p ys, Same H H' → H p = none → H' p = some (.lst ys) → Paired (GrV K H') ys (gs.filter fun g => !Wm01.by_ a b r g) → Q (.ref p) H'
theorem cl_without_given (T : TX K mg) : Cl P w K mg base CX0 "without_given" 2 ["grants", "giver", "taker", "right"] (spWithoutGiven K) := by
  have c_is_given : Cl P w K mg base CX0 "is_given" 1 ["grant", "giver", "taker", "right"] (spIsGiven K) := cl_is_given T
  refine cl_of (d := d_without_given) T.g_without_given T.u_without_given sc_without_given b_without_given (fun vs H Q E h => ?_) (fun cdv A outer s H vs Q E hr h => ⟨_, PSs.nox (pss_one (ps_ret (pe_lc (own := [("grant", 4)]) (g := gName 4) (tt := tNot (tB (tCall _ [] _ (tCons (tVar 4) (tCons (tVar 1) (tCons (tVar 2) (tCons (tVar 3) tNil))))))) (te := tVar 4) rfl sc_without_given.nd (pi_list (pv 0)) (blkOk_by (N := N_without_given) (sc := defScope s_without_given) (by decide +kernel)) (fun _ _ _ _ _ => pg_name (i := 4) sc_without_given.nd rfl (Or.inl rfl)) (fun _ _ _ _ _ => (pts_one (pt_not (pt_val (pe_c c_is_given (hr.mono (by omega)) pass0 (pa_cons (pv 4) (pa_cons (pv 1) (pa_cons (pv 2) (pa_cons (pv 3) pa_nil))))))))) (fun _ _ _ _ _ => (pv 4))))), ?_⟩)
  · obtain ⟨l, xs, gs, a, b, r, rfl, _⟩ := h
    rfl
  · obtain ⟨l, xs, gs, a, b, r, rfl, hS, hp, hn, q⟩ := h
    refine ⟨_, rfl, l, rfl, ⟨_, hS⟩, fun D hD => ?_⟩
    refine lc_rows (R := GrV K H) (S := GrV K H) hS hp (by rw [pr_len hp]; omega) (fun g => !Wm01.by_ a b r g) hD (fun x => rfl) ?_ ?_ ?_
    · rintro x g hm hx H' s' R hR
      walk_at "rd"
      refine ⟨x, g, a, b, r, rfl, hx.mono s', ?_⟩
      walk_at "rd"
      exact hR _ (Same.refl _)
    · rintro x g hm hx _ H' s' R hR
      walk_at "rd"
      exact hR _ _ hx (Same.refl _)
    · intro ys H' hys s' hd
      exact q H' D ys s' hD hd (grs_mono s' hys)
theorem standFrom_more (l : List Wm01.Grant) : ∀ (m : List Wm01.Grant) (g : Wm01.Grant), Wm01.standFrom l (m ++ [g]) = if Wm01.mayGive (Wm01.standFrom l m) g.giver g.right = true then Wm01.standFrom l m ++ [g] else Wm01.standFrom l m := by
  intro m
  induction m generalizing l with
  | nil => intro g; simp only [List.nil_append, Wm01.standFrom]; rfl
  | cons x m ih =>
    intro g
    simp only [List.cons_append, Wm01.standFrom]
    split <;> exact ih _ g
theorem stand_more {gs : List Wm01.Grant} {i : Nat} {g : Wm01.Grant} (h : gs[i]? = some g) : Wm01.stand (gs.take (i + 1)) = if Wm01.mayGive (Wm01.stand (gs.take i)) g.giver g.right = true then Wm01.stand (gs.take i) ++ [g] else Wm01.stand (gs.take i) := by
  rw [take_more h]
  exact standFrom_more [] _ g
theorem standFrom_len (l : List Wm01.Grant) : ∀ m, (Wm01.standFrom l m).length ≤ l.length + m.length := by
  intro m
  induction m generalizing l with
  | nil => exact Nat.le_refl _
  | cons x m ih =>
    simp only [Wm01.standFrom, List.length_cons]
    split
    · refine Nat.le_trans (ih _) ?_
      rw [List.length_append, List.length_singleton]; omega
    · refine Nat.le_trans (ih _) ?_
      omega
theorem stand_len (m : List Wm01.Grant) : (Wm01.stand m).length ≤ m.length := by
  have := standFrom_len [] m
  unfold Wm01.stand
  simpa using this
def spStanding (K : PySem.W.Frag) : Sp := fun vs H Q _ => ∃ (l : Addr) (xs : List V) (gs : List Wm01.Grant), vs = [.ref l] ∧ SqL K H l xs ∧ Paired (GrV K H) xs gs ∧ gs.length ≤ 1000 ∧
  ∀ H' p ys, Same H H' → H p = none → H' p = some (.lst ys) → Paired (GrV K H') ys (Wm01.stand gs) → Q (.ref p) H'
theorem cl_standing (T : TX K mg) : Cl P w K mg base CX0 "standing" 3 ["grants"] (spStanding K) := by
  have c_may_give : Cl P w K mg base CX0 "may_give" 2 ["grants", "giver", "right"] (spMayGive K) := cl_may_give T
  refine cl_of (d := d_standing) T.g_standing T.u_standing sc_standing b_standing (fun vs H Q E h => ?_) (fun cdv A outer s H vs Q E hr h => ⟨_, PSs.nox (pss_cons (ps_set (i := 1) sc_standing.nd rfl (Or.inl rfl) (pe_lst pa_nil))
    (pss_cons (ps_for PassesOwn.never rfl (pi_list (pv 0)) (pg_name (i := 2) sc_standing.nd rfl (Or.inl rfl)) (pss_one (ps_if (pt_val (pe_c c_may_give (hr.mono (by omega)) pass0 (pa_cons (pv 1) (pa_cons (pe_fld (pv 2) rfl) (pa_cons (pe_fld (pv 2) rfl) pa_nil))))) (pss_one (ps_expr (pe_bm PySem.F.plainAttrs_list PySem.F.slot_list_append PySem.F.type_list_append mt_append (pv 1) (pa_cons (pv 2) pa_nil)))) pss_nil)))
    (pss_one (ps_ret (pv 1))))), ?_⟩)
  · obtain ⟨l, xs, gs, rfl, _⟩ := h
    rfl
  · obtain ⟨l, xs, gs, rfl, hS, hp, hn, q⟩ := h
    refine ⟨by decide, fun k hk => ?_⟩
    obtain ⟨Pv, hPv⟩ : ∃ Pv : Nat → L2.St → Hp → Prop, ∀ i σ H', Pv i σ H' ↔ ∃ v ys, σ = [some (.ref l), some (.ref k), v] ∧ Same H H' ∧ H' k = some (.lst ys) ∧ Paired (GrV K H) ys (Wm01.stand (gs.take i)) := ⟨_, fun _ _ _ => Iff.rfl⟩
    refine ⟨_, rfl, l, rfl, ⟨_, (same_upd hk).seq hS⟩, for_list (K := K) (a := l) (xs := xs) Pv
      ((hPv _ _ _).mpr ⟨none, [], rfl, same_upd hk, upd_same, .nil⟩) (fun i σ H' _ z => by obtain ⟨_, _, _, s', _⟩ := (hPv _ _ _).mp z; exact s'.seq hS) ?_ ?_⟩
    · intro i x σ H' hi z
      obtain ⟨v, ys, rfl, s', hk', hys⟩ := (hPv _ _ _).mp z
      obtain ⟨g, hg, a, rfl, dx, ha⟩ := pr_get hp hi
      have step := stand_more hg
      have hlen : (Wm01.stand (gs.take i)).length ≤ 1000 := Nat.le_trans (stand_len _) (by rw [List.length_take]; omega)
      have h1 := s' _ _ ha
      k_call_by "rd" (h1, T.c_Grant, T.n_Grant_right, gF_right, T.n_Grant_giver, gF_giver)
      refine ⟨k, ys, _, g.giver, g.right, rfl, SqL.of hk', grs_mono s' hys, hlen, fun H2 s2 => ?_⟩
      walk_at "rd"
      cases c : Wm01.mayGive (Wm01.stand (gs.take i)) g.giver g.right with
      | true =>
        refine if_true_of rfl ?_
        rw [c, if_pos rfl] at step
        refine ⟨_, rfl, .inl ⟨rfl, _, SqL.of (s2 _ _ hk')⟩, _, rfl, k, ys, _, rfl, rfl, s2 _ _ hk', ?_, ?_⟩
        · rw [pr_len hys]; exact sz1000 (by omega)
        · refine (hPv _ _ _).mpr ⟨some (.ref a), ys ++ [.ref a], rfl, same_upd2 (s'.trans s2) hk, upd_same, ?_⟩
          rw [step]
          exact pr_app hys (.cons ⟨a, rfl, dx, ha⟩ .nil)
      | false =>
        refine if_false_of rfl ?_
        rw [c, if_neg Bool.false_ne_true] at step
        refine (hPv _ _ _).mpr ⟨some (.ref a), ys, rfl, s'.trans s2, s2 _ _ hk', ?_⟩
        rw [step]
        exact hys
    · intro σ H' z
      obtain ⟨v, ys, rfl, s', hk', hys⟩ := (hPv _ _ _).mp z
      have e : gs.take xs.length = gs := by rw [pr_len hp, List.take_length]
      rw [e] at hys
      exact ⟨_, rfl, q H' k ys s' hk hk' (grs_mono s' hys)⟩
def spTakenBack (K : PySem.W.Frag) : Sp := fun vs H Q _ => ∃ (l : Addr) (xs : List V) (gs : List Wm01.Grant) (a b r : Nat), vs = [.ref l, .int a, .int b, .int r] ∧ SqL K H l xs ∧ Paired (GrV K H) xs gs ∧ gs.length ≤ 1000 ∧
  ∀ H' p ys, Same H H' → H p = none → H' p = some (.lst ys) → Paired (GrV K H') ys (Wm01.revoked gs a b r) → Q (.ref p) H'
theorem cl_taken_back (T : TX K mg) : Cl P w K mg base CX0 "taken_back" 4 ["grants", "giver", "taker", "right"] (spTakenBack K) := by
  have c_standing : Cl P w K mg base CX0 "standing" 3 ["grants"] (spStanding K) := cl_standing T
  have c_without_given : Cl P w K mg base CX0 "without_given" 2 ["grants", "giver", "taker", "right"] (spWithoutGiven K) := cl_without_given T
  refine cl_of (d := d_taken_back) T.g_taken_back T.u_taken_back sc_taken_back b_taken_back (fun vs H Q E h => ?_) (fun cdv A outer s H vs Q E hr h => ⟨_, PSs.nox (pss_one (ps_ret (pe_c c_standing (hr.mono (by omega)) pass0 (pa_cons (pe_c c_without_given (hr.mono (by omega)) pass0 (pa_cons (pv 0) (pa_cons (pv 1) (pa_cons (pv 2) (pa_cons (pv 3) pa_nil))))) pa_nil)))), ?_⟩)
  · obtain ⟨l, xs, gs, a, b, r, rfl, _⟩ := h
    rfl
  · obtain ⟨l, xs, gs, a, b, r, rfl, hS, hp, hn, q⟩ := h
    walk_at "rd"
    refine ⟨l, xs, gs, a, b, r, rfl, hS, hp, hn, fun H1 p ys s1 hp1 hy hys => ?_⟩
    walk_at "rd"
    refine ⟨p, ys, _, rfl, SqL.of hy, hys, Nat.le_trans (List.length_filter_le _ _) hn, fun H2 p2 ys2 s2 hp2 hy2 hys2 => ?_⟩
    exact q H2 p2 ys2 (s1.trans s2) (s1.free hp2) hy2 hys2
theorem GrV.updL {H : Hp} {v : V} {g : Wm01.Grant} {k : Addr} {ys : List V} {o : HO} (h : GrV K H v g) (hk : H k = some (.lst ys)) : GrV K (upd H k o) v g := by
  obtain ⟨a, e, dx, h⟩ := h
  exact ⟨a, e, dx, by rw [upd_ne (ne_of h hk (by intro z; cases z))]; exact h⟩
theorem takeOver_more (a b r : Nat) : ∀ (m l : List Wm01.Grant) (g : Wm01.Grant), Wm01.takeOver a b r l (m ++ [g]) =
    if Wm01.mayGive (Wm01.takeOver a b r l m) g.giver g.right = true then Wm01.takeOver a b r l m ++ [g] else if g.giver = b ∧ g.right = r ∧ g.taker ≠ a then Wm01.takeOver a b r l m ++ [{ g with giver := a }] else Wm01.takeOver a b r l m := by
  intro m
  induction m with
  | nil => intro l g; simp only [List.nil_append, Wm01.takeOver]; rfl
  | cons x m ih =>
    intro l g
    simp only [List.cons_append, Wm01.takeOver]
    split
    · exact ih _ g
    · split <;> exact ih _ g
theorem takeOver_len (a b r : Nat) : ∀ (m l : List Wm01.Grant), (Wm01.takeOver a b r l m).length ≤ l.length + m.length := by
  intro m
  induction m with
  | nil => intro l; exact Nat.le_refl _
  | cons x m ih =>
    intro l
    simp only [Wm01.takeOver, List.length_cons]
    split
    · refine Nat.le_trans (ih _) ?_
      rw [List.length_append, List.length_singleton]; omega
    · split
      · refine Nat.le_trans (ih _) ?_
        rw [List.length_append, List.length_singleton]; omega
      · refine Nat.le_trans (ih _) ?_
        omega
def spTakenOver (K : PySem.W.Frag) : Sp := fun vs H Q _ => ∃ (l : Addr) (xs : List V) (gs : List Wm01.Grant) (a b r : Nat), vs = [.ref l, .int a, .int b, .int r] ∧ SqL K H l xs ∧ Paired (GrV K H) xs gs ∧ gs.length ≤ 1000 ∧
  ∀ H' p ys, Same H H' → H p = none → H' p = some (.lst ys) → Paired (GrV K H') ys (Wm01.keptOver gs a b r) → Q (.ref p) H'
theorem cl_taken_over (T : TX K mg) : Cl P w K mg base CX0 "taken_over" 4 ["grants", "giver", "taker", "right"] (spTakenOver K) := by
  have c_may_give : Cl P w K mg base CX0 "may_give" 2 ["grants", "giver", "right"] (spMayGive K) := cl_may_give T
  have c_without_given : Cl P w K mg base CX0 "without_given" 2 ["grants", "giver", "taker", "right"] (spWithoutGiven K) := cl_without_given T
  have c_Grant : Il P w K mg base CX0 "Grant" (He.ga K "Grant") 1 ["self", "number", "giver", "taker", "right", "leave"] (spGrantInit K) := il_Grant T
  refine cl_of (d := d_taken_over) T.g_taken_over T.u_taken_over sc_taken_over b_taken_over (fun vs H Q E h => ?_) (fun cdv A outer s H vs Q E hr h => ⟨_, PSs.nox (pss_cons (ps_set (i := 4) sc_taken_over.nd rfl (Or.inl rfl) (pe_lst pa_nil))
    (pss_cons (ps_for PassesOwn.never rfl (pi_list (pe_c c_without_given (hr.mono (by omega)) pass0 (pa_cons (pv 0) (pa_cons (pv 1) (pa_cons (pv 2) (pa_cons (pv 3) pa_nil)))))) (pg_name (i := 5) sc_taken_over.nd rfl (Or.inl rfl)) (pss_one (ps_if (pt_val (pe_c c_may_give (hr.mono (by omega)) pass0 (pa_cons (pv 4) (pa_cons (pe_fld (pv 5) rfl) (pa_cons (pe_fld (pv 5) rfl) pa_nil))))) (pss_one (ps_expr (pe_bm PySem.F.plainAttrs_list PySem.F.slot_list_append PySem.F.type_list_append mt_append (pv 4) (pa_cons (pv 5) pa_nil)))) (pss_one (ps_if (PW.pt (pw_and (pt_cmp (pc_eqI (pe_fld (pv 5) rfl) (pv 3))) (pw_and (pt_cmp (pc_eqI (pe_fld (pv 5) rfl) (pv 2))) (pw_and1 (pt_cmp (pc_neI (pe_fld (pv 5) rfl) (pv 1))))))) (pss_one (ps_expr (pe_bm PySem.F.plainAttrs_list PySem.F.slot_list_append PySem.F.type_list_append mt_append (pv 4) (pa_cons (pe_i c_Grant (hr.mono (by omega)) pass0 (pa_cons (pe_fld (pv 5) rfl) (pa_cons (pv 1) (pa_cons (pe_fld (pv 5) rfl) (pa_cons (pv 3) (pa_cons (pe_fld (pv 5) rfl) pa_nil)))))) pa_nil)))) pss_nil)))))
    (pss_one (ps_ret (pv 4))))), ?_⟩)
  · obtain ⟨l, xs, gs, a, b, r, rfl, _⟩ := h
    rfl
  · obtain ⟨l, xs, gs, a, b, r, rfl, hS, hp, hn, q⟩ := h
    refine ⟨by decide, fun k hk => ?_⟩
    refine ⟨_, rfl, _, rfl, _, rfl, _, rfl, l, xs, gs, a, b, r, rfl, (same_upd hk).seq hS, grs_mono (same_upd hk) hp, hn, fun H1 wl zs s1 hw hz hzs => ?_⟩
    have s0 : Same H H1 := (same_upd hk).trans s1
    have hk1 : H1 k = some (.lst []) := s1 _ _ upd_same
    have hl1 : (gs.filter fun g => !Wm01.by_ a b r g).length ≤ 1000 := Nat.le_trans (List.length_filter_le _ _) hn
    have hwH : H wl = none := (same_upd hk).free hw
    generalize hfs : (gs.filter fun g => !Wm01.by_ a b r g) = fs at hzs hl1
    have nwk : wl ≠ k := fun z => by rw [z, upd_same] at hw; cases hw
    obtain ⟨Pv, hPv⟩ : ∃ Pv : Nat → L2.St → Hp → Prop, ∀ i σ H', Pv i σ H' ↔ ∃ v ys, σ = [some (.ref l), some (.int a), some (.int b), some (.int r), some (.ref k), v] ∧ Kept [k] H1 H' ∧ H' k = some (.lst ys) ∧ Paired (GrV K H') ys (Wm01.takeOver a b r [] (fs.take i)) := ⟨_, fun _ _ _ => Iff.rfl⟩
    have sq : ∀ H', Kept [k] H1 H' → SqL K H' wl zs := fun H' kp => SqL.of (kp _ _ hz (by simpa using nwk))
    refine ⟨wl, rfl, ⟨_, SqL.of hz⟩, for_list (K := K) (a := wl) (xs := zs) Pv ((hPv _ _ _).mpr ⟨none, [], rfl, fun b o e _ => e, hk1, .nil⟩) (fun i σ H' _ z => by obtain ⟨_, _, _, kp, _⟩ := (hPv _ _ _).mp z; exact sq H' kp) ?_ ?_⟩
    · intro i x σ H' hi z
      obtain ⟨v, ys, rfl, kp, hk', hys⟩ := (hPv _ _ _).mp z
      obtain ⟨g, hg, c, rfl, dx, ha⟩ := pr_get hzs hi
      have nck : c ≠ k := ne_of ha hk1 (by intro z; cases z)
      have step := takeOver_more a b r (fs.take i) [] g
      rw [← take_more hg] at step
      have hlen : (Wm01.takeOver a b r [] (fs.take i)).length ≤ 1000 := Nat.le_trans (takeOver_len _ _ _ _ _) (by rw [List.length_take, List.length_nil]; omega)
      have h1 := kp _ _ ha (by simpa using nck)
      k_call_by "rd" (h1, T.c_Grant, T.n_Grant_right, gF_right, T.n_Grant_giver, gF_giver)
      refine ⟨k, ys, _, g.giver, g.right, rfl, SqL.of hk', hys, hlen, fun H2 s2 => ?_⟩
      walk_at "rd"
      cases cm : Wm01.mayGive (Wm01.takeOver a b r [] (fs.take i)) g.giver g.right with
      | true =>
        refine if_true_of rfl ?_
        rw [cm, if_pos rfl] at step
        refine ⟨_, rfl, .inl ⟨rfl, _, SqL.of (s2 _ _ hk')⟩, _, rfl, k, ys, _, rfl, rfl, s2 _ _ hk', ?_, ?_⟩
        · rw [pr_len hys]; exact sz1000 (by omega)
        · refine (hPv _ _ _).mpr ⟨some (.ref c), ys ++ [.ref c], rfl, fun b o e hb => ?_, upd_same, ?_⟩
          · rw [upd_ne (by simpa using hb)]; exact s2 _ _ (kp _ _ e hb)
          · rw [step]
            exact pr_app (pr_imp hys fun v g z => (z.mono s2).updL (s2 _ _ hk')) (.cons (GrV.updL ⟨c, rfl, dx, s2 _ _ h1⟩ (s2 _ _ hk')) .nil)
      | false =>
        refine if_false_of rfl ?_
        rw [cm, if_neg Bool.false_ne_true] at step
        have h2 := s2 _ _ h1
        k_call_by "rd" (h2, T.c_Grant, T.n_Grant_right, gF_right, T.n_Grant_giver, gF_giver, T.n_Grant_taker, gF_taker)
        have kp2 : Kept [k] H1 H2 := kp.trans (Kept.of s2)
        have no : ¬ (g.giver = b ∧ g.right = r ∧ g.taker ≠ a) → Pv (i + 1) [some (V.ref l), some (V.int a), some (V.int b), some (V.int r), some (V.ref k), some (V.ref c)] H2 := fun hno => by
          rw [if_neg hno] at step
          refine (hPv _ _ _).mpr ⟨some (.ref c), ys, rfl, kp2, s2 _ _ hk', ?_⟩
          rw [step]
          exact pr_imp hys fun _ _ z => z.mono s2
        by_cases c1 : g.right = r
        · refine if_true_of (beq_iff_eq.mpr c1) ?_
          by_cases c2 : g.giver = b
          · refine if_true_of (beq_iff_eq.mpr c2) ?_
            by_cases c3 : g.taker = a
            · exact if_false_of (by simp [c3]) (no fun z => z.2.2 c3)
            · refine if_true_of (by simp [c3]) ?_
              rw [if_pos ⟨c2, c1, c3⟩] at step
              refine ⟨_, rfl, .inl ⟨rfl, _, SqL.of (s2 _ _ hk')⟩, ?_⟩
              k_call_by "rd" (tMake, h2, T.c_Grant, T.n_Grant_number, gF_number, T.n_Grant_taker, gF_taker, T.n_Grant_leave, gF_leave)
              intro x dx' nx nd ne
              refine ⟨x, dx', _, _, _, _, _, rfl, upd_same, fun H3 hx k3 => ⟨rfl, ?_⟩⟩
              have s3 : Same H2 H3 := made_same nx nd k3
              refine ⟨k, ys, _, rfl, rfl, s3 _ _ (s2 _ _ hk'), ?_, ?_⟩
              · rw [pr_len hys]; exact sz1000 (by omega)
              · refine (hPv _ _ _).mpr ⟨some (.ref c), ys ++ [.ref x], rfl, fun b o e hb => ?_, upd_same, ?_⟩
                · rw [upd_ne (by simpa using hb)]; exact s3 _ _ (kp2 _ _ e hb)
                · rw [step]
                  refine pr_app (pr_imp hys fun v g z => ((z.mono s2).mono s3).updL (s3 _ _ (s2 _ _ hk'))) (.cons (GrV.updL ⟨x, rfl, dx', ?_⟩ (s3 _ _ (s2 _ _ hk'))) .nil)
                  rw [hx]
                  show some (HO.ins _ dx' (gFv _ _ _ _ _)) = some (HO.ins _ dx' (gFv _ _ _ _ _))
                  rw [c1]
          · exact if_false_of (beq_eq_false_iff_ne.mpr c2) (no fun z => c2 z.1)
        · exact if_false_of (beq_eq_false_iff_ne.mpr c1) (no fun z => c1 z.2.1)
    · intro σ H' z
      obtain ⟨v, ys, rfl, kp, hk', hys⟩ := (hPv _ _ _).mp z
      have e : fs.take zs.length = fs := by rw [pr_len hzs, List.take_length]
      rw [e] at hys
      refine ⟨_, rfl, q H' k ys (fun b o e => kp _ _ (s0 _ _ e) (by simpa using ne_of_none e hk)) hk hk' ?_⟩
      unfold Wm01.keptOver
      rw [hfs]
      exact hys
def spWithoutUser (K : PySem.W.Frag) : Sp := fun vs H Q _ => ∃ (l : Addr) (xs : List V) (gs : List Wm01.Grant) (u : Nat), vs = [.ref l, .int u] ∧ SqL K H l xs ∧ Paired (GrV K H) xs gs ∧ gs.length ≤ 1000 ∧
  ∀ H' p ys, Same H H' → H p = none → H' p = some (.lst ys) → Paired (GrV K H') ys (Wm01.stand (gs.filter fun g => g.giver != u && g.taker != u)) → Q (.ref p) H'
theorem cl_without_user (T : TX K mg) : Cl P w K mg base CX0 "without_user" 4 ["grants", "user"] (spWithoutUser K) := by
  have c_standing : Cl P w K mg base CX0 "standing" 3 ["grants"] (spStanding K) := cl_standing T
  refine cl_of (d := d_without_user) T.g_without_user T.u_without_user sc_without_user b_without_user (fun vs H Q E h => ?_) (fun cdv A outer s H vs Q E hr h => ⟨_, PSs.nox (pss_one (ps_ret (pe_c c_standing (hr.mono (by omega)) pass0 (pa_cons (pe_lc (own := [("grant", 2)]) (g := gName 2) (tt := tAnd (tB (tNeI (tFld K (tVar 2) "giver") (tVar 1))) (tB (tNeI (tFld K (tVar 2) "taker") (tVar 1)))) (te := tVar 2) rfl sc_without_user.nd (pi_list (pv 0)) (blkOk_by (N := N_without_user) (sc := defScope s_without_user) (by decide +kernel)) (fun _ _ _ _ _ => pg_name (i := 2) sc_without_user.nd rfl (Or.inl rfl)) (fun _ _ _ _ _ => (pts_one (PW.pt (pw_and (pt_cmp (pc_neI (pe_fld (pv 2) rfl) (pv 1))) (pw_and1 (pt_cmp (pc_neI (pe_fld (pv 2) rfl) (pv 1)))))))) (fun _ _ _ _ _ => (pv 2))) pa_nil)))), ?_⟩)
  · obtain ⟨l, xs, gs, u, rfl, _⟩ := h
    rfl
  · obtain ⟨l, xs, gs, u, rfl, hS, hp, hn, q⟩ := h
    refine ⟨_, rfl, l, rfl, ⟨_, hS⟩, fun D hD => ?_⟩
    refine lc_rows (R := GrV K H) (S := GrV K H) hS hp (by rw [pr_len hp]; omega) (fun g => g.giver != u && g.taker != u) hD (fun x => rfl) ?_ ?_ ?_
    · rintro x g hm ⟨a, rfl, dx, hg⟩ H' s' R hR
      have h1 := s' _ _ hg
      k_call_by "rd" (h1, T.c_Grant, T.n_Grant_giver, gF_giver, T.n_Grant_taker, gF_taker)
      exact hR _ (Same.refl _)
    · rintro x g hm hx _ H' s' R hR
      walk_at "rd"
      exact hR _ _ hx (Same.refl _)
    · intro ys H' hys s' hd
      refine ⟨D, ys, _, rfl, SqL.of hd, grs_mono s' hys, Nat.le_trans (List.length_filter_le _ _) hn, fun H2 p2 ys2 s2 hp2 hy2 hys2 => ?_⟩
      exact q H2 p2 ys2 (s'.trans s2) (s'.free hp2) hy2 hys2
end
end Gh
set_option Elab.async false
set_option linter.all false
set_option maxRecDepth 100000
set_option maxHeartbeats 4000000
namespace Gh
open PySem PySem.Spec PyProof.Rows L2
local macro_rules | `(tactic| walk_at "rd") => `(tactic| simp only [tRet, tSeq, tAsg, gName, tDrop, tIfS, tTest, tB, tAnd, tOr, tNot, tAndV, tOrV, tNotV, tCmp, t2I, tAdd, tSub, tMul, tIsN, tNotN, tC, tVar, tCons, tNil, tCall, tOp, tUn, tCB, tNext, tRetN, tIf, tFld, wipe, tYes, HO.ins.injEq, and_assoc, L2.start, List.map_cons, List.map_nil, List.length_cons, List.length_nil, List.cons_append, List.nil_append, List.append_nil, List.set_cons_zero, List.set_cons_succ, List.replicate, Nat.reduceAdd, Nat.reduceSub, Nat.zero_add, Nat.sub_self, List.getElem?_cons_zero, List.getElem?_cons_succ, Option.some.injEq, V.int.injEq, V.bl.injEq, V.ref.injEq, V.str.injEq, List.cons.injEq, reduceCtorEq, and_true, true_and, and_false, false_and, exists_eq_left, exists_eq_left', exists_eq_right, exists_eq_right', exists_and_left, exists_const, exists_false, exists_eq, if_true, if_false, Bool.false_eq_true, Bool.true_eq_false, cxK, andV, orV, andT, orT, deq, dle, dlt, Bool.not_true, Bool.not_false, decide_true, decide_false, ite_true, ite_false])
local macro_rules | `(tactic| k_call_by "rd" ($a, $bs,*)) => do { let cs := bs.getElems; `(tactic| simp only [$a:term, $[$cs:term],*, tRet, tSeq, tAsg, gName, tDrop, tIfS, tTest, tB, tAnd, tOr, tNot, tAndV, tOrV, tNotV, tCmp, t2I, tAdd, tSub, tMul, tIsN, tNotN, tC, tVar, tCons, tNil, tCall, tOp, tUn, tCB, tNext, tRetN, tIf, tFld, wipe, tYes, HO.ins.injEq, and_assoc, L2.start, List.map_cons, List.map_nil, List.length_cons, List.length_nil, List.cons_append, List.nil_append, List.append_nil, List.set_cons_zero, List.set_cons_succ, List.replicate, Nat.reduceAdd, Nat.reduceSub, Nat.zero_add, Nat.sub_self, List.getElem?_cons_zero, List.getElem?_cons_succ, Option.some.injEq, V.int.injEq, V.bl.injEq, V.ref.injEq, V.str.injEq, List.cons.injEq, reduceCtorEq, and_true, true_and, and_false, false_and, exists_eq_left, exists_eq_left', exists_eq_right, exists_eq_right', exists_and_left, exists_const, exists_false, exists_eq, if_true, if_false, Bool.false_eq_true, Bool.true_eq_false, cxK, andV, orV, andT, orT, deq, dle, dlt, Bool.not_true, Bool.not_false, decide_true, decide_false, ite_true, ite_false]) }
section
variable {P : Program} {w : World} {K : PySem.W.Frag} {mg : Str → Option Value} {base : Heap}
/-! ### caveats: threes of a row -/
abbrev Three := Nat × Nat × Nat
def threes : List Nat → List Three
  | k :: a :: v :: l => (k, a, v) :: threes l
  | _ => []
def threeV (t : Three) : List V := [.int t.1, .int t.2.1, .int t.2.2]
def ThV (H : Hp) (y : V) (t : Three) : Prop := ∃ a, y = .ref a ∧ H a = some (.tup (threeV t))
theorem ThV.mono {H H' : Hp} {y : V} {t : Three} (s : Same H H') (h : ThV H y t) : ThV H' y t := by
  obtain ⟨a, e, h⟩ := h
  exact ⟨a, e, s _ _ h⟩
theorem threes_len : ∀ (m : Nat) (l : List Nat), l.length = 3 * m → (threes l).length = m
  | 0, l, h => by
    have e : l = [] := List.eq_nil_of_length_eq_zero h
    subst e; rfl
  | m + 1, l, h => by
    match l, h with
    | k :: a :: v :: r, h =>
      have h' : r.length = 3 * m := by simp only [List.length_cons] at h; omega
      show (threes r).length + 1 = m + 1
      rw [threes_len m r h']
    | [], h => simp at h
    | [_], h => simp only [List.length_cons, List.length_nil] at h; omega
    | [_, _], h => simp only [List.length_cons, List.length_nil] at h; omega
theorem threes_at : ∀ (m : Nat) (l : List Nat) (i : Nat), l.length = 3 * m → i < m → ∃ k a v, (threes l)[i]? = some (k, a, v) ∧ l[3 * i]? = some k ∧ l[3 * i + 1]? = some a ∧ l[3 * i + 2]? = some v
  | 0, _, _, _, h => absurd h (Nat.not_lt_zero _)
  | m + 1, l, i, h, hi => by
    match l, h with
    | k :: a :: v :: r, h =>
      have h' : r.length = 3 * m := by simp only [List.length_cons] at h; omega
      cases i with
      | zero => exact ⟨k, a, v, rfl, rfl, rfl, rfl⟩
      | succ j =>
        obtain ⟨k', a', v', e1, e2, e3, e4⟩ := threes_at m r j h' (by omega)
        refine ⟨k', a', v', e1, ?_, ?_, ?_⟩
        · rw [show 3 * (j + 1) = 3 * j + 3 by omega]; exact e2
        · rw [show 3 * (j + 1) + 1 = (3 * j + 1) + 3 by omega]; exact e3
        · rw [show 3 * (j + 1) + 2 = (3 * j + 2) + 3 by omega]; exact e4
    | [], h => simp at h
    | [_], h => simp only [List.length_cons, List.length_nil] at h; omega
    | [_, _], h => simp only [List.length_cons, List.length_nil] at h; omega
theorem rg3 : ∀ m : Nat, m ≤ 10 → RgC 0 ((3 * m : Nat) : Int) 3 m
  | 0, _ => ⟨by decide, by decide, by decide, by decide⟩
  | 1, _ => ⟨by decide, by decide, by decide, by decide⟩
  | 2, _ => ⟨by decide, by decide, by decide, by decide⟩
  | 3, _ => ⟨by decide, by decide, by decide, by decide⟩
  | 4, _ => ⟨by decide, by decide, by decide, by decide⟩
  | 5, _ => ⟨by decide, by decide, by decide, by decide⟩
  | 6, _ => ⟨by decide, by decide, by decide, by decide⟩
  | 7, _ => ⟨by decide, by decide, by decide, by decide⟩
  | 8, _ => ⟨by decide, by decide, by decide, by decide⟩
  | 9, _ => ⟨by decide, by decide, by decide, by decide⟩
  | 10, _ => ⟨by decide, by decide, by decide, by decide⟩
  | n + 11, h => absurd h (by omega)
theorem nats_len (ns : List Nat) : (nats ns).length = ns.length := by unfold nats; rw [List.length_map]
theorem nats_at {ns : List Nat} {i : Nat} {n : Nat} (h : ns[i]? = some n) : (nats ns)[i]? = some (V.int (n : Int)) := by
  unfold nats
  rw [List.getElem?_map, h]
  rfl
def spCaveatsOf (K : PySem.W.Frag) : Sp := fun vs H Q _ => ∃ (l : Addr) (ns : List Nat) (m : Nat), vs = [.ref l] ∧ SqL K H l (nats ns) ∧ ns.length = 3 * m ∧ m ≤ 10 ∧
  ∀ H' p ys, Same H H' → H p = none → H' p = some (.lst ys) → Paired (ThV (newOf H H')) ys (threes ns) → Q (.ref p) H'
theorem cl_caveats_of (T : TX K mg) : Cl P w K mg base CX0 "caveats_of" 1 ["row"] (spCaveatsOf K) := by
  refine cl_of (d := d_caveats_of) T.g_caveats_of T.u_caveats_of sc_caveats_of b_caveats_of (fun vs H Q E h => ?_) (fun cdv A outer s H vs Q E hr h => ⟨_, PSs.nox (pss_one (ps_ret (pe_lc (own := [("at", 1)]) (g := gName 1) (tt := tYes) (te := tTup (tCons (tOp (rIxL K) (tVar 0) (tVar 1)) (tCons (tOp (rIxL K) (tVar 0) (tAdd (tVar 1) (tC (.int (1))))) (tCons (tOp (rIxL K) (tVar 0) (tAdd (tVar 1) (tC (.int (2))))) tNil)))) rfl sc_caveats_of.nd (pi_range3 rfl T.f_range (pa_cons pe_int (pa_cons (pe_callB cr_lenS (by rfl) T.f_len PySem.boot_len (pa_cons (pv 0) pa_nil)) (pa_cons (pe_gi T.i_CAVEAT_NUMBERS) pa_nil)))) (blkOk_by (N := N_caveats_of) (sc := defScope s_caveats_of) (by decide +kernel)) (fun _ _ _ _ _ => pg_name (i := 1) sc_caveats_of.nd rfl (Or.inl rfl)) (fun _ _ _ _ _ => pts_nil) (fun _ _ _ _ _ => (pe_tup (pa_cons (pe_ix ix_list (pv 0) (pv 1) (fun _ _ => rfl)) (pa_cons (pe_ix ix_list (pv 0) (pe_add (pv 1) pe_int) (fun _ _ => rfl)) (pa_cons (pe_ix ix_list (pv 0) (pe_add (pv 1) pe_int) (fun _ _ => rfl)) pa_nil)))))))), ?_⟩)
  · obtain ⟨l, ns, m, rfl, _⟩ := h
    rfl
  · obtain ⟨l, ns, m, rfl, hS, hm, hm8, q⟩ := h
    have hlen : (nats ns).length = 3 * m := by rw [nats_len, hm]
    refine ⟨_, rfl, l, nats ns, rfl, .inl hS, 0, ((nats ns).length : Int), 3, m, rfl, by rw [hlen]; exact rg3 m hm8, fun D hD => ?_⟩
    refine lc_rangeC (lo := 0) (c := 3) (n := m) (fun i H' => Same H H' ∧ ∃ ys, H' D = some (.lst ys) ∧ Paired (ThV (newOf H H')) ys ((threes ns).take i)) ⟨same_upd hD, [], upd_same, .nil⟩ ?_ ?_
    · rintro i H' hi ⟨s', ys, hy, hys⟩
      obtain ⟨k, a, v, e0, e1, e2, e3⟩ := threes_at m ns i hm hi
      have hS' : SqL K H' l (nats ns) := s'.seq hS
      have t0 : atI (nats ns) (0 + ((i : Nat) : Int) * 3) = some (V.int k) := at_of (j := 3 * i) (by omega) (nats_at e1)
      have t1 : atI (nats ns) (0 + ((i : Nat) : Int) * 3 + 1) = some (V.int a) := at_of (j := 3 * i + 1) (by omega) (nats_at e2)
      have t2 : atI (nats ns) (0 + ((i : Nat) : Int) * 3 + 2) = some (V.int v) := at_of (j := 3 * i + 2) (by omega) (nats_at e3)
      refine ⟨rfl, ?_⟩
      refine ⟨_, rfl, _, rfl, l, _, _, _, rfl, rfl, hS', t0, ?_⟩
      refine ⟨_, rfl, _, rfl, _, _, rfl, rfl, l, _, _, _, rfl, rfl, hS', t1, ?_⟩
      refine ⟨_, rfl, _, rfl, _, _, rfl, rfl, l, _, _, _, rfl, rfl, hS', t2, ?_⟩
      refine ⟨by show 3 ≤ sizeLine; decide, fun p hp => ?_⟩
      have npD : D ≠ p := ne_of_none hy hp
      have hlen' : ys.length ≤ i := by rw [pr_len hys, List.length_take]; omega
      refine ⟨ys, by rw [upd_ne npD]; exact hy, sz1000 (by omega), ?_⟩
      have s2 : Same H (upd (upd H' p (.tup [V.int k, V.int a, V.int v])) D (.lst (ys ++ [V.ref p]))) := same_upd2 (s'.trans (same_upd hp)) hD
      refine ⟨s2, ys ++ [.ref p], upd_same, ?_⟩
      rw [take_more e0]
      refine pr_app (pr_imp hys fun y t z => ?_) (.cons ⟨p, rfl, ?_⟩ .nil)
      · obtain ⟨c, rfl, z⟩ := z
        obtain ⟨z1, z2⟩ := of_newOf z
        refine ⟨c, rfl, newOf_at z1 ?_⟩
        rw [upd_ne (ne_of z2 hy (by intro z; cases z)), upd_ne (ne_of_none z2 hp)]
        exact z2
      · refine newOf_at (s'.free hp) ?_
        rw [upd_ne (Ne.symm npD)]
        exact upd_same
    · rintro H' ⟨s', ys, hy, hys⟩
      have e : (threes ns).take m = threes ns := by rw [← threes_len m ns hm, List.take_length]
      rw [e] at hys
      exact q H' D ys s' hD hy hys
/-- a three that tells a caveat -/
def okThree (t : Three) : Bool := decide (t.1 ≤ 2) && (decide (1 ≤ t.2.1) && (decide (t.2.1 ≤ 3) && decide (t.2.2 ≤ 100000)))
theorem dle2 (n : Nat) : decide ((n : Int) ≤ 2) = decide (n ≤ 2) := dle n 2
theorem dle3 (n : Nat) : decide ((n : Int) ≤ 3) = decide (n ≤ 3) := dle n 3
theorem three0 (t : Three) : atI (threeV t) 0 = some (V.int t.1) := rfl
theorem three1 (t : Three) : atI (threeV t) 1 = some (V.int t.2.1) := rfl
theorem three2 (t : Three) : atI (threeV t) 2 = some (V.int t.2.2) := rfl
def spIsCaveat : Sp := fun vs H Q _ => ∃ (y : V) (t : Three), vs = [y] ∧ ThV H y t ∧ Q (.bl (okThree t)) H
theorem cl_is_caveat (T : TX K mg) : Cl P w K mg base CX0 "is_caveat" 1 ["caveat"] spIsCaveat := by
  refine cl_of (d := d_is_caveat) T.g_is_caveat T.u_is_caveat sc_is_caveat b_is_caveat (fun vs H Q E h => ?_) (fun cdv A outer s H vs Q E hr h => ⟨_, PSs.nox (pss_one (ps_ret (pe_and (pe_cmp (pc_le (pe_ix ix_tup (pv 0) pe_int (fun _ _ => rfl)) (pe_gi T.i_LEAST)) rfl) (pe_and (pe_cmp (pc_le pe_int (pe_ix ix_tup (pv 0) pe_int (fun _ _ => rfl))) rfl) (pe_and (pe_cmp (pc_le (pe_ix ix_tup (pv 0) pe_int (fun _ _ => rfl)) (pe_gi T.i_CAVEAT_ATTRIBUTES)) rfl) (pe_one (pe_cmp (pc_le (pe_ix ix_tup (pv 0) pe_int (fun _ _ => rfl)) (pe_gi T.i_MOST_VALUE)) rfl))))))), ?_⟩)
  · obtain ⟨y, t, rfl, _⟩ := h
    rfl
  · obtain ⟨y, t, rfl, ⟨a, rfl, ha⟩, q⟩ := h
    walk_at "rd"
    refine ixT ha (three0 t) ?_
    k_call_by "rd" (dle2, dle2)
    unfold okThree at q
    cases c1 : decide (t.1 ≤ 2) with
    | false =>
      rw [c1] at q
      exact if_false_of rfl q
    | true =>
      rw [c1] at q
      refine if_true_of rfl (ixT ha (three1 t) ?_)
      k_call_by "rd" (d1le, d1le)
      cases c2 : decide (1 ≤ t.2.1) with
      | false =>
        rw [c2] at q
        exact if_false_of rfl q
      | true =>
        rw [c2] at q
        refine if_true_of rfl (ixT ha (three1 t) ?_)
        k_call_by "rd" (dle3, dle3)
        cases c3 : decide (t.2.1 ≤ 3) with
        | false =>
          rw [c3] at q
          exact if_false_of rfl q
        | true =>
          rw [c3] at q
          refine if_true_of rfl (ixT ha (three2 t) ?_)
          k_call_by "rd" (dle5, dle5)
          exact q
def areCav (ns : List Nat) : Bool := ns.length % 3 == 0 && (decide (ns.length ≤ 24) && (threes ns).all okThree)
def spAreCaveats (K : PySem.W.Frag) : Sp := fun vs H Q _ => ∃ (l : Addr) (ns : List Nat), vs = [.ref l] ∧ SqL K H l (nats ns) ∧ ns.length ≤ 30 ∧ ∀ H', Same H H' → Q (.bl (areCav ns)) H'
theorem cl_are_caveats (T : TX K mg) : Cl P w K mg base CX0 "are_caveats" 2 ["row"] (spAreCaveats K) := by
  have c_is_caveat : Cl P w K mg base CX0 "is_caveat" 1 ["caveat"] spIsCaveat := cl_is_caveat T
  have c_caveats_of : Cl P w K mg base CX0 "caveats_of" 1 ["row"] (spCaveatsOf K) := cl_caveats_of T
  refine cl_of (d := d_are_caveats) T.g_are_caveats T.u_are_caveats sc_are_caveats b_are_caveats (fun vs H Q E h => ?_) (fun cdv A outer s H vs Q E hr h => ⟨_, PSs.nox (pss_cons (ps_if (PW.pt (pw_or (pt_cmp (pc_neI (pe_op op_mod (pe_callB cr_lenS (by rfl) T.f_len PySem.boot_len (pa_cons (pv 0) pa_nil)) (pe_gi T.i_CAVEAT_NUMBERS)) pe_int)) (pw_or1 (pt_cmp (pc_gt (pe_callB cr_lenS (by rfl) T.f_len PySem.boot_len (pa_cons (pv 0) pa_nil)) (pe_mul (pe_gi T.i_MOST_CAVEATS) (pe_gi T.i_CAVEAT_NUMBERS))))))) (pss_one (ps_ret pe_bl)) pss_nil)
    (pss_one (ps_ret (pe_callB (cr_all rfl) (by rfl) T.f_all (by decide +kernel) (pa_cons (pe_lc (own := [("caveat", 1)]) (g := gName 1) (tt := tYes) (te := tCall _ [] _ (tCons (tVar 1) tNil)) rfl sc_are_caveats.nd (pi_list (pe_c c_caveats_of (hr.mono (by omega)) pass0 (pa_cons (pv 0) pa_nil))) (blkOk_by (N := N_are_caveats) (sc := defScope s_are_caveats) (by decide +kernel)) (fun _ _ _ _ _ => pg_name (i := 1) sc_are_caveats.nd rfl (Or.inl rfl)) (fun _ _ _ _ _ => pts_nil) (fun _ _ _ _ _ => (pe_c c_is_caveat (hr.mono (by omega)) pass0 (pa_cons (pv 1) pa_nil)))) pa_nil))))), ?_⟩)
  · obtain ⟨l, ns, rfl, _⟩ := h
    rfl
  · obtain ⟨l, ns, rfl, hS, hn, q⟩ := h
    walk_at "rd"
    refine lenS hS ?_
    rw [nats_len]
    refine ⟨_, _, rfl, rfl, (by show (0 : Int) < 3; decide), _, rfl, ?_⟩
    unfold areCav at q
    by_cases c1 : ns.length % 3 = 0
    · refine if_false_of (by rw [decide_eq_true (show ((ns.length : Nat) : Int) % 3 = 0 by omega)]; rfl) (lenS hS ?_)
      rw [nats_len]
      refine ⟨by decide, by decide, _, rfl, ?_⟩
      rw [show (ns.length % 3 == 0) = true from beq_iff_eq.mpr c1, Bool.true_and] at q
      by_cases c2 : ns.length ≤ 24
      · refine if_false_of (decide_eq_false (by omega)) ?_
        rw [decide_eq_true c2, Bool.true_and] at q
        obtain ⟨m, hm⟩ : ∃ m, ns.length = 3 * m := ⟨ns.length / 3, by omega⟩
        refine ⟨_, rfl, l, ns, m, rfl, hS, hm, by omega, fun H1 p ys s1 hp hy hys => ?_⟩
        refine ⟨p, rfl, ⟨_, SqL.of hy⟩, fun D hD => ?_⟩
        refine lc_rows (R := ThV (newOf H H1)) (S := fun y t => y = V.bl (okThree t)) (SqL.of hy) hys (by rw [pr_len hys, threes_len m ns hm]; omega) (fun _ => true) hD (fun x => rfl) ?_ ?_ ?_
        · rintro x t _ hx H' s' R hR
          exact hR _ (Same.refl _)
        · rintro x t _ hx _ H' s' R hR
          walk_at "rd"
          exact ⟨x, t, rfl, (hx.mono newOf_same).mono s', hR _ _ rfl (Same.refl _)⟩
        · intro zs H' hzs s' hd
          have e := pr_map hzs
          rw [List.filter_eq_self.mpr (fun _ _ => rfl)] at e
          refine ⟨D, (threes ns).map okThree, rfl, SqL.of (hd.trans (congrArg (fun z => some (HO.lst z)) (e.trans (List.map_map (f := okThree) (g := V.bl)).symm))), ?_⟩
          rw [List.all_map]
          exact q H' (s1.trans s')
      · refine if_true_of (decide_eq_true (by omega)) ?_
        have := q H (Same.refl _)
        rw [decide_eq_false c2] at this
        exact this
    · refine if_true_of (by rw [decide_eq_false (show ¬ ((ns.length : Nat) : Int) % 3 = 0 by omega)]; rfl) ?_
      have := q H (Same.refl _)
      rw [show (ns.length % 3 == 0) = false from beq_eq_false_iff_ne.mpr c1] at this
      exact this
/-! ### caveats that hold -/
/-- a caveat of a three -/
def cavOf (t : Three) : Wm06.Caveat := match t.1 with
  | 0 => .most t.2.1 t.2.2
  | 1 => .is_ t.2.1 t.2.2
  | _ => .least t.2.1 t.2.2
/-- a caveat as a three -/
def cavT : Wm06.Caveat → Three
  | .most a v => (0, a, v)
  | .is_ a v => (1, a, v)
  | .least a v => (2, a, v)
  | .needs d => (3, d, 0)
def CavOk (c : Wm06.Caveat) : Prop := okThree (cavT c) = true
theorem cavT_of {t : Three} (h : okThree t = true) : cavT (cavOf t) = t := by
  obtain ⟨k, a, v⟩ := t
  unfold okThree at h
  simp only [Bool.and_eq_true, decide_eq_true_eq] at h
  match k, h with
  | 0, _ => rfl
  | 1, _ => rfl
  | 2, _ => rfl
  | n + 3, h => exact absurd h.1 (by omega)
def CavV (H : Hp) (y : V) (c : Wm06.Caveat) : Prop := ThV H y (cavT c) ∧ CavOk c
theorem CavV.mono {H H' : Hp} {y : V} {c : Wm06.Caveat} (s : Same H H') (h : CavV H y c) : CavV H' y c := ⟨h.1.mono s, h.2⟩
theorem value_at {q : List Nat} {a : Nat} (h4 : q.length = 4) (h1 : 1 ≤ a) (h3 : a ≤ 4) : atI (nats q) ((a : Int) - 1) = some (V.int (q.getD (a - 1) 0 : Nat)) := by
  have hlt : a - 1 < q.length := by omega
  refine at_of (j := a - 1) (by omega) (nats_at ?_)
  rw [List.getD_eq_getElem?_getD, List.getElem?_eq_getElem hlt]
  rfl
def spCaveatHolds (K : PySem.W.Frag) : Sp := fun vs H Q _ => ∃ (y : V) (c : Wm06.Caveat) (l : Addr) (q : List Nat), vs = [y, .ref l] ∧ CavV H y c ∧ SqL K H l (nats q) ∧ q.length = 4 ∧ Q (.bl (Wm06.holds q c)) H
theorem cl_caveat_holds (T : TX K mg) : Cl P w K mg base CX0 "caveat_holds" 1 ["caveat", "values"] (spCaveatHolds K) := by
  refine cl_of (d := d_caveat_holds) T.g_caveat_holds T.u_caveat_holds sc_caveat_holds b_caveat_holds (fun vs H Q E h => ?_) (fun cdv A outer s H vs Q E hr h => ⟨_, PSs.nox (pss_cons (ps_set (i := 2) sc_caveat_holds.nd rfl (Or.inl rfl) (pe_ix ix_list (pv 1) (pe_sub (pe_ix ix_tup (pv 0) pe_int (fun _ _ => rfl)) pe_int) (fun _ _ => rfl)))
    (pss_cons (ps_if (pt_cmp (pc_eqI (pe_ix ix_tup (pv 0) pe_int (fun _ _ => rfl)) (pe_gi T.i_MOST))) (pss_one (ps_ret (pe_cmp (pc_le (pv 2) (pe_ix ix_tup (pv 0) pe_int (fun _ _ => rfl))) rfl))) pss_nil)
    (pss_cons (ps_if (pt_cmp (pc_eqI (pe_ix ix_tup (pv 0) pe_int (fun _ _ => rfl)) (pe_gi T.i_JUST))) (pss_one (ps_ret (pe_cmp (pc_eqI (pv 2) (pe_ix ix_tup (pv 0) pe_int (fun _ _ => rfl))) rfl))) pss_nil)
    (pss_one (ps_ret (pe_cmp (pc_ge (pv 2) (pe_ix ix_tup (pv 0) pe_int (fun _ _ => rfl))) rfl)))))), ?_⟩)
  · obtain ⟨y, c, l, q, rfl, _⟩ := h
    rfl
  · obtain ⟨y, c, l, q, rfl, ⟨⟨a, rfl, ha⟩, hok⟩, hS, hq, hQ⟩ := h
    have hok' := hok
    unfold CavOk okThree at hok'
    simp only [Bool.and_eq_true, decide_eq_true_eq] at hok'
    walk_at "rd"
    refine ixT ha (three1 _) ?_
    walk_at "rd"
    refine ixL hS (value_at hq hok'.2.1 (by omega)) ?_
    walk_at "rd"
    refine ixT ha (three0 _) ?_
    walk_at "rd"
    cases c with
    | most b v =>
      refine if_true_of rfl (ixT ha (three2 _) ?_)
      walk_at "rd"
      exact hQ
    | is_ b v =>
      refine if_false_of rfl (ixT ha (three0 _) ?_)
      walk_at "rd"
      refine if_true_of rfl (ixT ha (three2 _) ?_)
      walk_at "rd"
      exact hQ
    | least b v =>
      refine if_false_of rfl (ixT ha (three0 _) ?_)
      walk_at "rd"
      refine if_false_of rfl (ixT ha (three2 _) ?_)
      walk_at "rd"
      exact hQ
    | needs d => exact absurd hok'.1 (by show ¬ (3 ≤ 2); decide)
def spAllHold (K : PySem.W.Frag) : Sp := fun vs H Q _ => ∃ (lc : Addr) (ys : List V) (cs : List Wm06.Caveat) (l : Addr) (q : List Nat), vs = [.ref lc, .ref l] ∧ SqL K H lc ys ∧ Paired (CavV H) ys cs ∧ cs.length ≤ 100 ∧ SqL K H l (nats q) ∧ q.length = 4 ∧ ∀ H', Same H H' → Q (.bl (cs.all (Wm06.holds q))) H'
theorem cl_all_hold (T : TX K mg) : Cl P w K mg base CX0 "all_hold" 2 ["caveats", "values"] (spAllHold K) := by
  have c_caveat_holds : Cl P w K mg base CX0 "caveat_holds" 1 ["caveat", "values"] (spCaveatHolds K) := cl_caveat_holds T
  refine cl_of (d := d_all_hold) T.g_all_hold T.u_all_hold sc_all_hold b_all_hold (fun vs H Q E h => ?_) (fun cdv A outer s H vs Q E hr h => ⟨_, PSs.nox (pss_one (ps_ret (pe_callB (cr_all rfl) (by rfl) T.f_all (by decide +kernel) (pa_cons (pe_lc (own := [("caveat", 2)]) (g := gName 2) (tt := tYes) (te := tCall _ [] _ (tCons (tVar 2) (tCons (tVar 1) tNil))) rfl sc_all_hold.nd (pi_list (pv 0)) (blkOk_by (N := N_all_hold) (sc := defScope s_all_hold) (by decide +kernel)) (fun _ _ _ _ _ => pg_name (i := 2) sc_all_hold.nd rfl (Or.inl rfl)) (fun _ _ _ _ _ => pts_nil) (fun _ _ _ _ _ => (pe_c c_caveat_holds (hr.mono (by omega)) pass0 (pa_cons (pv 2) (pa_cons (pv 1) pa_nil))))) pa_nil)))), ?_⟩)
  · obtain ⟨lc, ys, cs, l, q, rfl, _⟩ := h
    rfl
  · obtain ⟨lc, ys, cs, l, q, rfl, hc, hp, hn, hS, hq, hQ⟩ := h
    refine ⟨_, rfl, lc, rfl, ⟨_, hc⟩, fun D hD => ?_⟩
    refine lc_rows (R := CavV H) (S := fun y c => y = V.bl (Wm06.holds q c)) hc hp (by rw [pr_len hp]; omega) (fun _ => true) hD (fun x => rfl) ?_ ?_ ?_
    · rintro x c _ hx H' s' R hR
      exact hR _ (Same.refl _)
    · rintro x c _ hx _ H' s' R hR
      walk_at "rd"
      exact ⟨x, c, l, q, rfl, hx.mono s', s'.seq hS, hq, hR _ _ rfl (Same.refl _)⟩
    · intro zs H' hzs s' hd
      have e := pr_map hzs
      rw [List.filter_eq_self.mpr (fun _ _ => rfl)] at e
      refine ⟨D, cs.map (Wm06.holds q), rfl, SqL.of (hd.trans (congrArg (fun z => some (HO.lst z)) (e.trans (List.map_map (f := Wm06.holds q) (g := V.bl)).symm))), ?_⟩
      rw [List.all_map]
      exact hQ H' s'
/-! ### tickets -/
def tFv (n a b r p c : V) : List (Str × V) := [("number", n), ("maker", a), ("holder", b), ("door", r), ("source", p), ("caveats", c)]
def spTicketInit (K : PySem.W.Frag) : Sp := fun vs H Q _ => ∃ (p dx : Addr) (n a b r v c : V), vs = [.ref p, n, a, b, r, v, c] ∧ H p = some (.ins (He.ga K "Ticket") dx []) ∧
  ∀ H', H' p = some (.ins (He.ga K "Ticket") dx (tFv n a b r v c)) → Kept [p] H H' → Q .non H'
theorem il_Ticket (T : TX K mg) : Il P w K mg base CX0 "Ticket" (He.ga K "Ticket") 1 ["self", "number", "maker", "holder", "door", "source", "caveats"] (spTicketInit K) := by
  refine il_of (d := d_Ticket_init) T.g_Ticket T.k_Ticket T.u_Ticket_init sc_Ticket_init b_Ticket_init (fun vs H Q E h => ?_) (fun cdv A outer s H vs Q E hr h => ⟨_, PSs.nox (pss_cons (ps_fld (pv 0) (pv 1) rfl)
    (pss_cons (ps_fld (pv 0) (pv 2) rfl)
    (pss_cons (ps_fld (pv 0) (pv 3) rfl)
    (pss_cons (ps_fld (pv 0) (pv 4) rfl)
    (pss_cons (ps_fld (pv 0) (pv 5) rfl)
    (pss_one (ps_fld (pv 0) (pv 6) rfl))))))), ?_⟩)
  · obtain ⟨p, dx, n, a, b, r, v, c, rfl, _⟩ := h
    rfl
  · obtain ⟨p, dx, n, a, b, r, v, c, rfl, hp, q⟩ := h
    refine ⟨_, rfl, _, rfl, p, _, dx, [], rfl, hp, T.c_Ticket, T.n_Ticket_number, (by show 0 < 1000; decide), ?_⟩
    refine ⟨_, rfl, _, rfl, p, _, dx, _, rfl, upd_same, T.c_Ticket, T.n_Ticket_maker, (by show 1 < 1000; decide), ?_⟩
    refine ⟨_, rfl, _, rfl, p, _, dx, _, rfl, upd_same, T.c_Ticket, T.n_Ticket_holder, (by show 2 < 1000; decide), ?_⟩
    refine ⟨_, rfl, _, rfl, p, _, dx, _, rfl, upd_same, T.c_Ticket, T.n_Ticket_door, (by show 3 < 1000; decide), ?_⟩
    refine ⟨_, rfl, _, rfl, p, _, dx, _, rfl, upd_same, T.c_Ticket, T.n_Ticket_source, (by show 4 < 1000; decide), ?_⟩
    refine ⟨_, rfl, _, rfl, p, _, dx, _, rfl, upd_same, T.c_Ticket, T.n_Ticket_caveats, (by show 5 < 1000; decide), ?_⟩
    refine q _ (Eq.trans upd_same rfl) fun b o e hb => ?_
    have hb' : b ≠ p := by simpa using hb
    rw [upd_ne hb', upd_ne hb', upd_ne hb', upd_ne hb', upd_ne hb', upd_ne hb']
    exact e
end
/-! ### the specification's caveats -/
theorem cav_all : ∀ (m : Nat) (l : List Nat), l.length = 3 * m → (threes l).all okThree = true → Wm06.caveats l = some ((threes l).map cavOf)
  | 0, l, h, _ => by
    have e : l = [] := List.eq_nil_of_length_eq_zero h
    subst e; rfl
  | m + 1, l, h, ha => by
    match l, h, ha with
    | k :: a :: v :: r, h, ha =>
      have h' : r.length = 3 * m := by simp only [List.length_cons] at h; omega
      have ha' : (okThree (k, a, v) && (threes r).all okThree) = true := ha
      rw [Bool.and_eq_true] at ha'
      have ih := cav_all m r h' ha'.2
      have ok := ha'.1
      unfold okThree at ok
      simp only [Bool.and_eq_true, decide_eq_true_eq] at ok
      match k, ok with
      | 0, ok => simp only [Wm06.caveats, ih, threes, List.map_cons, Option.map_some]; rw [if_pos ⟨by omega, ok.2.1, ok.2.2.1, ok.2.2.2⟩]; rfl
      | 1, ok => simp only [Wm06.caveats, ih, threes, List.map_cons, Option.map_some]; rw [if_pos ⟨by omega, ok.2.1, ok.2.2.1, ok.2.2.2⟩]; rfl
      | 2, ok => simp only [Wm06.caveats, ih, threes, List.map_cons, Option.map_some]; rw [if_pos ⟨by omega, ok.2.1, ok.2.2.1, ok.2.2.2⟩]; rfl
      | n + 3, ok => exact absurd ok.1 (by omega)
    | [], h, _ => simp at h
    | [_], h, _ => simp only [List.length_cons, List.length_nil] at h; omega
    | [_, _], h, _ => simp only [List.length_cons, List.length_nil] at h; omega
end Gh
set_option Elab.async false
set_option linter.all false
set_option maxRecDepth 100000
set_option maxHeartbeats 4000000
namespace Gh
open PySem PySem.Spec PyProof.Rows L2
local macro_rules | `(tactic| walk_at "rd") => `(tactic| simp only [tRet, tSeq, tAsg, gName, tDrop, tIfS, tTest, tB, tAnd, tOr, tNot, tAndV, tOrV, tNotV, tCmp, t2I, tAdd, tSub, tMul, tIsN, tNotN, tC, tVar, tCons, tNil, tCall, tOp, tUn, tCB, tNext, tRetN, tIf, tFld, wipe, tYes, HO.ins.injEq, and_assoc, L2.start, List.map_cons, List.map_nil, List.length_cons, List.length_nil, List.cons_append, List.nil_append, List.append_nil, List.set_cons_zero, List.set_cons_succ, List.replicate, Nat.reduceAdd, Nat.reduceSub, Nat.zero_add, Nat.sub_self, List.getElem?_cons_zero, List.getElem?_cons_succ, Option.some.injEq, V.int.injEq, V.bl.injEq, V.ref.injEq, V.str.injEq, List.cons.injEq, reduceCtorEq, and_true, true_and, and_false, false_and, exists_eq_left, exists_eq_left', exists_eq_right, exists_eq_right', exists_and_left, exists_const, exists_false, exists_eq, if_true, if_false, Bool.false_eq_true, Bool.true_eq_false, cxK, andV, orV, andT, orT, deq, dle, dlt, Bool.not_true, Bool.not_false, decide_true, decide_false, ite_true, ite_false])
local macro_rules | `(tactic| k_call_by "rd" ($a, $bs,*)) => do { let cs := bs.getElems; `(tactic| simp only [$a:term, $[$cs:term],*, tRet, tSeq, tAsg, gName, tDrop, tIfS, tTest, tB, tAnd, tOr, tNot, tAndV, tOrV, tNotV, tCmp, t2I, tAdd, tSub, tMul, tIsN, tNotN, tC, tVar, tCons, tNil, tCall, tOp, tUn, tCB, tNext, tRetN, tIf, tFld, wipe, tYes, HO.ins.injEq, and_assoc, L2.start, List.map_cons, List.map_nil, List.length_cons, List.length_nil, List.cons_append, List.nil_append, List.append_nil, List.set_cons_zero, List.set_cons_succ, List.replicate, Nat.reduceAdd, Nat.reduceSub, Nat.zero_add, Nat.sub_self, List.getElem?_cons_zero, List.getElem?_cons_succ, Option.some.injEq, V.int.injEq, V.bl.injEq, V.ref.injEq, V.str.injEq, List.cons.injEq, reduceCtorEq, and_true, true_and, and_false, false_and, exists_eq_left, exists_eq_left', exists_eq_right, exists_eq_right', exists_and_left, exists_const, exists_false, exists_eq, if_true, if_false, Bool.false_eq_true, Bool.true_eq_false, cxK, andV, orV, andT, orT, deq, dle, dlt, Bool.not_true, Bool.not_false, decide_true, decide_false, ite_true, ite_false]) }
/-! ### conditions and policies in the heap -/
mutual
def CondAt (H : Hp) : Wm03.Cond → V → Prop
  | .yes, v => ∃ a, v = .ref a ∧ H a = some (.tup [.int 0])
  | .range x lo hi, v => ∃ a, v = .ref a ∧ H a = some (.tup [.int 1, .int x, .int lo, .int hi])
  | .all l, v => ∃ a b ys, v = .ref a ∧ H a = some (.tup [.int 2, .ref b]) ∧ H b = some (.lst ys) ∧ CondsAt H l ys
  | .any l, v => ∃ a b ys, v = .ref a ∧ H a = some (.tup [.int 3, .ref b]) ∧ H b = some (.lst ys) ∧ CondsAt H l ys
  | .no c, v => ∃ a u, v = .ref a ∧ H a = some (.tup [.int 4, u]) ∧ CondAt H c u
def CondsAt (H : Hp) : List Wm03.Cond → List V → Prop
  | [], ys => ys = []
  | c :: l, ys => ∃ y zs, ys = y :: zs ∧ CondAt H c y ∧ CondsAt H l zs
end
mutual
def PolAt (H : Hp) : Wm03.Pol → V → Prop
  | .rule p c, v => ∃ a u, v = .ref a ∧ H a = some (.tup [.int 0, .int (if p = true then 1 else 2), u]) ∧ CondAt H c u
  | .set k c l, v => ∃ a u b ys, v = .ref a ∧ H a = some (.tup [.int 1, .int k, u, .ref b]) ∧ CondAt H c u ∧ H b = some (.lst ys) ∧ PolsAt H l ys
def PolsAt (H : Hp) : List Wm03.Pol → List V → Prop
  | [], ys => ys = []
  | c :: l, ys => ∃ y zs, ys = y :: zs ∧ PolAt H c y ∧ PolsAt H l zs
end
mutual
theorem CondAt.mono {H H' : Hp} (s : Same H H') : ∀ (c : Wm03.Cond) (v : V), CondAt H c v → CondAt H' c v
  | .yes, v, ⟨a, e, h⟩ => ⟨a, e, s _ _ h⟩
  | .range x lo hi, v, ⟨a, e, h⟩ => ⟨a, e, s _ _ h⟩
  | .all l, v, ⟨a, b, ys, e, h, h', hl⟩ => ⟨a, b, ys, e, s _ _ h, s _ _ h', CondsAt.mono s l ys hl⟩
  | .any l, v, ⟨a, b, ys, e, h, h', hl⟩ => ⟨a, b, ys, e, s _ _ h, s _ _ h', CondsAt.mono s l ys hl⟩
  | .no c, v, ⟨a, u, e, h, hc⟩ => ⟨a, u, e, s _ _ h, CondAt.mono s c u hc⟩
theorem CondsAt.mono {H H' : Hp} (s : Same H H') : ∀ (l : List Wm03.Cond) (ys : List V), CondsAt H l ys → CondsAt H' l ys
  | [], _, h => h
  | c :: l, _, ⟨y, zs, e, hc, hl⟩ => ⟨y, zs, e, CondAt.mono s c y hc, CondsAt.mono s l zs hl⟩
end
mutual
theorem PolAt.mono {H H' : Hp} (s : Same H H') : ∀ (c : Wm03.Pol) (v : V), PolAt H c v → PolAt H' c v
  | .rule p c, v, ⟨a, u, e, h, hc⟩ => ⟨a, u, e, s _ _ h, CondAt.mono s c u hc⟩
  | .set k c l, v, ⟨a, u, b, ys, e, h, hc, h', hl⟩ => ⟨a, u, b, ys, e, s _ _ h, CondAt.mono s c u hc, s _ _ h', PolsAt.mono s l ys hl⟩
theorem PolsAt.mono {H H' : Hp} (s : Same H H') : ∀ (l : List Wm03.Pol) (ys : List V), PolsAt H l ys → PolsAt H' l ys
  | [], _, h => h
  | c :: l, _, ⟨y, zs, e, hc, hl⟩ => ⟨y, zs, e, PolAt.mono s c y hc, PolsAt.mono s l zs hl⟩
end
theorem conds_pr {H : Hp} : ∀ {l : List Wm03.Cond} {ys : List V}, CondsAt H l ys → Paired (fun y c => CondAt H c y) ys l
  | [], _, h => by rw [show _ = [] from h]; exact .nil
  | c :: l, _, ⟨y, zs, e, hc, hl⟩ => by rw [e]; exact .cons hc (conds_pr hl)
theorem pols_pr {H : Hp} : ∀ {l : List Wm03.Pol} {ys : List V}, PolsAt H l ys → Paired (fun y c => PolAt H c y) ys l
  | [], _, h => by rw [show _ = [] from h]; exact .nil
  | c :: l, _, ⟨y, zs, e, hc, hl⟩ => by rw [e]; exact .cons hc (pols_pr hl)
theorem okCs_mem {d : Nat} : ∀ {l : List Wm03.Cond}, Wm03.okCs d l = true → ∀ c ∈ l, Wm03.okC d c = true
  | [], _, c, h => by cases h
  | x :: l, h, c, hm => by
    simp only [Wm03.okCs, Bool.and_eq_true] at h
    rcases List.mem_cons.mp hm with e | e
    · rw [e]; exact h.1
    · exact okCs_mem h.2 c e
theorem okPs_mem {d : Nat} : ∀ {l : List Wm03.Pol}, Wm03.okPs d l = true → ∀ c ∈ l, Wm03.okP d c = true
  | [], _, c, h => by cases h
  | x :: l, h, c, hm => by
    simp only [Wm03.okPs, Bool.and_eq_true] at h
    rcases List.mem_cons.mp hm with e | e
    · rw [e]; exact h.1
    · exact okPs_mem h.2 c e
theorem holdsAll_all (q : List Nat) : ∀ l : List Wm03.Cond, Wm03.holdsAll q l = (l.map (Wm03.holds q)).all id
  | [] => by simp [Wm03.holdsAll]
  | c :: l => by rw [Wm03.holdsAll, holdsAll_all q l]; rfl
theorem holdsAny_any (q : List Nat) : ∀ l : List Wm03.Cond, Wm03.holdsAny q l = (l.map (Wm03.holds q)).any id
  | [] => by simp [Wm03.holdsAny]
  | c :: l => by rw [Wm03.holdsAny, holdsAny_any q l]; rfl
theorem rowC_pos : ∀ c : Wm03.Cond, 1 ≤ (Wm03.rowC c).length
  | .yes => by simp [Wm03.rowC]
  | .range _ _ _ => by simp [Wm03.rowC]
  | .all _ => by simp [Wm03.rowC]
  | .any _ => by simp [Wm03.rowC]
  | .no _ => by simp [Wm03.rowC]
theorem rowCs_len : ∀ l : List Wm03.Cond, l.length ≤ (Wm03.rowCs l).length
  | [] => Nat.zero_le _
  | c :: l => by
    have h1 := rowC_pos c
    have h2 := rowCs_len l
    simp only [Wm03.rowCs, List.length_append, List.length_cons]
    omega
theorem rowCs_mem : ∀ {l : List Wm03.Cond} {c : Wm03.Cond}, c ∈ l → (Wm03.rowC c).length ≤ (Wm03.rowCs l).length
  | [], c, h => by cases h
  | x :: l, c, h => by
    simp only [Wm03.rowCs, List.length_append]
    rcases List.mem_cons.mp h with e | e
    · rw [e]; omega
    · have := rowCs_mem e
      omega
section
variable {P : Program} {w : World} {K : PySem.W.Frag} {mg : Str → Option Value} {base : Heap}
theorem cl_none {CX : CXT} {x : Str} {d : He.DefD} {f : Addr} {ps : List Str} (g : mg x = some (.ref f)) (F : ∃ fd, FunD K d.name d.qual d.params d.body d.scope [] [] f fd)
    (hb : ∀ (kV doc pm : Value) (an : Option Addr) (cdv ct : Value) (us : List Value), us.length = ps.length → bindArgs (PySem.W.fnOf d.name d.qual d.params d.body d.scope .none kV doc pm an cdv ct) ⟨us, []⟩ = pure (ps.zip us)) :
    Cl P w K mg base CX x 0 ps (fun _ _ _ _ => False) := by
  obtain ⟨fd, F⟩ := F
  exact ⟨f, fd, ⟨fun _ _ _ _ h => h.elim, fun _ _ _ _ _ _ _ _ _ _ _ _ _ h => h.elim⟩, g, F.kp, F.bindsN hb⟩
/-- of a condition that is n - 1 deep at most -/
def spHolds (K : PySem.W.Frag) : Nat → Sp
  | 0 => fun _ _ _ _ => False
  | d + 1 => fun vs H Q _ => ∃ (v : V) (c : Wm03.Cond) (l : Addr) (q : List Nat), vs = [v, .ref l] ∧ CondAt H c v ∧ Wm03.okC d c = true ∧ SqL K H l (nats q) ∧ q.length = 4 ∧ (Wm03.rowC c).length ≤ 1000 ∧ ∀ H', Same H H' → Q (.bl (Wm03.holds q c)) H'
theorem cl_holds (T : TX K mg) : ∀ n, Cl P w K mg base CX0 "holds" n ["condition", "values"] (spHolds K n)
  | 0 => cl_none (d := d_holds) T.g_holds T.u_holds b_holds
  | d + 1 => by
    have c_holds : Cl P w K mg base CX0 "holds" d ["condition", "values"] (spHolds K d) := cl_holds T d
    refine cl_of (d := d_holds) T.g_holds T.u_holds sc_holds b_holds (fun vs H Q E h => ?_) (fun cdv A outer s H vs Q E hr h => ⟨_, PSs.nox (pss_cons (ps_set (i := 2) sc_holds.nd rfl (Or.inl rfl) (pe_ix ix_tup (pv 0) pe_int (fun _ _ => rfl)))
    (pss_cons (ps_if (pt_cmp (pc_eqI (pv 2) (pe_gi T.i_ALWAYS))) (pss_one (ps_ret pe_bl)) pss_nil)
    (pss_cons (ps_if (pt_cmp (pc_eqI (pv 2) (pe_gi T.i_RANGE))) (pss_cons (ps_set (i := 3) sc_holds.nd rfl (Or.inl rfl) (pe_ix ix_list (pv 1) (pe_sub (pe_ix ix_tup (pv 0) pe_int (fun _ _ => rfl)) pe_int) (fun _ _ => rfl)))
    (pss_one (ps_ret (pe_and (pe_cmp (pc_le (pe_ix ix_tup (pv 0) pe_int (fun _ _ => rfl)) (pv 3)) rfl) (pe_one (pe_cmp (pc_le (pv 3) (pe_ix ix_tup (pv 0) pe_int (fun _ _ => rfl))) rfl)))))) pss_nil)
    (pss_cons (ps_if (pt_cmp (pc_eqI (pv 2) (pe_gi T.i_NOT))) (pss_one (ps_ret (pe_not (pe_c c_holds (hr.mono (by omega)) pass0 (pa_cons (pe_ix ix_tup (pv 0) pe_int (fun _ _ => rfl)) (pa_cons (pv 1) pa_nil)))))) pss_nil)
    (pss_cons (ps_setLc (i := 4) (own := [("part", 5)]) (g := gName 5) (tt := tYes) (te := tCall _ [] _ (tCons (tVar 5) (tCons (tVar 1) tNil))) rfl sc_holds.nd rfl rfl (sw_true rfl rfl rfl (by decide +kernel)) (pi_list (pe_ix ix_tup (pv 0) pe_int (fun _ _ => rfl))) (blkOk_by (N := N_holds) (sc := defScope s_holds) (by decide +kernel)) (fun _ _ _ _ _ => pg_name (i := 5) sc_holds.nd rfl (Or.inl rfl)) (fun _ _ _ _ _ => pts_nil) (fun _ _ _ _ _ => (pe_c c_holds (hr.mono (by omega)) pass0 (pa_cons (pv 5) (pa_cons (pv 1) pa_nil)))))
    (pss_cons (ps_if (pt_cmp (pc_eqI (pv 2) (pe_gi T.i_ALL))) (pss_one (ps_ret (pe_callB (cr_all rfl) (by rfl) T.f_all (by decide +kernel) (pa_cons (pv 4) pa_nil)))) pss_nil)
    (pss_one (ps_ret (pe_callB (cr_any rfl) (by rfl) T.f_any (by decide +kernel) (pa_cons (pv 4) pa_nil)))))))))), ?_⟩)
    · obtain ⟨v, c, l, q, rfl, _⟩ := h
      rfl
    · obtain ⟨v, c, l, q, rfl, hc, hok, hS, hq, hm, hQ⟩ := h
      cases c with
      | yes =>
        obtain ⟨a, rfl, ha⟩ := hc
        walk_at "rd"
        refine ixT ha rfl ?_
        walk_at "rd"
        have := hQ H (Same.refl _)
        rw [Wm03.holds] at this
        exact this
      | range x lo hi =>
        obtain ⟨a, rfl, ha⟩ := hc
        simp only [Wm03.okC, Bool.and_eq_true, decide_eq_true_eq] at hok
        walk_at "rd"
        refine ixT ha rfl ?_
        walk_at "rd"
        refine if_false_of (by decide) (ixT ha rfl ?_)
        walk_at "rd"
        refine ixL hS (value_at hq hok.1 hok.2.1) ?_
        walk_at "rd"
        refine ixT ha rfl ?_
        walk_at "rd"
        have hv : Q (V.bl (decide (lo ≤ q.getD (x - 1) 0) && decide (q.getD (x - 1) 0 ≤ hi))) H := by
          have := hQ H (Same.refl _)
          rw [Wm03.holds] at this
          exact this
        cases c1 : decide (lo ≤ q.getD (x - 1) 0) with
        | false =>
          rw [c1] at hv
          exact if_false_of rfl hv
        | true =>
          rw [c1] at hv
          refine if_true_of rfl (ixT ha rfl ?_)
          walk_at "rd"
          exact hv
      | no c =>
        obtain ⟨a, u, rfl, ha, hu⟩ := hc
        simp only [Wm03.okC, Bool.and_eq_true, decide_eq_true_eq] at hok
        have hz : (Wm03.rowC c).length ≤ 1000 := by simp only [Wm03.rowC, List.length_cons] at hm; omega
        match d, hok, c_holds with
        | 0, hok, _ => exact absurd hok.1 (by omega)
        | d + 1, hok, _ =>
        walk_at "rd"
        refine ixT ha rfl ?_
        walk_at "rd"
        refine if_false_of (by decide) (if_false_of (by decide) (ixT ha rfl ?_))
        refine ⟨u, c, l, q, rfl, hu, hok.2, hS, hq, hz, fun H' s' => ⟨_, rfl, ?_⟩⟩
        have hv := hQ H' s'
        rw [Wm03.holds] at hv
        exact hv
      | all cs =>
        obtain ⟨a, b, ys, rfl, ha, hb, hcs⟩ := hc
        simp only [Wm03.okC, Bool.and_eq_true, decide_eq_true_eq] at hok
        have hz : (Wm03.rowCs cs).length ≤ 1000 := by simp only [Wm03.rowC, List.length_cons] at hm; omega
        match d, hok, c_holds with
        | 0, hok, _ => exact absurd hok.1 (by omega)
        | d + 1, hok, _ =>
        walk_at "rd"
        refine ixT ha rfl ?_
        walk_at "rd"
        refine if_false_of (by decide) (if_false_of (by decide) (if_false_of (by decide) ?_))
        refine ⟨_, rfl, a, _, _, _, rfl, rfl, SqT.of ha, rfl, b, rfl, ⟨_, SqL.of hb⟩, fun D hD => ?_⟩
        refine lc_rows (R := fun y c => CondAt H c y) (S := fun y c => y = V.bl (Wm03.holds q c)) (SqL.of hb) (conds_pr hcs) (by rw [pr_len (conds_pr hcs)]; have := rowCs_len cs; omega) (fun _ => true) hD (fun x => rfl) ?_ ?_ ?_
        · rintro x c _ hx H' s' R hR
          exact hR _ (Same.refl _)
        · rintro x c hmem hx _ H' s' R hR
          walk_at "rd"
          exact ⟨x, c, l, q, rfl, hx.mono s', okCs_mem hok.2 c hmem, s'.seq hS, hq, Nat.le_trans (rowCs_mem hmem) hz, fun H2 s2 => hR _ _ rfl s2⟩
        · intro zs H' hzs s' hd
          have e := pr_map hzs
          rw [List.filter_eq_self.mpr (fun _ _ => rfl)] at e
          refine ⟨D, cs.map (Wm03.holds q), rfl, SqL.of (hd.trans (congrArg (fun z => some (HO.lst z)) (e.trans (List.map_map (f := Wm03.holds q) (g := V.bl)).symm))), ?_⟩
          have hv := hQ H' s'
          rw [Wm03.holds, holdsAll_all] at hv
          exact hv
      | any cs =>
        obtain ⟨a, b, ys, rfl, ha, hb, hcs⟩ := hc
        simp only [Wm03.okC, Bool.and_eq_true, decide_eq_true_eq] at hok
        have hz : (Wm03.rowCs cs).length ≤ 1000 := by simp only [Wm03.rowC, List.length_cons] at hm; omega
        match d, hok, c_holds with
        | 0, hok, _ => exact absurd hok.1 (by omega)
        | d + 1, hok, _ =>
        walk_at "rd"
        refine ixT ha rfl ?_
        walk_at "rd"
        refine if_false_of (by decide) (if_false_of (by decide) (if_false_of (by decide) ?_))
        refine ⟨_, rfl, a, _, _, _, rfl, rfl, SqT.of ha, rfl, b, rfl, ⟨_, SqL.of hb⟩, fun D hD => ?_⟩
        refine lc_rows (R := fun y c => CondAt H c y) (S := fun y c => y = V.bl (Wm03.holds q c)) (SqL.of hb) (conds_pr hcs) (by rw [pr_len (conds_pr hcs)]; have := rowCs_len cs; omega) (fun _ => true) hD (fun x => rfl) ?_ ?_ ?_
        · rintro x c _ hx H' s' R hR
          exact hR _ (Same.refl _)
        · rintro x c hmem hx _ H' s' R hR
          walk_at "rd"
          exact ⟨x, c, l, q, rfl, hx.mono s', okCs_mem hok.2 c hmem, s'.seq hS, hq, Nat.le_trans (rowCs_mem hmem) hz, fun H2 s2 => hR _ _ rfl s2⟩
        · intro zs H' hzs s' hd
          have e := pr_map hzs
          rw [List.filter_eq_self.mpr (fun _ _ => rfl)] at e
          refine if_false_of (by decide) ⟨D, cs.map (Wm03.holds q), rfl, SqL.of (hd.trans (congrArg (fun z => some (HO.lst z)) (e.trans (List.map_map (f := Wm03.holds q) (g := V.bl)).symm))), ?_⟩
          have hv := hQ H' s'
          rw [Wm03.holds, holdsAny_any] at hv
          exact hv
/-! ### decisions put together -/
theorem inV_nats (a : Nat) : ∀ ds : List Nat, inV (.int a) (nats ds) = ds.any (· == a)
  | [] => rfl
  | d :: ds => by
    have ih := inV_nats a ds
    show ((d : Int) == (a : Int) || inV (.int a) (nats ds)) = (d == a || ds.any (· == a))
    rw [ih]
    have e : ((d : Int) == (a : Int)) = (d == a) := by
      have := deq d a
      rw [← this]
      rfl
    rw [e]
theorem flat_nats : ∀ ds : List Nat, (nats ds).all flatV = true
  | [] => rfl
  | d :: ds => flat_nats ds
def firstOf (ds : List Nat) : List Nat → Nat
  | [] => 0
  | x :: l => if ds.any (· == x) = true then x else firstOf ds l
def spFirstFound (K : PySem.W.Frag) : Sp := fun vs H Q _ => ∃ (t l : Addr) (ws ds : List Nat), vs = [.ref t, .ref l] ∧ SqT K H t (nats ws) ∧ SqL K H l (nats ds) ∧ Q (.int (firstOf ds ws : Nat)) H
theorem cl_first_found (T : TX K mg) : Cl P w K mg base CX0 "first_found" 1 ["wanted", "decisions"] (spFirstFound K) := by
  refine cl_of (d := d_first_found) T.g_first_found T.u_first_found sc_first_found b_first_found (fun vs H Q E h => ?_) (fun cdv A outer s H vs Q E hr h => ⟨_, PSs.nox (pss_cons (ps_for PassesOwn.never rfl (pi_tup (pv 0)) (pg_name (i := 2) sc_first_found.nd rfl (Or.inl rfl)) (pss_one (ps_if (pt_cmpR op_in_seq (pv 2) (pv 1) rfl) (pss_one (ps_ret (pv 2))) pss_nil)))
    (pss_one (ps_ret (pe_gi T.i_NOTHING)))), ?_⟩)
  · obtain ⟨t, l, ws, ds, rfl, _⟩ := h
    rfl
  · obtain ⟨t, l, ws, ds, rfl, hT, hS, q⟩ := h
    obtain ⟨Pv, hPv⟩ : ∃ Pv : Nat → L2.St → Hp → Prop, ∀ i σ H', Pv i σ H' ↔ ∃ v, σ = [some (.ref t), some (.ref l), v] ∧ H' = H ∧ Q (.int (firstOf ds (ws.drop i) : Nat)) H := ⟨_, fun _ _ _ => Iff.rfl⟩
    refine ⟨_, rfl, t, rfl, ⟨_, hT⟩, for_tup (K := K) (a := t) (xs := nats ws) Pv ((hPv _ _ _).mpr ⟨none, rfl, rfl, q⟩) (fun i σ H' _ z => by obtain ⟨_, _, rfl, _⟩ := (hPv _ _ _).mp z; exact hT) ?_ ?_⟩
    · intro i x σ H' hi z
      obtain ⟨v, rfl, rfl, q1⟩ := (hPv _ _ _).mp z
      obtain ⟨a, ha, rfl⟩ : ∃ a, ws[i]? = some a ∧ x = V.int (a : Nat) := by
        unfold nats at hi
        rw [List.getElem?_map] at hi
        cases e : ws[i]? with
        | none => rw [e] at hi; cases hi
        | some a => rw [e] at hi; exact ⟨a, rfl, (Option.some.inj hi).symm⟩
      have hd : ws.drop i = a :: ws.drop (i + 1) := by
        obtain ⟨hlt, e⟩ := List.getElem?_eq_some_iff.mp ha
        rw [List.drop_eq_getElem_cons hlt, e]
      rw [hd] at q1
      refine ⟨_, rfl, _, rfl, l, _, rfl, .inl hS, rfl, flat_nats ds, _, rfl, ?_⟩
      show if inV (.int (a : Nat)) (nats ds) = true then _ else _
      rw [inV_nats]
      unfold firstOf at q1
      cases c : ds.any (· == a) with
      | true =>
        rw [c, if_pos rfl] at q1
        exact if_true_of rfl ⟨_, rfl, q1⟩
      | false =>
        rw [c, if_neg Bool.false_ne_true] at q1
        exact if_false_of rfl ((hPv _ _ _).mpr ⟨_, rfl, rfl, q1⟩)
    · intro σ H' z
      obtain ⟨v, rfl, rfl, q1⟩ := (hPv _ _ _).mp z
      rw [nats_len, List.drop_length] at q1
      exact q1
/-- decisions put together as the program does -/
def putT (k : Nat) (ds : List Nat) : Nat := if k = 0 then firstOf ds [2, 3, 1] else if k = 1 then firstOf ds [1, 3, 2] else match ds.filter (fun d => d != 0) with
  | [] => 0
  | d :: l => if k = 2 ∨ l = [] then d else 3
def spPutTogether (K : PySem.W.Frag) : Sp := fun vs H Q _ => ∃ (l : Addr) (k : Nat) (ds : List Nat), vs = [.int k, .ref l] ∧ SqL K H l (nats ds) ∧ ds.length ≤ 1000 ∧ ∀ H', Same H H' → Q (.int (putT k ds : Nat)) H'
theorem cl_put_together (T : TX K mg) : Cl P w K mg base CX0 "put_together" 2 ["way", "decisions"] (spPutTogether K) := by
  have c_first_found : Cl P w K mg base CX0 "first_found" 1 ["wanted", "decisions"] (spFirstFound K) := cl_first_found T
  refine cl_of (d := d_put_together) T.g_put_together T.u_put_together sc_put_together b_put_together (fun vs H Q E h => ?_) (fun cdv A outer s H vs Q E hr h => ⟨_, PSs.nox (pss_cons (ps_if (pt_cmp (pc_eqI (pv 0) (pe_gi T.i_DENY_FIRST))) (pss_one (ps_ret (pe_c c_first_found (hr.mono (by omega)) pass0 (pa_cons (pe_tup (pa_cons (pe_gi T.i_DENY) (pa_cons (pe_gi T.i_UNCLEAR) (pa_cons (pe_gi T.i_PERMIT) pa_nil)))) (pa_cons (pv 1) pa_nil))))) pss_nil)
    (pss_cons (ps_if (pt_cmp (pc_eqI (pv 0) (pe_gi T.i_PERMIT_FIRST))) (pss_one (ps_ret (pe_c c_first_found (hr.mono (by omega)) pass0 (pa_cons (pe_tup (pa_cons (pe_gi T.i_PERMIT) (pa_cons (pe_gi T.i_UNCLEAR) (pa_cons (pe_gi T.i_DENY) pa_nil)))) (pa_cons (pv 1) pa_nil))))) pss_nil)
    (pss_cons (ps_setLc (i := 2) (own := [("decision", 3)]) (g := gName 3) (tt := tB (tNeI (tVar 3) (tC (.int (0))))) (te := tVar 3) rfl sc_put_together.nd rfl rfl (sw_true rfl rfl rfl (by decide +kernel)) (pi_list (pv 1)) (blkOk_by (N := N_put_together) (sc := defScope s_put_together) (by decide +kernel)) (fun _ _ _ _ _ => pg_name (i := 3) sc_put_together.nd rfl (Or.inl rfl)) (fun _ _ _ _ _ => (pts_one (pt_cmp (pc_neI (pv 3) (pe_gi T.i_NOTHING))))) (fun _ _ _ _ _ => (pv 3)))
    (pss_cons (ps_if (pt_cmp (pc_eqI (pe_callB cr_lenS (by rfl) T.f_len PySem.boot_len (pa_cons (pv 2) pa_nil)) pe_int)) (pss_one (ps_ret (pe_gi T.i_NOTHING))) pss_nil)
    (pss_cons (ps_if (PW.pt (pw_or (pt_cmp (pc_eqI (pv 0) (pe_gi T.i_FIRST_TOLD))) (pw_or1 (pt_cmp (pc_eqI (pe_callB cr_lenS (by rfl) T.f_len PySem.boot_len (pa_cons (pv 2) pa_nil)) pe_int))))) (pss_one (ps_ret (pe_ix ix_list (pv 2) pe_int (fun _ _ => rfl)))) pss_nil)
    (pss_one (ps_ret (pe_gi T.i_UNCLEAR)))))))), ?_⟩)
  · obtain ⟨l, k, ds, rfl, _⟩ := h
    rfl
  · obtain ⟨l, k, ds, rfl, hS, hn, q⟩ := h
    walk_at "rd"
    unfold putT at q
    by_cases c0 : k = 0
    · subst c0
      rw [if_pos rfl] at q
      refine if_true_of (by decide) ⟨by decide, fun p hp => ?_⟩
      exact ⟨p, l, [2, 3, 1], ds, rfl, SqT.of upd_same, (same_upd hp).seq hS, q _ (same_upd hp)⟩
    · rw [if_neg c0] at q
      refine if_false_of (decide_eq_false (by omega)) ?_
      by_cases c1 : k = 1
      · subst c1
        rw [if_pos rfl] at q
        refine if_true_of (by decide) ⟨by decide, fun p hp => ?_⟩
        exact ⟨p, l, [1, 3, 2], ds, rfl, SqT.of upd_same, (same_upd hp).seq hS, q _ (same_upd hp)⟩
      · rw [if_neg c1] at q
        refine if_false_of (decide_eq_false (by omega)) ?_
        refine ⟨_, rfl, l, rfl, ⟨_, hS⟩, fun D hD => ?_⟩
        refine lc_rows (R := fun v (n : Nat) => v = V.int (n : Int)) (S := fun y (n : Nat) => y = V.int (n : Int)) hS (pr_of_map ds) (by rw [nats_len]; omega) (fun d => d != 0) hD (fun x => rfl) ?_ ?_ ?_
        · rintro x n hm rfl H' s' R hR
          have e : (!decide ((n : Int) = 0)) = (n != 0) := congrArg (fun z => !z) (deq n 0)
          k_call_by "rd" (e, e)
          exact hR _ (Same.refl _)
        · rintro x n hm rfl _ H' s' R hR
          walk_at "rd"
          exact hR _ _ rfl (Same.refl _)
        · intro zs H' hzs s' hd
          have e : zs = nats (ds.filter fun d => d != 0) := pr_map hzs
          subst e
          have q1 := q H' s'
          refine lenS (SqL.of hd) ?_
          rw [nats_len]
          cases c2 : ds.filter (fun d => d != 0) with
          | nil =>
            rw [c2] at q1 hd
            exact ⟨_, rfl, if_true_of (by decide) q1⟩
          | cons d r =>
            rw [c2] at q1 hd
            have q1 : Q (V.int ((if k = 2 ∨ r = [] then d else 3 : Nat) : Nat)) H' := q1
            refine ⟨_, rfl, if_false_of (decide_eq_false (by rw [List.length_cons]; omega)) ?_⟩
            by_cases c3 : k = 2
            · subst c3
              rw [if_pos (.inl rfl)] at q1
              exact if_true_of (by decide) (ixL (SqL.of hd) (at_of (j := 0) rfl rfl) q1)
            · refine if_false_of (decide_eq_false (by omega)) (lenS (SqL.of hd) ⟨_, rfl, ?_⟩)
              rw [nats_len]
              cases r with
              | nil =>
                rw [if_pos (.inr rfl)] at q1
                exact if_true_of (decide_eq_true rfl) (ixL (SqL.of hd) rfl q1)
              | cons d2 r2 =>
                rw [if_neg (by rintro (z | z); exact c3 z; cases z)] at q1
                exact if_false_of (decide_eq_false (by rw [List.length_cons, List.length_cons]; omega)) q1
theorem firstOf_mem {ds : List Nat} {a b c : Nat} : firstOf ds [a, b, c] = if ds.any (· == a) = true then a else if ds.any (· == b) = true then b else if ds.any (· == c) = true then c else 0 := rfl
theorem putT0 (ds : List Nat) : putT 0 ds = firstOf ds [2, 3, 1] := if_pos rfl
theorem putT1 (ds : List Nat) : putT 1 ds = firstOf ds [1, 3, 2] := by
  unfold putT
  rw [if_neg (by decide : ¬ (1 = 0)), if_pos rfl]
theorem putTn (k : Nat) (ds : List Nat) (h0 : k ≠ 0) (h1 : k ≠ 1) : putT k ds = match ds.filter (fun d => d != 0) with
    | [] => 0
    | d :: l => if k = 2 ∨ l = [] then d else 3 := by
  unfold putT
  rw [if_neg h0, if_neg h1]
theorem both0 (a b : Nat) : @Eq Nat (Wm03.both 0 a b) (if a = 2 ∨ b = 2 then 2 else if a = 3 ∨ b = 3 then 3 else if a = 1 ∨ b = 1 then 1 else 0) := rfl
theorem both1 (a b : Nat) : @Eq Nat (Wm03.both 1 a b) (if a = 1 ∨ b = 1 then 1 else if a = 3 ∨ b = 3 then 3 else if a = 2 ∨ b = 2 then 2 else 0) := rfl
theorem both2 (a b : Nat) : @Eq Nat (Wm03.both 2 a b) (if a = 0 then b else a) := rfl
theorem both3 (n a b : Nat) : @Eq Nat (Wm03.both (n + 3) a b) (if a = 0 then b else if b = 0 then a else 3) := rfl
/-- decisions put together as the specification does -/
theorem put_both (k : Nat) : ∀ ds : List Nat, (∀ d ∈ ds, d ≤ 3) → putT k ds = ds.foldr (Wm03.both k) 0 := by
  intro ds
  induction ds with
  | nil =>
    intro _
    unfold putT
    split
    · rfl
    · split <;> rfl
  | cons d r ih =>
    intro h
    have hd : d ≤ 3 := h d List.mem_cons_self
    have ih' := ih fun x hx => h x (List.mem_cons_of_mem _ hx)
    rw [List.foldr_cons, ← ih']
    match k with
    | 0 =>
      rw [putT0, putT0, both0, firstOf_mem, firstOf_mem]
      simp only [List.any_cons, Bool.or_eq_true, beq_iff_eq]
      generalize r.any (· == 2) = a2
      generalize r.any (· == 3) = a3
      generalize r.any (· == 1) = a1
      have : d = 0 ∨ d = 1 ∨ d = 2 ∨ d = 3 := by omega
      rcases this with rfl | rfl | rfl | rfl <;> cases a1 <;> cases a2 <;> cases a3 <;> simp
    | 1 =>
      rw [putT1, putT1, both1, firstOf_mem, firstOf_mem]
      simp only [List.any_cons, Bool.or_eq_true, beq_iff_eq]
      generalize r.any (· == 2) = a2
      generalize r.any (· == 3) = a3
      generalize r.any (· == 1) = a1
      have : d = 0 ∨ d = 1 ∨ d = 2 ∨ d = 3 := by omega
      rcases this with rfl | rfl | rfl | rfl <;> cases a1 <;> cases a2 <;> cases a3 <;> simp
    | 2 =>
      rw [putTn 2 _ (by decide) (by decide), putTn 2 _ (by decide) (by decide), both2]
      by_cases z : d = 0
      · subst z
        simp
      · rw [if_neg z, List.filter_cons, if_pos (by simpa using z)]
        simp
    | n + 3 =>
      rw [putTn (n + 3) _ (by omega) (by omega), putTn (n + 3) _ (by omega) (by omega), both3]
      by_cases z : d = 0
      · subst z
        simp
      · rw [List.filter_cons, if_pos (by simpa using z), if_neg z]
        have nz : ∀ x ∈ r.filter (fun d => d != 0), x ≠ 0 := fun x hx => by simpa using (List.mem_filter.mp hx).2
        cases e : r.filter (fun d => d != 0) with
        | nil => simp
        | cons x l =>
          have hx : x ≠ 0 := nz x (by rw [e]; exact List.mem_cons_self)
          cases l with
          | nil => simp [hx]
          | cons y l => simp
theorem both_le (k a b : Nat) (ha : a ≤ 3) (hb : b ≤ 3) : @LE.le Nat instLENat (Wm03.both k a b) 3 := by
  match k with
  | 0 =>
    rw [both0]
    split
    · omega
    · split
      · omega
      · split <;> omega
  | 1 =>
    rw [both1]
    split
    · omega
    · split
      · omega
      · split <;> omega
  | 2 =>
    rw [both2]
    split <;> omega
  | n + 3 =>
    rw [both3]
    split
    · omega
    · split <;> omega
mutual
theorem dec_le (q : List Nat) : ∀ p : Wm03.Pol, @LE.le Nat instLENat (Wm03.dec q p) 3
  | .rule p c => by
    rw [Wm03.dec]
    split
    · split
      · exact (by decide : (1 : Nat) ≤ 3)
      · exact (by decide : (2 : Nat) ≤ 3)
    · exact Nat.zero_le 3
  | .set k c l => by
    rw [Wm03.dec]
    split
    · exact decAll_le q k l
    · exact Nat.zero_le 3
theorem decAll_le (q : List Nat) (k : Nat) : ∀ l : List Wm03.Pol, @LE.le Nat instLENat (Wm03.decAll q k l) 3
  | [] => by rw [Wm03.decAll]; exact Nat.zero_le 3
  | p :: l => by
    rw [Wm03.decAll]
    exact both_le _ _ _ (dec_le q p) (decAll_le q k l)
end
theorem decAll_fold (q : List Nat) (k : Nat) : ∀ l : List Wm03.Pol, Wm03.decAll q k l = (l.map (Wm03.dec q)).foldr (Wm03.both k) 0
  | [] => by rw [Wm03.decAll]; rfl
  | p :: l => by rw [Wm03.decAll, decAll_fold q k l]; rfl
theorem decAll_put (q : List Nat) (k : Nat) (l : List Wm03.Pol) : Wm03.decAll q k l = putT k (l.map (Wm03.dec q)) := by
  rw [decAll_fold, put_both]
  intro d hd
  obtain ⟨p, _, e⟩ := List.mem_map.mp hd
  rw [← e]
  exact dec_le q p
theorem row_pos : ∀ c : Wm03.Pol, 1 ≤ (Wm03.row c).length
  | .rule _ _ => by simp [Wm03.row]
  | .set _ _ _ => by simp [Wm03.row]
theorem rows_len : ∀ l : List Wm03.Pol, l.length ≤ (Wm03.rows l).length
  | [] => Nat.zero_le _
  | c :: l => by
    have h1 := row_pos c
    have h2 := rows_len l
    simp only [Wm03.rows, List.length_append, List.length_cons]
    omega
theorem rows_mem : ∀ {l : List Wm03.Pol} {c : Wm03.Pol}, c ∈ l → (Wm03.row c).length ≤ (Wm03.rows l).length
  | [], c, h => by cases h
  | x :: l, c, h => by
    simp only [Wm03.rows, List.length_append]
    rcases List.mem_cons.mp h with e | e
    · rw [e]; omega
    · have := rows_mem e
      omega
/-- of a policy that is n - 1 deep at most -/
def spDecide (K : PySem.W.Frag) : Nat → Sp
  | 0 => fun _ _ _ _ => False
  | d + 1 => fun vs H Q _ => ∃ (v : V) (p : Wm03.Pol) (l : Addr) (q : List Nat), vs = [v, .ref l] ∧ PolAt H p v ∧ Wm03.okP d p = true ∧ d ≤ 10 ∧ SqL K H l (nats q) ∧ q.length = 4 ∧ (Wm03.row p).length ≤ 1000 ∧ ∀ H', Same H H' → Q (.int (Wm03.dec q p : Nat)) H'
theorem cl_decide (T : TX K mg) : ∀ n, Cl P w K mg base CX0 "decide" (n + 12) ["policy", "values"] (spDecide K n)
  | 0 => (cl_none (d := d_decide) T.g_decide T.u_decide b_decide).mono (by omega)
  | d + 1 => by
    have c_decide : Cl P w K mg base CX0 "decide" (d + 12) ["policy", "values"] (spDecide K d) := cl_decide T d
    have c_put_together : Cl P w K mg base CX0 "put_together" 2 ["way", "decisions"] (spPutTogether K) := cl_put_together T
    have c_holds : Cl P w K mg base CX0 "holds" (d + 1) ["condition", "values"] (spHolds K (d + 1)) := cl_holds T (d + 1)
    refine cl_of (d := d_decide) T.g_decide T.u_decide sc_decide b_decide (fun vs H Q E h => ?_) (fun cdv A outer s H vs Q E hr h => ⟨_, PSs.nox (pss_cons (ps_if (pt_not (pt_val (pe_c c_holds (hr.mono (by omega)) pass0 (pa_cons (pe_ix ix_tup (pv 0) pe_int (fun _ _ => rfl)) (pa_cons (pv 1) pa_nil))))) (pss_one (ps_ret (pe_gi T.i_NOTHING))) pss_nil)
    (pss_cons (ps_if (pt_cmp (pc_eqI (pe_ix ix_tup (pv 0) pe_int (fun _ _ => rfl)) (pe_gi T.i_RULE))) (pss_one (ps_ret (pe_ix ix_tup (pv 0) pe_int (fun _ _ => rfl)))) pss_nil)
    (pss_one (ps_ret (pe_c c_put_together (hr.mono (by omega)) pass0 (pa_cons (pe_ix ix_tup (pv 0) pe_int (fun _ _ => rfl)) (pa_cons (pe_lc (own := [("part", 2)]) (g := gName 2) (tt := tYes) (te := tCall _ [] _ (tCons (tVar 2) (tCons (tVar 1) tNil))) rfl sc_decide.nd (pi_list (pe_ix ix_tup (pv 0) pe_int (fun _ _ => rfl))) (blkOk_by (N := N_decide) (sc := defScope s_decide) (by decide +kernel)) (fun _ _ _ _ _ => pg_name (i := 2) sc_decide.nd rfl (Or.inl rfl)) (fun _ _ _ _ _ => pts_nil) (fun _ _ _ _ _ => (pe_c c_decide (hr.mono (by omega)) pass0 (pa_cons (pv 2) (pa_cons (pv 1) pa_nil))))) pa_nil))))))), ?_⟩)
    · obtain ⟨v, c, l, q, rfl, _⟩ := h
      rfl
    · obtain ⟨v, p, l, q, rfl, hp, hok, hd, hS, hq, hz, hQ⟩ := h
      walk_at "rd"
      cases p with
      | rule e c =>
        obtain ⟨a, u, rfl, ha, hu⟩ := hp
        rw [Wm03.okP] at hok
        have hz' : (Wm03.rowC c).length ≤ 1000 := by simp only [Wm03.row, List.length_cons] at hz; omega
        refine ixT ha rfl ⟨u, c, l, q, rfl, hu, hok, hS, hq, hz', fun H1 s1 => ⟨_, rfl, ?_⟩⟩
        have hv := hQ H1 s1
        rw [Wm03.dec] at hv
        cases c1 : Wm03.holds q c with
        | false =>
          rw [c1, if_neg Bool.false_ne_true] at hv
          exact if_true_of rfl hv
        | true =>
          rw [c1, if_pos rfl] at hv
          refine if_false_of rfl (ixT (s1 _ _ ha) rfl ⟨_, rfl, if_true_of (by decide) (ixT (s1 _ _ ha) rfl ?_)⟩)
          cases e <;> exact hv
      | set k c ps =>
        obtain ⟨a, u, b, ys, rfl, ha, hu, hb, hps⟩ := hp
        simp only [Wm03.okP, Bool.and_eq_true, decide_eq_true_eq] at hok
        have hz' : (Wm03.rowC c).length ≤ 1000 := by simp only [Wm03.row, List.length_cons, List.length_append] at hz; omega
        have hz2 : (Wm03.rows ps).length ≤ 1000 := by simp only [Wm03.row, List.length_cons, List.length_append] at hz; omega
        refine ixT ha rfl ⟨u, c, l, q, rfl, hu, hok.2.2.1, hS, hq, hz', fun H1 s1 => ⟨_, rfl, ?_⟩⟩
        cases c1 : Wm03.holds q c with
        | false =>
          have hv := hQ H1 s1
          rw [Wm03.dec, c1, if_neg Bool.false_ne_true] at hv
          exact if_true_of rfl hv
        | true =>
          refine if_false_of rfl (ixT (s1 _ _ ha) rfl ⟨_, rfl, if_false_of (by decide) (ixT (s1 _ _ ha) rfl ?_)⟩)
          match d, hok, c_decide with
          | 0, hok, _ => exact absurd hok.2.1 (by omega)
          | d + 1, hok, _ =>
          refine ⟨_, rfl, a, _, _, _, rfl, rfl, SqT.of (s1 _ _ ha), rfl, b, rfl, ⟨_, SqL.of (s1 _ _ hb)⟩, fun D hD => ?_⟩
          have hps1 := pols_pr (PolsAt.mono s1 ps ys hps)
          refine lc_rows (R := fun y c => PolAt H1 c y) (S := fun y c => y = V.int (Wm03.dec q c : Nat)) (SqL.of (s1 _ _ hb)) hps1 (by rw [pr_len hps1]; have := rows_len ps; omega) (fun _ => true) hD (fun x => rfl) ?_ ?_ ?_
          · rintro x c _ hx H' s' R hR
            exact hR _ (Same.refl _)
          · rintro x c hmem hx _ H' s' R hR
            walk_at "rd"
            exact ⟨x, c, l, q, rfl, hx.mono s', okPs_mem hok.2.2.2 c hmem, by omega, (s1.trans s').seq hS, hq, Nat.le_trans (rows_mem hmem) hz2, fun H2 s2 => hR _ _ rfl s2⟩
          · intro zs H' hzs s' hd'
            have e := pr_map hzs
            rw [List.filter_eq_self.mpr (fun _ _ => rfl)] at e
            have e2 : zs = nats (ps.map (Wm03.dec q)) := e.trans (List.map_map (f := Wm03.dec q) (g := fun (n : Nat) => V.int (n : Int))).symm
            rw [e2] at hd'
            refine ⟨D, k, ps.map (Wm03.dec q), rfl, SqL.of hd', by rw [List.length_map]; have := rows_len ps; omega, fun H2 s2 => ?_⟩
            have hv := hQ H2 (s1.trans (s'.trans s2))
            rw [Wm03.dec, c1, if_pos rfl, decAll_put] at hv
            exact hv
end
end Gh
set_option Elab.async false
set_option linter.all false
set_option maxRecDepth 100000
set_option maxHeartbeats 4000000
namespace Gh
open PySem PySem.Spec PyProof.Rows L2
local macro_rules | `(tactic| walk_at "rd") => `(tactic| simp only [tRet, tSeq, tAsg, gName, tDrop, tIfS, tTest, tB, tAnd, tOr, tNot, tAndV, tOrV, tNotV, tCmp, t2I, tAdd, tSub, tMul, tIsN, tNotN, tC, tVar, tCons, tNil, tCall, tOp, tUn, tCB, tNext, tRetN, tIf, tFld, wipe, tYes, HO.ins.injEq, and_assoc, L2.start, List.map_cons, List.map_nil, List.length_cons, List.length_nil, List.cons_append, List.nil_append, List.append_nil, List.set_cons_zero, List.set_cons_succ, List.replicate, Nat.reduceAdd, Nat.reduceSub, Nat.zero_add, Nat.sub_self, List.getElem?_cons_zero, List.getElem?_cons_succ, Option.some.injEq, V.int.injEq, V.bl.injEq, V.ref.injEq, V.str.injEq, List.cons.injEq, reduceCtorEq, and_true, true_and, and_false, false_and, exists_eq_left, exists_eq_left', exists_eq_right, exists_eq_right', exists_and_left, exists_const, exists_false, exists_eq, if_true, if_false, Bool.false_eq_true, Bool.true_eq_false, cxK, andV, orV, andT, orT, deq, dle, dlt, Bool.not_true, Bool.not_false, decide_true, decide_false, ite_true, ite_false])
local macro_rules | `(tactic| k_call_by "rd" ($a, $bs,*)) => do { let cs := bs.getElems; `(tactic| simp only [$a:term, $[$cs:term],*, tRet, tSeq, tAsg, gName, tDrop, tIfS, tTest, tB, tAnd, tOr, tNot, tAndV, tOrV, tNotV, tCmp, t2I, tAdd, tSub, tMul, tIsN, tNotN, tC, tVar, tCons, tNil, tCall, tOp, tUn, tCB, tNext, tRetN, tIf, tFld, wipe, tYes, HO.ins.injEq, and_assoc, L2.start, List.map_cons, List.map_nil, List.length_cons, List.length_nil, List.cons_append, List.nil_append, List.append_nil, List.set_cons_zero, List.set_cons_succ, List.replicate, Nat.reduceAdd, Nat.reduceSub, Nat.zero_add, Nat.sub_self, List.getElem?_cons_zero, List.getElem?_cons_succ, Option.some.injEq, V.int.injEq, V.bl.injEq, V.ref.injEq, V.str.injEq, List.cons.injEq, reduceCtorEq, and_true, true_and, and_false, false_and, exists_eq_left, exists_eq_left', exists_eq_right, exists_eq_right', exists_and_left, exists_const, exists_false, exists_eq, if_true, if_false, Bool.false_eq_true, Bool.true_eq_false, cxK, andV, orV, andT, orT, deq, dle, dlt, Bool.not_true, Bool.not_false, decide_true, decide_false, ite_true, ite_false]) }
section
variable {P : Program} {w : World} {K : PySem.W.Frag} {mg : Str → Option Value} {base : Heap}
/-! ### the reader -/
def rF (l i : V) : List (Str × V) := [("numbers", l), ("place", i)]
theorem rF_numbers (l i : V) : (rF l i).lookup ("numbers" : Str) = some l := lk_here
theorem rF_place (l i : V) : (rF l i).lookup ("place" : Str) = some i := (lk_past (by decide +kernel)).trans lk_here
theorem rF_put (l i j : V) : putF "place" j (rF l i) = rF l j := (put_past (by decide +kernel)).trans (congrArg _ put_here)
theorem rF_no {f : Str} (l i : V) (h1 : (f == ("numbers" : Str)) = false) (h2 : (f == ("place" : Str)) = false) : (rF l i).lookup f = none := (lk_past h1).trans ((lk_past h2).trans rfl)
/-- the reader at p reads the list at l, its place is i -/
def RdAt (K : PySem.W.Frag) (H : Hp) (p l : Addr) (i : Nat) : Prop := ∃ dx, H p = some (.ins (He.ga K "Reader") dx (rF (.ref l) (.int i)))
theorem seq_kept {H H' : Hp} {p l C dx : Addr} {fs : List (Str × V)} {xs : List V} (hp : H p = some (.ins C dx fs)) (kp : Kept [p] H H') (h : SqL K H l xs) : SqL K H' l xs := by
  have ne : ∀ o, H l = some o → (∀ C dx fs, o ≠ .ins C dx fs) → H' l = some o := fun o e hd => kp l o e (by
    have : l ≠ p := fun z => by rw [z, hp] at e; exact hd _ _ _ (Option.some.inj e).symm
    simpa using this)
  rcases h with (h | ⟨o, h⟩) | h
  · exact .inl (.inl (ne _ h (by intro _ _ _ z; cases z)))
  · exact .inl (.inr ⟨o, ne _ h (by intro _ _ _ z; cases z)⟩)
  · exact .inr h
def spReaderInit (K : PySem.W.Frag) : Sp := fun vs H Q _ => ∃ (p dx : Addr) (l : V), vs = [.ref p, l] ∧ H p = some (.ins (He.ga K "Reader") dx []) ∧ ∀ H', H' p = some (.ins (He.ga K "Reader") dx (rF l (.int 0))) → Kept [p] H H' → Q .non H'
theorem il_Reader (T : TX K mg) : Il P w K mg base CX0 "Reader" (He.ga K "Reader") 1 ["self", "numbers"] (spReaderInit K) := by
  refine il_of (d := d_Reader_init) T.g_Reader T.k_Reader T.u_Reader_init sc_Reader_init b_Reader_init (fun vs H Q E h => ?_) (fun cdv A outer s H vs Q E hr h => ⟨_, PSs.nox (pss_cons (ps_fld (pv 0) (pv 1) rfl)
    (pss_one (ps_fld (pv 0) pe_int rfl))), ?_⟩)
  · obtain ⟨p, dx, l, rfl, _⟩ := h
    rfl
  · obtain ⟨p, dx, l, rfl, hp, q⟩ := h
    refine ⟨_, rfl, _, rfl, p, _, dx, [], rfl, hp, T.c_Reader, T.n_Reader_numbers, (by show 0 < 1000; decide), ?_⟩
    refine ⟨_, rfl, p, _, dx, _, rfl, upd_same, T.c_Reader, T.n_Reader_place, (by show 1 < 1000; decide), ?_⟩
    refine q _ (Eq.trans upd_same rfl) fun b o e hb => ?_
    have hb' : b ≠ p := by simpa using hb
    rw [upd_ne hb', upd_ne hb']
    exact e
def spAtEnd (K : PySem.W.Frag) : Sp := fun vs H Q _ => ∃ (p l : Addr) (i : Nat) (ns : List Nat), vs = [.ref p] ∧ RdAt K H p l i ∧ SqL K H l (nats ns) ∧ Q (.bl (decide (ns.length ≤ i))) H
theorem ml_at_end (T : TX K mg) : Ml P w K mg base CX0 (He.ga K "Reader") "at_end" 1 ["self"] (spAtEnd K) := by
  refine ml_of (d := d_Reader_at_end) T.c_Reader T.m_Reader_at_end T.u_Reader_at_end sc_Reader_at_end b_Reader_at_end (fun vs H Q E h => ?_) (fun cdv A outer s H vs Q E hr h => ⟨_, PSs.nox (pss_one (ps_ret (pe_cmp (pc_ge (pe_fld (pv 0) rfl) (pe_callB cr_lenS (by rfl) T.f_len PySem.boot_len (pa_cons (pe_fld (pv 0) rfl) pa_nil))) rfl))), ?_⟩)
  · obtain ⟨p, l, i, ns, rfl, _⟩ := h
    rfl
  · obtain ⟨p, l, i, ns, rfl, ⟨dx, hp⟩, hS, q⟩ := h
    k_call_by "rd" (hp, T.c_Reader, T.n_Reader_numbers, T.n_Reader_place, rF_numbers, rF_place)
    refine lenS hS ?_
    rw [nats_len]
    walk_at "rd"
    exact q
def spTake0 (K : PySem.W.Frag) : Sp := fun vs H Q _ => ∃ (p l : Addr) (i : Nat) (ns : List Nat) (n : Nat), vs = [.ref p] ∧ RdAt K H p l i ∧ SqL K H l (nats ns) ∧ ns[i]? = some n ∧ ∀ H', Kept [p] H H' → RdAt K H' p l (i + 1) → Q (.int n) H'
theorem ml_take0 (T : TX K mg) : Ml P w K mg base CX0 (He.ga K "Reader") "take" 2 ["self"] (spTake0 K) := by
  have c_Reader_at_end : Ml P w K mg base CX0 (He.ga K "Reader") "at_end" 1 ["self"] (spAtEnd K) := ml_at_end T
  refine ml_of (d := d_Reader_take) T.c_Reader T.m_Reader_take T.u_Reader_take sc_Reader_take b_Reader_take (fun vs H Q E h => ?_) (fun cdv A outer s H vs Q E hr h => ⟨_, PSs.nox (pss_cons (ps_if (pt_val (pe_m0 c_Reader_at_end (hr.mono (by omega)) pass0 (pv 0))) (pss_one (ps_never)) pss_nil)
    (pss_cons (ps_set (i := 1) sc_Reader_take.nd rfl (Or.inl rfl) (pe_ix ix_list (pe_fld (pv 0) rfl) (pe_fld (pv 0) rfl) (fun _ _ => rfl)))
    (pss_cons (ps_fld (pv 0) (pe_add (pe_fld (pv 0) rfl) pe_int) rfl)
    (pss_one (ps_ret (pv 1)))))), ?_⟩)
  · obtain ⟨p, l, i, ns, n, rfl, _⟩ := h
    rfl
  · obtain ⟨p, l, i, ns, n, rfl, ⟨dx, hp⟩, hS, hn, q⟩ := h
    have hlt : i < ns.length := (List.getElem?_eq_some_iff.mp hn).1
    refine ⟨_, rfl, p, dx, _, rfl, hp, rF_no _ _ (by decide +kernel) (by decide +kernel), p, l, i, ns, rfl, ⟨dx, hp⟩, hS, ?_⟩
    k_call_by "rd" (hp, T.c_Reader, T.n_Reader_numbers, T.n_Reader_place, rF_numbers, rF_place)
    refine if_false_of (decide_eq_false (by omega)) (ixL hS (atI_nat (nats_at hn)) ?_)
    refine ⟨_, rfl, p, _, dx, _, _, rfl, hp, T.c_Reader, T.n_Reader_place, rF_place _ _, _, _, rfl, rfl, _, rfl, p, _, dx, _, rfl, hp, T.c_Reader, T.n_Reader_place, (by show 2 < 1000; decide), ?_⟩
    refine ⟨_, rfl, q _ (fun b o e hb => ?_) ⟨dx, ?_⟩⟩
    · rw [upd_ne (by simpa using hb)]; exact e
    · rw [rF_put]; exact upd_same
def spTake (K : PySem.W.Frag) : Sp := fun vs H Q E => ∃ (p l : Addr) (i : Nat) (ns : List Nat), vs = [.ref p] ∧ RdAt K H p l i ∧ SqL K H l (nats ns) ∧ (∀ n, ns[i]? = some n → ∀ H', Kept [p] H H' → RdAt K H' p l (i + 1) → Q (.int n) H') ∧ (ns.length ≤ i → E (.ref (He.ga K "TooFew")) none H)
theorem ml_take (T : TX K mg) : Ml P w K mg base (L2N.CX P w) (He.ga K "Reader") "take" 2 ["self"] (spTake K) := by
  have c_Reader_at_end : Ml P w K mg base CX0 (He.ga K "Reader") "at_end" 1 ["self"] (spAtEnd K) := ml_at_end T
  refine ml_of (d := d_Reader_take) T.c_Reader T.m_Reader_take T.u_Reader_take sc_Reader_take b_Reader_take (fun vs H Q E h => ?_) (fun cdv A outer s H vs Q E hr h => ⟨_, (pss_cons (ps_if (pt_val (pe_m0 c_Reader_at_end (hr.mono (by omega)) pass0 (pv 0))) (pss_one (L2N.ps_raise rfl (L2N.takes_of rfl rfl rfl rfl) (L2N.pmk_own PySem.F.excBase_ValueError (T.x_TooFew).1 T.g_TooFew (T.x_TooFew).2.1 (raises_own (T.x_TooFew).2.2.1 (T.x_TooFew).2.2.2) (by exact rfl)))) pss_nil)
    (pss_cons (ps_set (i := 1) sc_Reader_take.nd rfl (Or.inl rfl) (pe_ix ix_list (pe_fld (pv 0) rfl) (pe_fld (pv 0) rfl) (fun _ _ => rfl)))
    (pss_cons (ps_fld (pv 0) (pe_add (pe_fld (pv 0) rfl) pe_int) rfl)
    (pss_one (ps_ret (pv 1)))))), ?_⟩)
  · obtain ⟨p, l, i, ns, rfl, _⟩ := h
    rfl
  · obtain ⟨p, l, i, ns, rfl, ⟨dx, hp⟩, hS, q, qe⟩ := h
    refine ⟨_, rfl, p, dx, _, rfl, hp, rF_no _ _ (by decide +kernel) (by decide +kernel), p, l, i, ns, rfl, ⟨dx, hp⟩, hS, ?_⟩
    k_call_by "rd" (hp, T.c_Reader, T.n_Reader_numbers, T.n_Reader_place, rF_numbers, rF_place)
    by_cases hlt : i < ns.length
    · have hn : ns[i]? = some ns[i] := List.getElem?_eq_getElem hlt
      refine if_false_of (decide_eq_false (by omega)) (ixL hS (atI_nat (nats_at hn)) ?_)
      refine ⟨_, rfl, p, _, dx, _, _, rfl, hp, T.c_Reader, T.n_Reader_place, rF_place _ _, _, _, rfl, rfl, _, rfl, p, _, dx, _, rfl, hp, T.c_Reader, T.n_Reader_place, (by show 2 < 1000; decide), ?_⟩
      refine ⟨_, rfl, q _ hn _ (fun b o e hb => ?_) ⟨dx, ?_⟩⟩
      · rw [upd_ne (by simpa using hb)]; exact e
      · rw [rF_put]; exact upd_same
    · exact if_true_of (decide_eq_true (by omega)) (qe (by omega))
def spTakeMany (K : PySem.W.Frag) : Sp := fun vs H Q _ => ∃ (p l : Addr) (i m : Nat) (ns : List Nat), vs = [.ref p, .int m] ∧ RdAt K H p l i ∧ SqL K H l (nats ns) ∧ i + m ≤ ns.length ∧ m ≤ 1000 ∧
  ∀ H' d, Kept [p] H H' → H d = none → H' d = some (.lst (nats ((ns.drop i).take m))) → RdAt K H' p l (i + m) → Q (.ref d) H'
theorem ml_take_many (T : TX K mg) : Ml P w K mg base CX0 (He.ga K "Reader") "take_many" 3 ["self", "many"] (spTakeMany K) := by
  have c_Reader_take : Ml P w K mg base CX0 (He.ga K "Reader") "take" 2 ["self"] (spTake0 K) := ml_take0 T
  refine ml_of (d := d_Reader_take_many) T.c_Reader T.m_Reader_take_many T.u_Reader_take_many sc_Reader_take_many b_Reader_take_many (fun vs H Q E h => ?_) (fun cdv A outer s H vs Q E hr h => ⟨_, PSs.nox (pss_one (ps_ret (pe_lc (own := [("turn", 2)]) (g := gName 2) (tt := tYes) (te := tMeth _ "take" _ [] _ (tVar 0) tNil) rfl sc_Reader_take_many.nd (pi_range1 rfl T.f_range (pa_cons (pv 1) pa_nil)) (blkOk_by (N := N_Reader_take_many) (sc := defScope s_Reader_take_many) (by decide +kernel)) (fun _ _ _ _ _ => pg_name (i := 2) sc_Reader_take_many.nd rfl (Or.inl rfl)) (fun _ _ _ _ _ => pts_nil) (fun _ _ _ _ _ => (pe_m0 c_Reader_take (hr.mono (by omega)) pass0 (pv 0)))))), ?_⟩)
  · obtain ⟨p, l, i, m, ns, rfl, _⟩ := h
    rfl
  · obtain ⟨p, l, i, m, ns, rfl, hR, hS, hm, hz, q⟩ := h
    obtain ⟨dx0, hp0⟩ := id hR
    refine ⟨_, rfl, m, rfl, by omega, by omega, fun D hD => ?_⟩
    refine lc_range (lo := 0) (n := (m : Int).toNat) (fun j H' => Kept [p] H H' ∧ H' D = some (.lst (nats ((ns.drop i).take j))) ∧ RdAt K H' p l (i + j)) ⟨Kept.of (same_upd hD), upd_same, dx0, same_upd hD _ _ hp0⟩ ?_ ?_
    · rintro j H' hj ⟨kp, hd, dx, hp⟩
      have hj : j < m := by omega
      have hlt : i + j < ns.length := by omega
      have hn : ns[i + j]? = some ns[i + j] := List.getElem?_eq_getElem hlt
      have hS' : SqL K H' l (nats ns) := seq_kept hp0 kp hS
      refine ⟨rfl, ?_⟩
      refine ⟨_, rfl, p, dx, _, rfl, hp, rF_no _ _ (by decide +kernel) (by decide +kernel), p, l, i + j, ns, _, rfl, ⟨dx, hp⟩, hS', hn, fun H2 k2 hr2 => ?_⟩
      have nDp : D ≠ p := fun z => by rw [z, hp0] at hD; cases hD
      have hd2 : H2 D = some (.lst (nats ((ns.drop i).take j))) := k2 _ _ hd (by simpa using nDp)
      obtain ⟨dx2, hp2⟩ := hr2
      refine ⟨_, hd2, ?_, fun b o e hb => ?_, ?_, dx2, ?_⟩
      · rw [nats_len, List.length_take]; exact sz1000 (by omega)
      · rw [upd_ne (ne_of_none e hD)]; exact k2 _ _ (kp _ _ e hb) hb
      · have e2 : (ns.drop i)[j]? = some ns[i + j] := by rw [List.getElem?_drop]; exact hn
        rw [take_more e2]
        unfold nats
        rw [List.map_append]
        exact upd_same
      · rw [upd_ne (Ne.symm nDp)]; exact hp2
    · rintro H' ⟨kp, hd, hr2⟩
      have e : (m : Int).toNat = m := by omega
      rw [e] at hd hr2
      exact q H' D kp hD hd hr2
def spTakeRow (K : PySem.W.Frag) : Sp := fun vs H Q _ => ∃ (p l : Addr) (i m : Nat) (ns : List Nat), vs = [.ref p] ∧ RdAt K H p l i ∧ SqL K H l (nats ns) ∧ ns[i]? = some m ∧ i + 1 + m ≤ ns.length ∧ m ≤ 1000 ∧
  ∀ H' d, Kept [p] H H' → H d = none → H' d = some (.lst (nats ((ns.drop (i + 1)).take m))) → RdAt K H' p l (i + 1 + m) → Q (.ref d) H'
theorem ml_take_row (T : TX K mg) : Ml P w K mg base CX0 (He.ga K "Reader") "take_row" 4 ["self"] (spTakeRow K) := by
  have c_Reader_take : Ml P w K mg base CX0 (He.ga K "Reader") "take" 2 ["self"] (spTake0 K) := ml_take0 T
  have c_Reader_take_many : Ml P w K mg base CX0 (He.ga K "Reader") "take_many" 3 ["self", "many"] (spTakeMany K) := ml_take_many T
  refine ml_of (d := d_Reader_take_row) T.c_Reader T.m_Reader_take_row T.u_Reader_take_row sc_Reader_take_row b_Reader_take_row (fun vs H Q E h => ?_) (fun cdv A outer s H vs Q E hr h => ⟨_, PSs.nox (pss_one (ps_ret (pe_m c_Reader_take_many (hr.mono (by omega)) pass0 (pv 0) (pa_cons (pe_m0 c_Reader_take (hr.mono (by omega)) pass0 (pv 0)) pa_nil)))), ?_⟩)
  · obtain ⟨p, l, i, m, ns, rfl, _⟩ := h
    rfl
  · obtain ⟨p, l, i, m, ns, rfl, hR, hS, hn, hm, hz, q⟩ := h
    obtain ⟨dx0, hp0⟩ := id hR
    refine ⟨_, rfl, p, dx0, _, rfl, hp0, rF_no _ _ (by decide +kernel) (by decide +kernel), ?_⟩
    refine ⟨_, rfl, p, dx0, _, rfl, hp0, rF_no _ _ (by decide +kernel) (by decide +kernel), p, l, i, ns, m, rfl, hR, hS, hn, fun H1 k1 hr1 => ?_⟩
    refine ⟨p, l, i + 1, m, ns, rfl, hr1, seq_kept hp0 k1 hS, by omega, hz, fun H2 d k2 hd hd2 hr2 => ?_⟩
    refine q H2 d (k1.trans k2) ?_ hd2 hr2
    cases e : H d with
    | none => rfl
    | some o =>
      by_cases z : d = p
      · obtain ⟨dx1, hp1⟩ := hr1
        rw [z, hp1] at hd; cases hd
      · rw [k1 _ _ e (by simpa using z)] at hd; cases hd
end
end Gh
set_option linter.all false
/-! The specification's codes: what is parsed is what was told. -/
namespace Gh
open Wm03
mutual
theorem rowC_inj : ∀ (c c' : Cond) (r r' : List Nat), rowC c ++ r = rowC c' ++ r' → c = c' ∧ r = r'
  | .yes, c', r, r', h => by
    cases c' <;> simp [rowC] at h
    exact ⟨rfl, h⟩
  | .range a b d, c', r, r', h => by
    cases c' <;> simp [rowC] at h
    obtain ⟨rfl, rfl, rfl, h⟩ := h
    exact ⟨rfl, h⟩
  | .all l, c', r, r', h => by
    cases c' <;> simp [rowC] at h
    obtain ⟨h1, h2⟩ := rowCs_inj _ _ _ _ h.1 h.2
    exact ⟨by rw [h1], h2⟩
  | .any l, c', r, r', h => by
    cases c' <;> simp [rowC] at h
    obtain ⟨h1, h2⟩ := rowCs_inj _ _ _ _ h.1 h.2
    exact ⟨by rw [h1], h2⟩
  | .no c, c', r, r', h => by
    cases c' <;> simp [rowC] at h
    obtain ⟨h1, h2⟩ := rowC_inj _ _ _ _ h
    exact ⟨by rw [h1], h2⟩
theorem rowCs_inj : ∀ (l l' : List Cond) (r r' : List Nat), l.length = l'.length → rowCs l ++ r = rowCs l' ++ r' → l = l' ∧ r = r'
  | [], l', r, r', hl, h => by
    cases l' with
    | nil => exact ⟨rfl, by simpa [rowCs] using h⟩
    | cons x l => simp at hl
  | c :: l, l', r, r', hl, h => by
    cases l' with
    | nil => simp at hl
    | cons x l' =>
      simp only [rowCs, List.append_assoc] at h
      obtain ⟨h1, h2⟩ := rowC_inj _ _ _ _ h
      obtain ⟨h3, h4⟩ := rowCs_inj l l' _ _ (by simpa using hl) h2
      exact ⟨by rw [h1, h3], h4⟩
end
mutual
theorem row_inj : ∀ (c c' : Pol) (r r' : List Nat), row c ++ r = row c' ++ r' → c = c' ∧ r = r'
  | .rule e c, c', r, r', h => by
    cases c' with
    | rule e' d =>
      simp only [row, List.cons_append, List.cons.injEq, true_and] at h
      obtain ⟨h0, h⟩ := h
      obtain ⟨h1, h2⟩ := rowC_inj _ _ _ _ h
      have : e = e' := by cases e <;> cases e' <;> simp at h0 <;> rfl
      exact ⟨by rw [h1, this], h2⟩
    | set k d l => simp [row] at h
  | .set k c l, c', r, r', h => by
    cases c' with
    | rule e' d => simp [row] at h
    | set k' d l' =>
      simp only [row, List.cons_append, List.append_assoc, List.cons.injEq, true_and] at h
      obtain ⟨h0, h⟩ := h
      obtain ⟨h1, h2⟩ := rowC_inj _ _ _ _ h
      simp only [List.cons.injEq] at h2
      obtain ⟨h3, h4⟩ := rows_inj _ _ _ _ h2.1 h2.2
      exact ⟨by rw [h0, h1, h3], h4⟩
theorem rows_inj : ∀ (l l' : List Pol) (r r' : List Nat), l.length = l'.length → rows l ++ r = rows l' ++ r' → l = l' ∧ r = r'
  | [], l', r, r', hl, h => by
    cases l' with
    | nil => exact ⟨rfl, by simpa [rows] using h⟩
    | cons x l => simp at hl
  | c :: l, l', r, r', hl, h => by
    cases l' with
    | nil => simp at hl
    | cons x l' =>
      simp only [rows, List.append_assoc] at h
      obtain ⟨h1, h2⟩ := row_inj _ _ _ _ h
      obtain ⟨h3, h4⟩ := rows_inj l l' _ _ (by simpa using hl) h2
      exact ⟨by rw [h1, h3], h4⟩
end
theorem rowC_ne (c : Cond) : ∃ k r, rowC c = k :: r ∧ k ≤ 4 := by
  cases c <;> simp [rowC]
theorem rowC_one (c : Cond) : 1 ≤ (rowC c).length := by
  cases c <;> simp [rowC]
theorem row_one (c : Pol) : 1 ≤ (row c).length := by
  cases c <;> simp [row]
/-- what is told is parsed -/
theorem conds_row : ∀ (f : Nat) (l : List Cond) (r : List Nat), (rowCs l).length ≤ f → conds f l.length (rowCs l ++ r) = some (l, r)
  | f, [], r, _ => by
    cases f <;> simp [conds, rowCs]
  | 0, c :: l, r, h => by
    have := rowC_one c
    simp only [rowCs, List.length_append] at h
    omega
  | f + 1, c :: l, r, h => by
    simp only [rowCs, List.length_append] at h
    have ih := conds_row f l r (by have := rowC_one c; omega)
    simp only [List.length_cons, rowCs, List.append_assoc]
    cases c with
    | yes =>
      simp only [rowC, List.cons_append, List.nil_append, conds, Option.bind_some, ih, Option.map_some]
    | range a lo hi =>
      simp only [rowC, List.cons_append, List.nil_append, conds, Option.bind_some, ih, Option.map_some]
    | all m =>
      have ih2 := conds_row f m (rowCs l ++ r) (by simp only [rowC, List.length_cons] at h; omega)
      simp only [rowC, List.cons_append, conds, ih2, Option.bind_some, ih, Option.map_some]
    | any m =>
      have ih2 := conds_row f m (rowCs l ++ r) (by simp only [rowC, List.length_cons] at h; omega)
      simp only [rowC, List.cons_append, conds, ih2, Option.bind_some, ih, Option.map_some]
    | no d =>
      have ih2 := conds_row f [d] (rowCs l ++ r) (by simp only [rowC, rowCs, List.length_cons, List.append_nil] at h ⊢; omega)
      simp only [List.length_cons, List.length_nil, rowCs, List.append_nil] at ih2
      simp only [rowC, List.cons_append, conds, ih2, Option.bind_some, ih, Option.map_some]
/-- what is parsed was told so -/
theorem row_conds : ∀ (f n : Nat) (l : List Nat) (cs : List Cond) (r : List Nat), conds f n l = some (cs, r) → cs.length = n ∧ l = rowCs cs ++ r
  | f, 0, l, cs, r, h => by
    have e : some (([] : List Cond), l) = some (cs, r) := by cases f <;> simpa [conds] using h
    cases e
    exact ⟨rfl, rfl⟩
  | 0, n + 1, l, cs, r, h => by simp [conds] at h
  | f + 1, n + 1, l, cs, r, h => by
    unfold conds at h
    simp only [Option.bind_eq_some_iff, Option.map_eq_some_iff] at h
    obtain ⟨⟨c, l1⟩, h1, ⟨ds, l2⟩, h2, e⟩ := h
    cases e
    obtain ⟨k1, k2⟩ := row_conds f n l1 ds l2 h2
    refine ⟨by rw [List.length_cons, k1], ?_⟩
    simp only [rowCs, List.append_assoc, ← k2]
    split at h1
    · cases h1; rfl
    · cases h1; rfl
    · rename_i k q
      simp only [Option.map_eq_some_iff] at h1
      obtain ⟨⟨x, y⟩, h3, e⟩ := h1
      cases e
      obtain ⟨k3, k4⟩ := row_conds f k q x y h3
      simp only [rowC, List.cons_append, k3, ← k4]
    · rename_i k q
      simp only [Option.map_eq_some_iff] at h1
      obtain ⟨⟨x, y⟩, h3, e⟩ := h1
      cases e
      obtain ⟨k3, k4⟩ := row_conds f k q x y h3
      simp only [rowC, List.cons_append, k3, ← k4]
    · rename_i q
      split at h1
      · rename_i d s h3
        cases h1
        obtain ⟨k3, k4⟩ := row_conds f 1 q [d] l1 h3
        simp only [rowCs, List.append_nil] at k4
        simp only [rowC, List.cons_append, ← k4]
      · cases h1
    · cases h1
theorem pols_rows : ∀ (f : Nat) (l : List Pol) (r : List Nat), (rows l).length ≤ f → polsOf f l.length (rows l ++ r) = some (l, r)
  | f, [], r, _ => by
    cases f <;> simp [polsOf, rows]
  | 0, c :: l, r, h => by
    have := row_one c
    simp only [rows, List.length_append] at h
    omega
  | f + 1, c :: l, r, h => by
    simp only [rows, List.length_append] at h
    have ih := pols_rows f l r (by have := row_one c; omega)
    simp only [List.length_cons, rows, List.append_assoc]
    cases c with
    | rule e c =>
      have ih2 := conds_row ((rowC c ++ (rows l ++ r)).length + 1) [c] (rows l ++ r) (by simp only [rowCs, List.append_nil, List.length_append]; omega)
      simp only [List.length_cons, List.length_nil, rowCs, List.append_nil] at ih2
      simp only [row, List.cons_append, polsOf, ih2]
      cases e <;> simp [ih]
    | set k c m =>
      have ih2 := conds_row ((rowC c ++ (m.length :: rows m ++ (rows l ++ r))).length + 1) [c] (m.length :: rows m ++ (rows l ++ r)) (by simp only [rowCs, List.append_nil, List.length_append]; omega)
      simp only [List.length_cons, List.length_nil, rowCs, List.append_nil] at ih2
      have ih3 := pols_rows f m (rows l ++ r) (by simp only [row, List.length_cons, List.length_append] at h; omega)
      simp only [row, List.cons_append, List.append_assoc, polsOf] at ih2 ⊢
      simp only [ih2, ih3, Option.map_some, Option.bind_some, ih]
theorem rows_pols : ∀ (f n : Nat) (l : List Nat) (cs : List Pol) (r : List Nat), polsOf f n l = some (cs, r) → cs.length = n ∧ l = rows cs ++ r
  | f, 0, l, cs, r, h => by
    have e : some (([] : List Pol), l) = some (cs, r) := by cases f <;> simpa [polsOf] using h
    cases e
    exact ⟨rfl, rfl⟩
  | 0, n + 1, l, cs, r, h => by simp [polsOf] at h
  | f + 1, n + 1, l, cs, r, h => by
    unfold polsOf at h
    simp only [Option.bind_eq_some_iff, Option.map_eq_some_iff] at h
    obtain ⟨⟨c, l1⟩, h1, ⟨ds, l2⟩, h2, e⟩ := h
    cases e
    obtain ⟨k1, k2⟩ := rows_pols f n l1 ds l2 h2
    refine ⟨by rw [List.length_cons, k1], ?_⟩
    simp only [rows, List.append_assoc, ← k2]
    split at h1
    · rename_i e q
      split at h1
      · rename_i d s h3
        obtain ⟨k3, k4⟩ := row_conds _ 1 q [d] s h3
        simp only [rowCs, List.append_nil] at k4
        split at h1
        · rename_i he
          cases h1
          simp only [row, List.cons_append, ← k4]
          rcases he with rfl | rfl <;> rfl
        · cases h1
      · cases h1
    · rename_i k q
      split at h1
      · rename_i d m s h3
        simp only [Option.map_eq_some_iff] at h1
        obtain ⟨⟨x, y⟩, h4, e⟩ := h1
        cases e
        obtain ⟨k3, k4⟩ := row_conds _ 1 q [d] (m :: s) h3
        obtain ⟨k5, k6⟩ := rows_pols f m s x y h4
        simp only [rowCs, List.append_nil] at k4
        simp only [row, List.cons_append, List.append_assoc, k5, ← k6, ← k4]
      · cases h1
    · cases h1
theorem parsed_row (p : Pol) : parsed (row p) = some p := by
  have h := pols_rows ((row p).length + 1) [p] [] (by simp [rows])
  simp only [List.length_cons, List.length_nil, rows, List.append_nil] at h
  unfold parsed
  rw [h]
theorem row_parsed {l : List Nat} {p : Pol} (h : parsed l = some p) : l = row p := by
  unfold parsed at h
  split at h
  · rename_i q e
    cases h
    obtain ⟨_, h2⟩ := rows_pols _ _ _ _ _ e
    simpa [rows] using h2
  · cases h
theorem rowCs_app : ∀ l m : List Cond, rowCs (l ++ m) = rowCs l ++ rowCs m
  | [], m => by simp [rowCs]
  | c :: l, m => by simp [rowCs, rowCs_app l m]
theorem rows_app : ∀ l m : List Pol, rows (l ++ m) = rows l ++ rows m
  | [], m => by simp [rows]
  | c :: l, m => by simp [rows, rows_app l m]
theorem rowCs_split : ∀ (l m : List Cond) (r x : List Nat), l.length < m.length → rowCs m ++ r = rowCs l ++ x → ∃ c k, m = l ++ c :: k ∧ x = rowC c ++ (rowCs k ++ r)
  | [], m, r, x, h, e => by
    cases m with
    | nil => simp at h
    | cons c k => exact ⟨c, k, rfl, by simpa [rowCs] using e.symm⟩
  | a :: l, m, r, x, h, e => by
    cases m with
    | nil => simp at h
    | cons c k =>
      simp only [rowCs, List.append_assoc] at e
      obtain ⟨h1, h2⟩ := rowC_inj _ _ _ _ e
      obtain ⟨c', k', h3, h4⟩ := rowCs_split l k r x (by simpa using h) h2
      exact ⟨c', k', by rw [h1, h3]; rfl, h4⟩
theorem rows_split : ∀ (l m : List Pol) (r x : List Nat), l.length < m.length → rows m ++ r = rows l ++ x → ∃ c k, m = l ++ c :: k ∧ x = row c ++ (rows k ++ r)
  | [], m, r, x, h, e => by
    cases m with
    | nil => simp at h
    | cons c k => exact ⟨c, k, rfl, by simpa [rows] using e.symm⟩
  | a :: l, m, r, x, h, e => by
    cases m with
    | nil => simp at h
    | cons c k =>
      simp only [rows, List.append_assoc] at e
      obtain ⟨h1, h2⟩ := row_inj _ _ _ _ e
      obtain ⟨c', k', h3, h4⟩ := rows_split l k r x (by simpa using h) h2
      exact ⟨c', k', by rw [h1, h3]; rfl, h4⟩
theorem okCs_app (d : Nat) : ∀ l m : List Cond, okCs d (l ++ m) = (okCs d l && okCs d m)
  | [], m => by simp [okCs]
  | c :: l, m => by simp [okCs, okCs_app d l m, Bool.and_assoc]
theorem okPs_app (d : Nat) : ∀ l m : List Pol, okPs d (l ++ m) = (okPs d l && okPs d m)
  | [], m => by simp [okPs]
  | c :: l, m => by simp [okPs, okPs_app d l m, Bool.and_assoc]
end Gh
set_option linter.all false
/-! The specification's house: what holds of it whatever was done. -/
namespace Gh
theorem mayGive_app (l : List Wm01.Grant) (g : Wm01.Grant) (u x : Nat) : Wm01.mayGive (l ++ [g]) u x = (Wm01.mayGive l u x || (g.taker == u && (g.right == x && g.pass))) := by
  unfold Wm01.mayGive
  rw [List.any_append, Bool.or_assoc]
  simp
/-- each grant's giver may give it by those ahead -/
def Stands (l : List Wm01.Grant) : Prop := ∀ i g, l[i]? = some g → Wm01.mayGive (l.take i) g.giver g.right = true
theorem stands_nil : Stands [] := fun i g h => by simp at h
theorem stands_app {l : List Wm01.Grant} {g : Wm01.Grant} (h : Stands l) (hg : Wm01.mayGive l g.giver g.right = true) : Stands (l ++ [g]) := by
  intro i x hx
  by_cases hi : i < l.length
  · rw [List.getElem?_append_left hi] at hx
    rw [List.take_append_of_le_length (Nat.le_of_lt hi)]
    exact h i x hx
  · rw [List.getElem?_append_right (by omega)] at hx
    have e : i - l.length = 0 := by
      cases q : i - l.length with
      | zero => rfl
      | succ j => rw [q] at hx; simp at hx
    rw [e] at hx
    have e2 : g = x := by simpa using hx
    subst e2
    rw [show i = l.length by omega, List.take_left]
    exact hg
theorem stands_from : ∀ (m l : List Wm01.Grant), Stands l → Stands (Wm01.standFrom l m)
  | [], l, h => h
  | g :: m, l, h => by
    unfold Wm01.standFrom
    split
    · rename_i c; exact stands_from m _ (stands_app h c)
    · exact stands_from m _ h
theorem stands_stand (m : List Wm01.Grant) : Stands (Wm01.stand m) := stands_from m [] stands_nil
theorem stands_over (a b r : Nat) (hab : a ≠ b) : ∀ (post pre kept : List Wm01.Grant), Stands (pre ++ post) → Stands kept →
    (∀ u x, (u ≠ b ∨ x ≠ r) → Wm01.mayGive pre u x = true → Wm01.mayGive kept u x = true) → (Wm01.mayGive pre b r = true → Wm01.mayGive kept b r = true ∨ Wm01.mayGive kept a r = true) →
    Stands (Wm01.takeOver a b r kept (post.filter fun g => !Wm01.by_ a b r g))
  | [], pre, kept, _, hk, _, _ => hk
  | g :: post, pre, kept, hs, hk, h1, h2 => by
    have hg : Wm01.mayGive pre g.giver g.right = true := by
      have := hs pre.length g (by rw [List.getElem?_append_right (Nat.le_refl _)]; simp)
      rwa [List.take_left] at this
    have hs' : Stands ((pre ++ [g]) ++ post) := by rw [List.append_assoc]; exact hs
    cases c : Wm01.by_ a b r g with
    | true =>
      rw [List.filter_cons_of_neg (by simp [c])]
      unfold Wm01.by_ at c
      simp only [Bool.and_eq_true, beq_iff_eq] at c
      obtain ⟨c1, c2, c3⟩ := c
      refine stands_over a b r hab post (pre ++ [g]) kept hs' hk (fun u x hu hm => ?_) fun hm => ?_
      · rw [mayGive_app] at hm
        refine h1 u x hu ?_
        rcases Bool.or_eq_true _ _ ▸ hm with z | z
        · exact z
        · exfalso
          simp only [Bool.and_eq_true, beq_iff_eq] at z
          rcases hu with hu | hu
          · exact hu (by rw [← z.1, c2])
          · exact hu (by rw [← z.2.1, c3])
      · refine .inr (h1 a r (.inl hab) ?_)
        rw [← c1, ← c3]; exact hg
    | false =>
      rw [List.filter_cons_of_pos (by simp [c])]
      unfold Wm01.takeOver
      by_cases d : Wm01.mayGive kept g.giver g.right = true
      · rw [if_pos d]
        refine stands_over a b r hab post (pre ++ [g]) (kept ++ [g]) hs' (stands_app hk d) (fun u x hu hm => ?_) fun hm => ?_
        · rw [mayGive_app] at hm ⊢
          rcases Bool.or_eq_true _ _ ▸ hm with z | z
          · rw [h1 u x hu z]; rfl
          · rw [z, Bool.or_true]
        · rw [mayGive_app] at hm
          rcases Bool.or_eq_true _ _ ▸ hm with z | z
          · rcases h2 z with z | z
            · left; rw [mayGive_app, z]; rfl
            · right; rw [mayGive_app, z]; rfl
          · left; rw [mayGive_app, z, Bool.or_true]
      · rw [if_neg d]
        have e : g.giver = b ∧ g.right = r := by
          refine Classical.byContradiction fun z => d (h1 _ _ ?_ hg)
          by_cases z1 : g.giver = b
          · exact .inr fun z2 => z ⟨z1, z2⟩
          · exact .inl z1
        have ka : Wm01.mayGive kept a r = true := by
          rcases h2 (by rw [← e.1, ← e.2]; exact hg) with z | z
          · exact absurd (by rw [e.1, e.2]; exact z) d
          · exact z
        by_cases t : g.taker = a
        · rw [if_neg (fun z => z.2.2 t)]
          refine stands_over a b r hab post (pre ++ [g]) kept hs' hk (fun u x hu hm => ?_) fun hm => ?_
          · rw [mayGive_app] at hm
            rcases Bool.or_eq_true _ _ ▸ hm with z | z
            · exact h1 u x hu z
            · simp only [Bool.and_eq_true, beq_iff_eq] at z
              rw [← z.1, ← z.2.1, t, e.2]
              exact ka
          · exact .inr ka
        · rw [if_pos ⟨e.1, e.2, t⟩]
          refine stands_over a b r hab post (pre ++ [g]) (kept ++ [{ g with giver := a }]) hs' (stands_app hk (by rw [e.2]; exact ka)) (fun u x hu hm => ?_) fun hm => ?_
          · rw [mayGive_app] at hm ⊢
            rcases Bool.or_eq_true _ _ ▸ hm with z | z
            · rw [h1 u x hu z]; rfl
            · rw [show (({ g with giver := a } : Wm01.Grant).taker == u && (({ g with giver := a } : Wm01.Grant).right == x && ({ g with giver := a } : Wm01.Grant).pass)) = true from z, Bool.or_true]
          · right
            rw [mayGive_app, ka]; rfl
theorem stands_kept {l : List Wm01.Grant} {a b r : Nat} (h : Stands l) (hab : a ≠ b) : Stands (Wm01.keptOver l a b r) :=
  stands_over a b r hab l [] [] h stands_nil (fun _ _ _ z => z) fun z => .inl z
theorem standFrom_le : ∀ (m l : List Wm01.Grant), (Wm01.standFrom l m).length ≤ l.length + m.length
  | [], l => Nat.le_refl _
  | g :: m, l => by
    unfold Wm01.standFrom
    split
    · have := standFrom_le m (l ++ [g]); rw [List.length_append, List.length_singleton] at this; rw [List.length_cons]; omega
    · have := standFrom_le m l; rw [List.length_cons]; omega
theorem stand_le (m : List Wm01.Grant) : (Wm01.stand m).length ≤ m.length := by
  have := standFrom_le m []
  unfold Wm01.stand
  simpa using this
theorem over_le (a b r : Nat) : ∀ (m l : List Wm01.Grant), (Wm01.takeOver a b r l m).length ≤ l.length + m.length
  | [], l => Nat.le_refl _
  | g :: m, l => by
    unfold Wm01.takeOver
    split
    · have := over_le a b r m (l ++ [g]); rw [List.length_append, List.length_singleton] at this; rw [List.length_cons]; omega
    · split
      · have := over_le a b r m (l ++ [{ g with giver := a }]); rw [List.length_append, List.length_singleton] at this; rw [List.length_cons]; omega
      · have := over_le a b r m l; rw [List.length_cons]; omega
def cavG : Wm06.Caveat → Prop
  | .most a v => 1 ≤ a ∧ a ≤ 3 ∧ v ≤ 100000
  | .is_ a v => 1 ≤ a ∧ a ≤ 3 ∧ v ≤ 100000
  | .least a v => 1 ≤ a ∧ a ≤ 3 ∧ v ≤ 100000
  | .needs _ => False
theorem cavs_good : ∀ (k : Nat) (l : List Nat) (c : List Wm06.Caveat), l.length ≤ k → Wm06.caveats l = some c → Wm06.needed c = [] → ∀ x ∈ c, cavG x
  | 0, l, c, hk, h, _ => by
    have e : l = [] := List.eq_nil_of_length_eq_zero (by omega)
    subst e
    have : c = [] := by simpa [Wm06.caveats] using h.symm
    subst this
    intro x hx; cases hx
  | k + 1, l, c, hk, h, hn => by
    unfold Wm06.caveats at h
    split at h
    · cases h; intro x hx; cases hx
    · split at h
      · obtain ⟨r, _, e⟩ := Option.map_eq_some_iff.mp h
        subst e
        simp [Wm06.needed] at hn
      · cases h
    · rename_i kk a v rest hk3
      split at h
      · rename_i hok
        obtain ⟨r, hr, e⟩ := Option.map_eq_some_iff.mp h
        subst e
        have hn' : Wm06.needed r = [] := by
          unfold Wm06.needed at hn ⊢
          rw [List.filterMap_cons] at hn
          split at hn
          · exact hn
          · cases hn
        have ih := cavs_good k rest r (by simp only [List.length_cons] at hk; omega) hr hn'
        intro x hx
        rcases List.mem_cons.mp hx with e | e
        · subst e
          split <;> exact ⟨hok.2.1, hok.2.2.1, hok.2.2.2⟩
        · exact ih x e
      · cases h
    · cases h
theorem cavs8 {l : List Nat} {c : List Wm06.Caveat} (h : Wm08.caveats l = some c) : c.length ≤ 8 ∧ ∀ x ∈ c, cavG x := by
  unfold Wm08.caveats at h
  split at h
  · cases h
  · rename_i d hd
    split at h
    · rename_i hc
      cases h
      exact ⟨hc.1, cavs_good _ l c (Nat.le_refl _) hd hc.2⟩
    · cases h
structure Good (s : Wm08.State) (k : Nat) : Prop where
  gl : s.grants.length ≤ k
  tl : s.tickets.length ≤ k
  tn : ∀ t ∈ s.tickets, t.num ≤ k
  tk : ∀ t ∈ s.tickets, t.issuer ≠ 0 ∧ t.caveats.length ≤ 8 ∧ ∀ c ∈ t.caveats, cavG c
  al : s.allowed.Nodup
  au : ∀ x ∈ s.allowed, 1 ≤ x.2 ∧ x.2 ≤ 12
  po : ∀ x ∈ s.policies, ∃ p, x.2 = Wm03.row p ∧ Wm03.isPol p = true
  st : Stands s.grants
theorem good_empty : Good Wm08.empty 0 := ⟨Nat.le_refl _, Nat.le_refl _, (fun _ h => nomatch h), (fun _ h => nomatch h), List.nodup_nil, (fun _ h => nomatch h), (fun _ h => nomatch h), stands_nil⟩
theorem Good.mono {s : Wm08.State} {j k : Nat} (g : Good s j) (h : j ≤ k) : Good s k :=
  ⟨Nat.le_trans g.gl h, Nat.le_trans g.tl h, fun t m => Nat.le_trans (g.tn t m) h, g.tk, g.al, g.au, g.po, g.st⟩
theorem Good.grants {s : Wm08.State} {k : Nat} {l : List Wm01.Grant} (g : Good s k) (h : l.length ≤ k) (hs : Stands l) : Good { s with grants := l } k :=
  ⟨h, g.tl, g.tn, g.tk, g.al, g.au, g.po, hs⟩
theorem Good.ticket {s : Wm08.State} {k : Nat} {t : Wm08.Tick} (g : Good s k) (hn : k < t.num) (h : t.issuer ≠ 0 ∧ t.caveats.length ≤ 8 ∧ ∀ c ∈ t.caveats, cavG c) : Good { s with tickets := s.tickets ++ [t] } t.num := by
  have g' := g.mono (Nat.le_of_lt hn)
  refine ⟨g'.gl, ?_, fun x m => ?_, fun x m => ?_, g.al, g.au, g.po, g.st⟩
  · have := g.tl; show (s.tickets ++ [t]).length ≤ t.num; rw [List.length_append, List.length_singleton]; omega
  · rcases List.mem_append.mp m with m | m
    · exact g'.tn x m
    · rw [List.mem_singleton.mp m]; exact Nat.le_refl _
  · rcases List.mem_append.mp m with m | m
    · exact g.tk x m
    · rw [List.mem_singleton.mp m]; exact h
/-- what is done to the grants -/
theorem granting_cases (s : Wm08.State) (n : Nat) (c : Wm01.Call) : (Wm08.granting s n c = .inl ((Wm01.step ⟨s.grants, n⟩ c).2.headD 0) ∧ (Wm01.step ⟨s.grants, n⟩ c).2.headD 0 < 0) ∨
    (Wm08.granting s n c = .inr { s with grants := (Wm01.step ⟨s.grants, n⟩ c).1.grants } ∧ ¬ (Wm01.step ⟨s.grants, n⟩ c).2.headD 0 < 0) := by
  unfold Wm08.granting
  by_cases h : (Wm01.step ⟨s.grants, n⟩ c).2.headD 0 < 0
  · exact .inl ⟨if_pos h, h⟩
  · exact .inr ⟨if_neg h, h⟩
theorem triple_parts {a b r : Nat} (h : Wm01.isTriple a b r = true) : a ≤ 12 ∧ 1 ≤ b ∧ b ≤ 12 ∧ 1 ≤ r ∧ r ≤ 4 ∧ a ≠ b := by
  unfold Wm01.isTriple Wm01.isUser Wm01.isRight at h
  simp only [Bool.and_eq_true, decide_eq_true_eq, bne_iff_ne, ne_eq] at h
  exact ⟨h.1, h.2.1.1, h.2.1.2, h.2.2.1.1, h.2.2.1.2, h.2.2.2⟩
theorem act_grant (s : Wm08.State) (n a b r p : Nat) : Wm08.act s n (.grant a b r p) = if Wm01.isTriple a b r = false ∨ 1 < p then .inl (-1) else if Wm01.mayGive s.grants a r = false then .inl (-6) else if 14 ≤ (s.grants.filter fun g => g.right == r).length then .inl (-5) else
    .inr { s with grants := s.grants ++ [⟨n, a, b, r, p == 1⟩] } := by
  show Wm08.granting s n (.grant a b r p) = _
  unfold Wm08.granting Wm01.step
  dsimp only
  by_cases h1 : Wm01.isTriple a b r = false ∨ 1 < p
  · rw [if_pos h1, if_pos h1]; rfl
  · rw [if_neg h1, if_neg h1]
    by_cases h2 : Wm01.mayGive s.grants a r = false
    · rw [if_pos h2, if_pos h2]; rfl
    · rw [if_neg h2, if_neg h2]
      by_cases h3 : 14 ≤ (s.grants.filter fun g => g.right == r).length
      · rw [if_pos h3, if_pos h3]; rfl
      · rw [if_neg h3, if_neg h3]
        exact if_neg (show ¬ ((n : Nat) : Int) < 0 by omega)
theorem act_revoke (s : Wm08.State) (n a b r : Nat) : Wm08.act s n (.revoke a b r) = if Wm01.isTriple a b r = false then .inl (-1) else if s.grants.any (Wm01.by_ a b r) = false then .inl (-3) else .inr { s with grants := Wm01.revoked s.grants a b r } := by
  show Wm08.granting s n (.revoke a b r) = _
  unfold Wm08.granting Wm01.step Wm01.anyBy
  dsimp only
  by_cases h1 : Wm01.isTriple a b r = false
  · rw [if_pos h1, if_pos h1]; rfl
  · rw [if_neg h1, if_neg h1]
    by_cases h2 : s.grants.any (Wm01.by_ a b r) = false
    · rw [if_pos h2, if_pos h2]; rfl
    · rw [if_neg h2, if_neg h2]
      exact if_neg (show ¬ ((_ : Nat) : Int) < 0 by omega)
theorem act_over (s : Wm08.State) (n a b r : Nat) : Wm08.act s n (.over a b r) = if Wm01.isTriple a b r = false then .inl (-1) else if s.grants.any (Wm01.by_ a b r) = false then .inl (-3) else .inr { s with grants := Wm01.keptOver s.grants a b r } := by
  show Wm08.granting s n (.over a b r) = _
  unfold Wm08.granting Wm01.step Wm01.anyBy
  dsimp only
  by_cases h1 : Wm01.isTriple a b r = false
  · rw [if_pos h1, if_pos h1]; rfl
  · rw [if_neg h1, if_neg h1]
    by_cases h2 : s.grants.any (Wm01.by_ a b r) = false
    · rw [if_pos h2, if_pos h2]; rfl
    · rw [if_neg h2, if_neg h2]
      exact if_neg (show ¬ ((_ : Nat) : Int) < 0 by omega)
theorem act_leave (s : Wm08.State) (n u : Nat) : Wm08.act s n (.leave u) = if Wm01.isUser u = false then .inl (-1) else .inr { s with grants := Wm01.stand (s.grants.filter fun g => g.giver != u && g.taker != u) } := by
  show Wm08.granting s n (.leave u) = _
  unfold Wm08.granting Wm01.step
  dsimp only
  by_cases h1 : Wm01.isUser u = false
  · rw [if_pos h1, if_pos h1]; rfl
  · rw [if_neg h1, if_neg h1]
    exact if_neg (show ¬ ((_ : Nat) : Int) < 0 by omega)
theorem act_neg {s : Wm08.State} {n : Nat} {e : Wm08.Event} {x : Int} (h : Wm08.act s n e = .inl x) : x < 0 := by
  cases e with
  | grant a b r p =>
    rw [act_grant] at h; repeat' split at h
    all_goals (cases h <;> decide)
  | revoke a b r =>
    rw [act_revoke] at h; repeat' split at h
    all_goals (cases h <;> decide)
  | over a b r =>
    rw [act_over] at h; repeat' split at h
    all_goals (cases h <;> decide)
  | leave u =>
    rw [act_leave] at h; repeat' split at h
    all_goals (cases h <;> decide)
  | policy r l =>
    unfold Wm08.act at h; dsimp only at h; repeat' split at h
    all_goals (cases h <;> decide)
  | quorum r l =>
    unfold Wm08.act at h; dsimp only at h; repeat' split at h
    all_goals (cases h <;> decide)
  | ticket a b r l =>
    unfold Wm08.act at h; dsimp only at h; repeat' split at h
    all_goals (cases h <;> decide)
  | narrow a b r l =>
    unfold Wm08.act at h; dsimp only at h; repeat' split at h
    all_goals (cases h <;> decide)
  | approve r l =>
    unfold Wm08.act at h; dsimp only at h; repeat' split at h
    all_goals (cases h <;> decide)
  | open_ u r m q =>
    unfold Wm08.act at h; dsimp only at h; repeat' split at h
    all_goals (cases h <;> decide)
theorem good_act {s t : Wm08.State} {k n : Nat} {e : Wm08.Event} (g : Good s k) (hn : k < n) (h : Wm08.act s n e = .inr t) : Good t n := by
  have g' := g.mono (Nat.le_of_lt hn)
  cases e with
  | grant a b r p =>
    rw [act_grant] at h
    split at h
    · cases h
    · split at h
      · cases h
      · rename_i hm
        split at h
        · cases h
        · cases h
          refine g'.grants ?_ (stands_app g.st (by simpa using hm))
          have := g.gl
          rw [List.length_append, List.length_singleton]; omega
  | revoke a b r =>
    rw [act_revoke] at h
    split at h
    · cases h
    · split at h
      · cases h
      · cases h
        exact g'.grants (Nat.le_trans (stand_le _) (Nat.le_trans (List.length_filter_le _ _) g'.gl)) (stands_stand _)
  | over a b r =>
    rw [act_over] at h
    split at h
    · cases h
    · rename_i ht
      split at h
      · cases h
      · cases h
        refine g'.grants (Nat.le_trans (over_le _ _ _ _ _) ?_) (stands_kept g.st (triple_parts (by simpa using ht)).2.2.2.2.2)
        have := List.length_filter_le (fun g => !Wm01.by_ a b r g) s.grants
        have := g'.gl
        rw [List.length_nil]; omega
  | leave u =>
    rw [act_leave] at h
    split at h
    · cases h
    · cases h
      exact g'.grants (Nat.le_trans (stand_le _) (Nat.le_trans (List.length_filter_le _ _) g'.gl)) (stands_stand _)
  | policy r l =>
    unfold Wm08.act at h
    dsimp only at h
    split at h
    · cases h
    · split at h
      · cases h
        exact ⟨g'.gl, g'.tl, g'.tn, g'.tk, g.al, g.au, fun x m => g.po x ((List.mem_filter.mp m).1), g.st⟩
      · split at h
        · cases h
        · rename_i p hp
          split at h
          · cases h
          · rename_i hpol
            cases h
            refine ⟨g'.gl, g'.tl, g'.tn, g'.tk, g.al, g.au, fun x m => ?_, g.st⟩
            rcases List.mem_cons.mp m with e | e
            · subst e
              refine ⟨p, ?_, by simpa using hpol⟩
              exact row_parsed hp
            · exact g.po x ((List.mem_filter.mp e).1)
  | quorum r q =>
    unfold Wm08.act at h
    dsimp only at h
    split at h
    · cases h
    · cases h
      exact ⟨g'.gl, g'.tl, g'.tn, g'.tk, g.al, g.au, g.po, g.st⟩
  | ticket a b r l =>
    unfold Wm08.act at h
    dsimp only at h
    split at h
    · cases h
    · rename_i hu
      split at h
      · cases h
      · rename_i c hc
        split at h
        · cases h
        · cases h
          have ha : a ≠ 0 := by
            intro z
            apply hu
            left
            subst z
            rfl
          exact g.ticket (t := ⟨n, a, b, r, c, 0⟩) hn ⟨ha, cavs8 hc⟩
  | narrow a m b l =>
    unfold Wm08.act at h
    dsimp only at h
    split at h
    · cases h
    · split at h
      · cases h
      · rename_i c hc
        split at h
        · cases h
        · rename_i t ht
          split at h
          · cases h
          · split at h
            · cases h
            · rename_i h8
              cases h
              have htm : t ∈ s.tickets := List.mem_of_find?_eq_some ht
              have tk := g.tk t htm
              refine g.ticket (t := ⟨n, t.issuer, b, t.right, t.caveats ++ c, m⟩) hn ⟨tk.1, by show (t.caveats ++ c).length ≤ 8; omega, fun x hx => ?_⟩
              rcases List.mem_append.mp hx with e | e
              · exact tk.2.2 x e
              · exact (cavs8 hc).2 x e
  | approve u r =>
    unfold Wm08.act at h
    dsimp only at h
    split at h
    · cases h
    · rename_i hu
      split at h
      · cases h
      · cases h
        refine ⟨g'.gl, g'.tl, g'.tn, g'.tk, ?_, ?_, g.po, g.st⟩
        · show (if s.allowed.contains (r, u) = true then s.allowed else s.allowed ++ [(r, u)]).Nodup
          split
          · exact g.al
          · rename_i hc
            rw [List.nodup_append]
            refine ⟨g.al, by simp, fun x hx y hy => ?_⟩
            rw [List.mem_singleton.mp hy]
            intro z
            apply hc
            rw [z] at hx
            simpa using hx
        · intro x hx
          have hx : x ∈ (if s.allowed.contains (r, u) = true then s.allowed else s.allowed ++ [(r, u)]) := hx
          split at hx
          · exact g.au x hx
          · rcases List.mem_append.mp hx with e | e
            · exact g.au x e
            · rw [List.mem_singleton.mp e]
              have : Wm01.isUser u = true := by
                cases q : Wm01.isUser u with
                | true => rfl
                | false => exact absurd (.inl q) hu
              unfold Wm01.isUser at this
              simpa using this
  | open_ u r m q =>
    unfold Wm08.act at h
    dsimp only at h
    split at h
    · cases h
    · split at h
      · cases h
      · split at h
        · cases h
        · cases h
          exact ⟨g'.gl, g'.tl, g'.tn, g'.tk, g.al.filter _, fun x m => g.au x ((List.mem_filter.mp m).1), g.po, g.st⟩
end Gh
set_option Elab.async false
set_option linter.all false
set_option maxRecDepth 100000
set_option maxHeartbeats 4000000
namespace Gh
open PySem PySem.Spec PyProof.Rows L2
local macro_rules | `(tactic| walk_at "rd") => `(tactic| simp only [tRet, tSeq, tAsg, gName, tDrop, tIfS, tTest, tB, tAnd, tOr, tNot, tAndV, tOrV, tNotV, tCmp, t2I, tAdd, tSub, tMul, tIsN, tNotN, tC, tVar, tCons, tNil, tCall, tOp, tUn, tCB, tNext, tRetN, tIf, tFld, wipe, tYes, HO.ins.injEq, and_assoc, L2.start, List.map_cons, List.map_nil, List.length_cons, List.length_nil, List.cons_append, List.nil_append, List.append_nil, List.set_cons_zero, List.set_cons_succ, List.replicate, Nat.reduceAdd, Nat.reduceSub, Nat.zero_add, Nat.sub_self, List.getElem?_cons_zero, List.getElem?_cons_succ, Option.some.injEq, V.int.injEq, V.bl.injEq, V.ref.injEq, V.str.injEq, List.cons.injEq, reduceCtorEq, and_true, true_and, and_false, false_and, exists_eq_left, exists_eq_left', exists_eq_right, exists_eq_right', exists_and_left, exists_const, exists_false, exists_eq, if_true, if_false, Bool.false_eq_true, Bool.true_eq_false, cxK, andV, orV, andT, orT, deq, dle, dlt, Bool.not_true, Bool.not_false, decide_true, decide_false, ite_true, ite_false])
local macro_rules | `(tactic| k_call_by "rd" ($a, $bs,*)) => do { let cs := bs.getElems; `(tactic| simp only [$a:term, $[$cs:term],*, tRet, tSeq, tAsg, gName, tDrop, tIfS, tTest, tB, tAnd, tOr, tNot, tAndV, tOrV, tNotV, tCmp, t2I, tAdd, tSub, tMul, tIsN, tNotN, tC, tVar, tCons, tNil, tCall, tOp, tUn, tCB, tNext, tRetN, tIf, tFld, wipe, tYes, HO.ins.injEq, and_assoc, L2.start, List.map_cons, List.map_nil, List.length_cons, List.length_nil, List.cons_append, List.nil_append, List.append_nil, List.set_cons_zero, List.set_cons_succ, List.replicate, Nat.reduceAdd, Nat.reduceSub, Nat.zero_add, Nat.sub_self, List.getElem?_cons_zero, List.getElem?_cons_succ, Option.some.injEq, V.int.injEq, V.bl.injEq, V.ref.injEq, V.str.injEq, List.cons.injEq, reduceCtorEq, and_true, true_and, and_false, false_and, exists_eq_left, exists_eq_left', exists_eq_right, exists_eq_right', exists_and_left, exists_const, exists_false, exists_eq, if_true, if_false, Bool.false_eq_true, Bool.true_eq_false, cxK, andV, orV, andT, orT, deq, dle, dlt, Bool.not_true, Bool.not_false, decide_true, decide_false, ite_true, ite_false]) }
/-! ### a dict with a value for each door -/
def dKD (f : Nat → V) : List (Key × V) := [(.inl 1, f 1), (.inl 2, f 2), (.inl 3, f 3), (.inl 4, f 4)]
theorem door4 {r : Nat} (h : Wm01.isRight r = true) : r = 1 ∨ r = 2 ∨ r = 3 ∨ r = 4 := by
  unfold Wm01.isRight at h
  simp only [Bool.and_eq_true, decide_eq_true_eq] at h
  omega
theorem dKD_val {f : Nat → V} {r : Nat} (h : Wm01.isRight r = true) : valV (dKD f) (.inl (r : Int)) = some (f r) := by
  rcases door4 h with e | e | e | e <;> subst e <;> rfl
theorem dKD_put {f : Nat → V} {r : Nat} {v : V} (h : Wm01.isRight r = true) : putK (dKD f) (.inl (r : Int)) v = dKD fun x => if x = r then v else f x := by
  rcases door4 h with e | e | e | e <;> subst e <;> rfl
theorem dKD_len {f : Nat → V} : (dKD f).length < sizeLine := sz1000 (by show 4 ≤ 100000; decide)
theorem dKD_get {H : Hp} {a : Addr} {f : Nat → V} {r : Nat} (h : Wm01.isRight r = true) (e : H a = some (.dK (dKD f))) : DGet H a (.int (r : Int)) (some (f r)) := by
  have := DGet.k (k := Sum.inl (r : Int)) e
  rw [dKD_val h] at this
  exact this
theorem dKD_set {H : Hp} {a : Addr} {f : Nat → V} {r : Nat} {v : V} (h : Wm01.isRight r = true) (e : H a = some (.dK (dKD f))) : DPut H a (.int (r : Int)) v (upd H a (.dK (dKD fun x => if x = r then v else f x))) := by
  have := DPut.k (k := Sum.inl (r : Int)) (v := v) e dKD_len
  rw [dKD_put h] at this
  exact this
theorem dKD_congr {f g : Nat → V} (h : ∀ r, Wm01.isRight r = true → f r = g r) : dKD f = dKD g := by
  unfold dKD
  rw [h 1 rfl, h 2 rfl, h 3 rfl, h 4 rfl]
/-! ### heaps -/
theorem less_upd {H : Hp} {M : List Addr} {x : Addr} {o : HO} (h : x ∈ M) : less (upd H x o) M = less H M := by
  funext b
  unfold less
  by_cases hb : b ∈ M
  · rw [if_pos hb, if_pos hb]
  · have ne : b ≠ x := fun z => hb (by rw [z]; exact h)
    rw [if_neg hb, if_neg hb, upd_ne ne]
theorem less_step {M M' : List Addr} {H H' : Hp} (kp : Kept M H H') (hM : ∀ b ∈ M', b ∈ M ∨ H b = none) : Same (less H M) (less H' M') := fun b o e => by
  obtain ⟨h1, h2⟩ := of_less e
  refine less_at (fun m => ?_) (kp b o h2 h1)
  rcases hM b m with z | z
  · exact h1 z
  · rw [z] at h2; cases h2
theorem kept_upd {M : List Addr} {H : Hp} {x : Addr} {o : HO} (h : x ∈ M) : Kept M H (upd H x o) := fun b u e hb => by
  have ne : b ≠ x := fun z => hb (by rw [z]; exact h)
  rw [upd_ne ne]; exact e
theorem kept_upd2 {M : List Addr} {H H' : Hp} {x : Addr} {o : HO} (k : Kept M H H') (h : x ∈ M) : Kept M H (upd H' x o) := k.trans (kept_upd h)
section
variable {P : Program} {w : World} {K : PySem.W.Frag} {mg : Str → Option Value} {base : Heap}
/-! ### the house -/
def hF (g t p q a : V) : List (Str × V) := [("grants", g), ("tickets", t), ("policies", p), ("quorums", q), ("allowed", a)]
theorem hF_grants (g t p q a : V) : (hF g t p q a).lookup ("grants" : Str) = some g := lk_here
theorem hF_tickets (g t p q a : V) : (hF g t p q a).lookup ("tickets" : Str) = some t := (lk_past (by decide +kernel)).trans lk_here
theorem hF_policies (g t p q a : V) : (hF g t p q a).lookup ("policies" : Str) = some p := (lk_past (by decide +kernel)).trans ((lk_past (by decide +kernel)).trans lk_here)
theorem hF_quorums (g t p q a : V) : (hF g t p q a).lookup ("quorums" : Str) = some q := (lk_past (by decide +kernel)).trans ((lk_past (by decide +kernel)).trans ((lk_past (by decide +kernel)).trans lk_here))
theorem hF_allowed (g t p q a : V) : (hF g t p q a).lookup ("allowed" : Str) = some a := (lk_past (by decide +kernel)).trans ((lk_past (by decide +kernel)).trans ((lk_past (by decide +kernel)).trans ((lk_past (by decide +kernel)).trans lk_here)))
theorem hF_put (g t p q a x : V) : putF "grants" x (hF g t p q a) = hF x t p q a := put_here
theorem tF_number (n a b r p c : V) : (tFv n a b r p c).lookup ("number" : Str) = some n := lk_here
theorem tF_maker (n a b r p c : V) : (tFv n a b r p c).lookup ("maker" : Str) = some a := (lk_past (by decide +kernel)).trans lk_here
theorem tF_holder (n a b r p c : V) : (tFv n a b r p c).lookup ("holder" : Str) = some b := (lk_past (by decide +kernel)).trans ((lk_past (by decide +kernel)).trans lk_here)
theorem tF_door (n a b r p c : V) : (tFv n a b r p c).lookup ("door" : Str) = some r := (lk_past (by decide +kernel)).trans ((lk_past (by decide +kernel)).trans ((lk_past (by decide +kernel)).trans lk_here))
theorem tF_source (n a b r p c : V) : (tFv n a b r p c).lookup ("source" : Str) = some p := (lk_past (by decide +kernel)).trans ((lk_past (by decide +kernel)).trans ((lk_past (by decide +kernel)).trans ((lk_past (by decide +kernel)).trans lk_here)))
theorem tF_caveats (n a b r p c : V) : (tFv n a b r p c).lookup ("caveats" : Str) = some c := (lk_past (by decide +kernel)).trans ((lk_past (by decide +kernel)).trans ((lk_past (by decide +kernel)).trans ((lk_past (by decide +kernel)).trans ((lk_past (by decide +kernel)).trans lk_here))))
/-- the ticket t lies at a, its caveats' list at c -/
structure TkAt (K : PySem.W.Frag) (H : Hp) (a c : Addr) (ys : List V) (t : Wm08.Tick) : Prop where
  ob : ∃ dx, H a = some (.ins (He.ga K "Ticket") dx (tFv (.int t.num) (.int t.issuer) (.int t.holder) (.int t.right) (.int t.parent) (.ref c)))
  li : H c = some (.lst ys)
  cv : Paired (CavV H) ys t.caveats
def TkV (K : PySem.W.Frag) (H : Hp) (v : V) (t : Wm08.Tick) : Prop := ∃ a c ys, v = .ref a ∧ TkAt K H a c ys t
theorem TkAt.mono {H H' : Hp} {a c : Addr} {ys : List V} {t : Wm08.Tick} (s : Same H H') (h : TkAt K H a c ys t) : TkAt K H' a c ys t := by
  obtain ⟨⟨dx, h1⟩, h2, h3⟩ := h
  exact ⟨⟨dx, s _ _ h1⟩, s _ _ h2, pr_imp h3 fun _ _ z => z.mono s⟩
theorem TkV.mono {H H' : Hp} {v : V} {t : Wm08.Tick} (s : Same H H') (h : TkV K H v t) : TkV K H' v t := by
  obtain ⟨a, c, ys, e, h⟩ := h
  exact ⟨a, c, ys, e, h.mono s⟩
def TkE (K : PySem.W.Frag) (H : Hp) (kv : Key × V) (t : Wm08.Tick) : Prop := kv.1 = .inl (t.num : Int) ∧ TkV K H kv.2 t
theorem tks_mono {H H' : Hp} {xs : List (Key × V)} {gs : List Wm08.Tick} (s : Same H H') (h : Paired (TkE K H) xs gs) : Paired (TkE K H') xs gs := pr_imp h fun _ _ z => ⟨z.1, z.2.mono s⟩
def PlV (H : Hp) (v : V) : Option (List Nat) → Prop
  | none => v = .non
  | some l => ∃ p, l = Wm03.row p ∧ Wm03.isPol p = true ∧ PolAt H p v
theorem PlV.mono {H H' : Hp} {v : V} {o : Option (List Nat)} (s : Same H H') (h : PlV H v o) : PlV H' v o := by
  cases o with
  | none => exact h
  | some l =>
    obtain ⟨p, e, h1, h2⟩ := h
    exact ⟨p, e, h1, h2.mono s⟩
def polOf (s : Wm08.State) (r : Nat) : Option (List Nat) := (s.policies.find? fun x => x.1 == r).map (·.2)
def alw (s : Wm08.State) (r : Nat) : List Nat := (s.allowed.filter fun x => x.1 == r).map (·.2)
def ent (u : Nat) : Key × V := (.inl (u : Int), .bl true)
structure Ad where
  h : Addr
  hx : Addr
  g : Addr
  t : Addr
  p : Addr
  q : Addr
  a : Addr
  i : Nat → Addr
  n : List Addr
/-- what of the house changes -/
def Ad.M0 (d : Ad) : List Addr := [d.h, d.g, d.t, d.p, d.q, d.a, d.i 1, d.i 2, d.i 3, d.i 4]
/-- what changes: the house's own and some others -/
def Ad.M (d : Ad) : List Addr := d.M0 ++ d.n
theorem Ad.sub (d : Ad) {b : Addr} (h : b ∈ d.M0) : b ∈ d.M := List.mem_append_left _ h
/-- what else may change: lists, readers -/
def Okn (o : HO) : Prop := (∃ xs, o = .lst xs) ∨ ∃ C dx l i, o = .ins C dx (rF l i)
structure HsAt (K : PySem.W.Frag) (H : Hp) (d : Ad) (s : Wm08.State) : Prop where
  nd : d.M0.Nodup
  ap : ∀ b ∈ d.n, b ∉ d.M0 ∧ ∃ o, H b = some o ∧ Okn o
  hh : H d.h = some (.ins (He.ga K "House") d.hx (hF (.ref d.g) (.ref d.t) (.ref d.p) (.ref d.q) (.ref d.a)))
  gr : ∃ xs, H d.g = some (.lst xs) ∧ Paired (GrV K (less H d.M)) xs s.grants
  tk : ∃ ts, H d.t = some (.dK ts) ∧ Paired (TkE K (less H d.M)) ts s.tickets
  po : ∃ f, H d.p = some (.dK (dKD f)) ∧ ∀ r, Wm01.isRight r = true → PlV (less H d.M) (f r) (polOf s r)
  qu : H d.q = some (.dK (dKD fun r => .int (Wm08.quorum s r)))
  al : H d.a = some (.dK (dKD fun r => .ref (d.i r)))
  in_ : ∀ r, Wm01.isRight r = true → H (d.i r) = some (.dK ((alw s r).map ent))
/-- nothing of the house has changed -/
theorem HsAt.same {H H' : Hp} {d : Ad} {s : Wm08.State} (h : HsAt K H d s) (e : Same H H') : HsAt K H' d s := by
  have el := (Kept.of (M := d.M) e).less
  obtain ⟨xs, g1, g2⟩ := h.gr
  obtain ⟨ts, t1, t2⟩ := h.tk
  obtain ⟨f, p1, p2⟩ := h.po
  exact ⟨h.nd, fun b hb => ⟨(h.ap b hb).1, let ⟨o, h1, h2⟩ := (h.ap b hb).2; ⟨o, e _ _ h1, h2⟩⟩, e _ _ h.hh, ⟨xs, e _ _ g1, grs_mono el g2⟩, ⟨ts, e _ _ t1, tks_mono el t2⟩, ⟨f, e _ _ p1, fun r hr => (p2 r hr).mono el⟩, e _ _ h.qu, e _ _ h.al, fun r hr => e _ _ (h.in_ r hr)⟩
theorem Ad.mem_i (d : Ad) {r : Nat} (h : Wm01.isRight r = true) : d.i r ∈ d.M0 := by
  rcases door4 h with e | e | e | e <;> subst e <;> simp [Ad.M0]
/-- what the house's changing places hold -/
def MutK (o : HO) : Prop := (∃ C dx g t p q a, o = .ins C dx (hF g t p q a)) ∨ (∃ kvs, o = .dK kvs) ∨ Okn o
theorem HsAt.there {H : Hp} {d : Ad} {s : Wm08.State} (h : HsAt K H d s) : ∀ b ∈ d.M, ∃ o, H b = some o ∧ MutK o := by
  obtain ⟨xs, g1, _⟩ := h.gr
  obtain ⟨ts, t1, _⟩ := h.tk
  obtain ⟨f, p1, _⟩ := h.po
  intro b hb
  rcases List.mem_append.mp hb with hb | hb
  · unfold Ad.M0 at hb
    simp only [List.mem_cons, List.not_mem_nil, or_false] at hb
    rcases hb with e | e | e | e | e | e | e | e | e | e <;> subst e
    · exact ⟨_, h.hh, .inl ⟨_, _, _, _, _, _, _, rfl⟩⟩
    · exact ⟨_, g1, .inr (.inr (.inl ⟨_, rfl⟩))⟩
    · exact ⟨_, t1, .inr (.inl ⟨_, rfl⟩)⟩
    · exact ⟨_, p1, .inr (.inl ⟨_, rfl⟩)⟩
    · exact ⟨_, h.qu, .inr (.inl ⟨_, rfl⟩)⟩
    · exact ⟨_, h.al, .inr (.inl ⟨_, rfl⟩)⟩
    · exact ⟨_, h.in_ 1 rfl, .inr (.inl ⟨_, rfl⟩)⟩
    · exact ⟨_, h.in_ 2 rfl, .inr (.inl ⟨_, rfl⟩)⟩
    · exact ⟨_, h.in_ 3 rfl, .inr (.inl ⟨_, rfl⟩)⟩
    · exact ⟨_, h.in_ 4 rfl, .inr (.inl ⟨_, rfl⟩)⟩
  · obtain ⟨_, o, h1, h2⟩ := h.ap b hb
    exact ⟨o, h1, .inr (.inr h2)⟩
theorem HsAt.tracked {H : Hp} {d : Ad} {s : Wm08.State} (h : HsAt K H d s) : ∀ b ∈ d.M, H b ≠ none := fun b hb z => by
  obtain ⟨o, e, _⟩ := h.there b hb
  rw [e] at z; cases z
theorem HsAt.fresh {H : Hp} {d : Ad} {s : Wm08.State} (h : HsAt K H d s) {b : Addr} (e : H b = none) : b ∉ d.M := fun m => h.tracked b m e
/-- a grant is none of the house's changing places -/
theorem gF_hF {g : Wm01.Grant} {a b c e f : V} : gF g ≠ hF a b c e f := fun z => by
  have h1 := congrArg (fun l => (l.map (·.1)).head?) z
  have h2 : some ("number" : Str) = some ("grants" : Str) := h1
  exact absurd (Option.some.inj h2) (by decide +kernel)
theorem gF_rF {g : Wm01.Grant} {a b : V} : gF g ≠ rF a b := fun z => by
  have h1 := congrArg (fun l => (l.map (·.1)).head?) z
  have h2 : some ("number" : Str) = some ("numbers" : Str) := h1
  exact absurd (Option.some.inj h2) (by decide +kernel)
theorem gr_less {H : Hp} {M : List Addr} {v : V} {g : Wm01.Grant} (hM : ∀ b ∈ M, ∃ o, H b = some o ∧ MutK o) (h : GrV K H v g) : GrV K (less H M) v g := by
  obtain ⟨a, e, dx, h⟩ := h
  refine ⟨a, e, dx, less_at (fun m => ?_) h⟩
  obtain ⟨o, h1, h2⟩ := hM a m
  rw [h] at h1
  cases h1
  rcases h2 with ⟨_, _, _, _, _, _, _, z⟩ | ⟨_, z⟩ | ⟨_, z⟩ | ⟨_, _, _, _, z⟩
  · exact gF_hF (HO.ins.inj z).2.2
  · cases z
  · cases z
  · exact gF_rF (HO.ins.inj z).2.2
/-- what a doing answers, and what it leaves -/
structure Does (K : PySem.W.Frag) (H : Hp) (d : Ad) (s : Wm08.State) (n : Nat) (e : Wm08.Event) (Q : VK) : Prop where
  no : ∀ x, Wm08.act s n e = .inl x → ∀ H', Same H H' → Q (.int x) H'
  yes : ∀ t, Wm08.act s n e = .inr t → ∀ H' d', Kept d.M0 H H' → HsAt K H' d' t → d'.h = d.h → d'.n = d.n → (∀ b ∈ d'.M0, b ∈ d.M0 ∨ H b = none) → Q (.int n) H'
/-- what else changes has changed -/
theorem HsAt.out {H H' : Hp} {d : Ad} {s : Wm08.State} (h : HsAt K H d s) (kp : Kept d.n H H') (hn : ∀ b ∈ d.n, ∃ o, H' b = some o ∧ Okn o) : HsAt K H' d s := by
  have e : ∀ b o, b ∈ d.M0 → H b = some o → H' b = some o := fun b o hb e => kp b o e fun m => (h.ap b m).1 hb
  have el : Same (less H d.M) (less H' d.M) := fun b o z => by
    obtain ⟨h1, h2⟩ := of_less z
    exact less_at h1 (kp b o h2 fun m => h1 (List.mem_append_right _ m))
  obtain ⟨xs, g1, g2⟩ := h.gr
  obtain ⟨ts, t1, t2⟩ := h.tk
  obtain ⟨f, p1, p2⟩ := h.po
  exact ⟨h.nd, fun b hb => ⟨(h.ap b hb).1, hn b hb⟩, e _ _ (by simp [Ad.M0]) h.hh, ⟨xs, e _ _ (by simp [Ad.M0]) g1, grs_mono el g2⟩, ⟨ts, e _ _ (by simp [Ad.M0]) t1, tks_mono el t2⟩, ⟨f, e _ _ (by simp [Ad.M0]) p1, fun r hr => (p2 r hr).mono el⟩, e _ _ (by simp [Ad.M0]) h.qu, e _ _ (by simp [Ad.M0]) h.al, fun r hr => e _ _ (d.mem_i hr) (h.in_ r hr)⟩
/-- one more thing that may change -/
theorem HsAt.addN {H H' : Hp} {d : Ad} {s : Wm08.State} {D : Addr} {o : HO} (h : HsAt K H d s) (e : Same H H') (hD : H D = none) (hD' : H' D = some o) (ho : Okn o) : HsAt K H' { d with n := D :: d.n } s := by
  have hs := h.same e
  have el : Same (less H d.M) (less H' (d.M0 ++ D :: d.n)) := fun b o z => by
    obtain ⟨h1, h2⟩ := of_less z
    refine less_at (fun m => ?_) (e _ _ h2)
    rcases List.mem_append.mp m with m | m
    · exact h1 (List.mem_append_left _ m)
    · rcases List.mem_cons.mp m with m | m
      · rw [m, hD] at h2; cases h2
      · exact h1 (List.mem_append_right _ m)
  obtain ⟨xs, g1, g2⟩ := h.gr
  obtain ⟨ts, t1, t2⟩ := h.tk
  obtain ⟨f, p1, p2⟩ := h.po
  refine ⟨h.nd, fun b hb => ?_, hs.hh, ⟨xs, e _ _ g1, grs_mono el g2⟩, ⟨ts, e _ _ t1, tks_mono el t2⟩, ⟨f, e _ _ p1, fun r hr => (p2 r hr).mono el⟩, hs.qu, hs.al, hs.in_⟩
  rcases List.mem_cons.mp hb with m | m
  · exact ⟨fun z => h.fresh hD (by rw [← m]; exact d.sub z), o, by rw [m]; exact hD', ho⟩
  · exact hs.ap b m
end
end Gh
set_option linter.all false
/-! The log, what hangs, chains. -/
namespace Gh
def isOpen : Wm08.Event → Bool
  | .open_ _ _ _ _ => true
  | _ => false
/-- what of a log is done -/
def replayE : Wm08.State → Wm08.Log → Wm08.Log
  | _, [] => []
  | s, x :: l => match Wm08.act s x.1 x.2 with
    | .inl _ => replayE s l
    | .inr t => x :: replayE t l
def opensOf (l : Wm08.Log) : List Nat := (l.filter fun x => isOpen x.2).map (·.1)
theorem act_opened {s t : Wm08.State} {n : Nat} {e : Wm08.Event} (h : Wm08.act s n e = .inr t) : t.opened = s.opened ++ (if isOpen e = true then [n] else []) := by
  cases e with
  | grant a b r p =>
    rw [act_grant] at h; repeat' split at h
    all_goals (cases h <;> simp [isOpen])
  | revoke a b r =>
    rw [act_revoke] at h; repeat' split at h
    all_goals (cases h <;> simp [isOpen])
  | over a b r =>
    rw [act_over] at h; repeat' split at h
    all_goals (cases h <;> simp [isOpen])
  | leave u =>
    rw [act_leave] at h; repeat' split at h
    all_goals (cases h <;> simp [isOpen])
  | policy r l =>
    unfold Wm08.act at h; dsimp only at h; repeat' split at h
    all_goals (cases h <;> simp [isOpen])
  | quorum r l =>
    unfold Wm08.act at h; dsimp only at h; repeat' split at h
    all_goals (cases h <;> simp [isOpen])
  | ticket a b r l =>
    unfold Wm08.act at h; dsimp only at h; repeat' split at h
    all_goals (cases h <;> simp [isOpen])
  | narrow a b r l =>
    unfold Wm08.act at h; dsimp only at h; repeat' split at h
    all_goals (cases h <;> simp [isOpen])
  | approve r l =>
    unfold Wm08.act at h; dsimp only at h; repeat' split at h
    all_goals (cases h <;> simp [isOpen])
  | open_ u r m q =>
    unfold Wm08.act at h; dsimp only at h; repeat' split at h
    all_goals (cases h <;> simp [isOpen])
theorem replay_opened : ∀ (l : Wm08.Log) (s : Wm08.State), (Wm08.replay s l).opened = s.opened ++ opensOf (replayE s l)
  | [], s => by simp [Wm08.replay, replayE, opensOf]
  | x :: l, s => by
    unfold Wm08.replay replayE
    cases h : Wm08.act s x.1 x.2 with
    | inl y => exact replay_opened l s
    | inr t =>
      dsimp only
      rw [replay_opened l t, act_opened h, List.append_assoc]
      congr 1
      unfold opensOf
      cases c : isOpen x.2 <;> simp [List.filter_cons, c]
theorem replay_app : ∀ (l : Wm08.Log) (s : Wm08.State) (x : Nat × Wm08.Event), Wm08.replay s (l ++ [x]) = match Wm08.act (Wm08.replay s l) x.1 x.2 with
    | .inl _ => Wm08.replay s l
    | .inr t => t
  | [], s, x => by
    simp only [List.nil_append, Wm08.replay]
    cases Wm08.act s x.1 x.2 <;> rfl
  | y :: l, s, x => by
    simp only [List.cons_append, Wm08.replay]
    cases Wm08.act s y.1 y.2 with
    | inl _ => exact replay_app l s x
    | inr t => exact replay_app l t x
theorem replayE_app : ∀ (l : Wm08.Log) (s : Wm08.State) (x : Nat × Wm08.Event), replayE s (l ++ [x]) = match Wm08.act (Wm08.replay s l) x.1 x.2 with
    | .inl _ => replayE s l
    | .inr t => replayE s l ++ [x]
  | [], s, x => by
    simp only [List.nil_append, replayE, Wm08.replay]
  | y :: l, s, x => by
    simp only [List.cons_append, replayE, Wm08.replay]
    cases Wm08.act s y.1 y.2 with
    | inl _ => exact replayE_app l s x
    | inr t =>
      dsimp only
      rw [replayE_app l t x]
      cases Wm08.act (Wm08.replay t l) x.1 x.2 <;> rfl
theorem replayE_sub : ∀ (l : Wm08.Log) (s : Wm08.State) (x : Nat × Wm08.Event), x ∈ replayE s l → x ∈ l
  | [], s, x, h => by simp [replayE] at h
  | y :: l, s, x, h => by
    unfold replayE at h
    split at h
    · exact List.mem_cons_of_mem _ (replayE_sub l s x h)
    · rcases List.mem_cons.mp h with e | e
      · rw [e]; exact List.mem_cons_self
      · exact List.mem_cons_of_mem _ (replayE_sub l _ x e)
/-- numbered from 1 on -/
def Numbered (l : Wm08.Log) : Prop := ∀ i x, l[i]? = some x → x.1 = i + 1
theorem Numbered.inj {l : Wm08.Log} (h : Numbered l) {x y : Nat × Wm08.Event} (hx : x ∈ l) (hy : y ∈ l) (e : x.1 = y.1) : x = y := by
  obtain ⟨i, hi⟩ := List.mem_iff_getElem?.mp hx
  obtain ⟨j, hj⟩ := List.mem_iff_getElem?.mp hy
  have h1 := h i x hi
  have h2 := h j y hj
  have : i = j := by omega
  subst this
  rw [hi] at hj
  exact Option.some.inj hj
theorem numbered_app {l : Wm08.Log} (h : Numbered l) (e : Wm08.Event) : Numbered (l ++ [(l.length + 1, e)]) := by
  intro i x hx
  by_cases hi : i < l.length
  · rw [List.getElem?_append_left hi] at hx
    exact h i x hx
  · rw [List.getElem?_append_right (by omega)] at hx
    have e : i - l.length = 0 := by
      cases q : i - l.length with
      | zero => rfl
      | succ j => rw [q] at hx; simp at hx
    rw [e] at hx
    have e2 := Option.some.inj hx
    rw [← e2]
    show l.length + 1 = i + 1
    omega
structure HOk (h : Wm08.House) : Prop where
  num : Numbered h.log
  st : h.state = Wm08.stateOf h.log
  all : replayE Wm08.empty h.log = h.log
  good : Good h.state h.log.length
  len : h.log.length ≤ 60
theorem hok_init : HOk Wm08.init := ⟨fun i x h => by simp [Wm08.init] at h, rfl, rfl, good_empty, by decide⟩
theorem hok_act {h : Wm08.House} {t : Wm08.State} {e : Wm08.Event} (k : HOk h) (hl : h.log.length < 60) (ha : Wm08.act h.state (h.log.length + 1) e = .inr t) : HOk ⟨h.log ++ [(h.log.length + 1, e)], t⟩ := by
  have hs := k.st
  unfold Wm08.stateOf at hs
  refine ⟨numbered_app k.num e, ?_, ?_, ?_, ?_⟩
  · show t = Wm08.replay Wm08.empty (h.log ++ [(h.log.length + 1, e)])
    rw [replay_app, ← hs]
    dsimp only
    rw [ha]
  · show replayE Wm08.empty (h.log ++ [(h.log.length + 1, e)]) = _
    rw [replayE_app, ← hs]
    dsimp only
    rw [ha, k.all]
  · show Good t (h.log ++ [(h.log.length + 1, e)]).length
    rw [List.length_append, List.length_singleton]
    exact good_act k.good (Nat.lt_succ_self _) ha
  · show (h.log ++ [(h.log.length + 1, e)]).length ≤ 60
    rw [List.length_append, List.length_singleton]; omega
theorem opened_eq {h : Wm08.House} (k : HOk h) : h.state.opened = opensOf h.log := by
  have hs := k.st
  unfold Wm08.stateOf at hs
  rw [hs, replay_opened, k.all]
  rfl
theorem mem_opens {l : Wm08.Log} {m : Nat} : m ∈ opensOf l ↔ ∃ x ∈ l, isOpen x.2 = true ∧ x.1 = m := by
  unfold opensOf
  rw [List.mem_map]
  constructor
  · rintro ⟨x, hx, e⟩
    obtain ⟨h1, h2⟩ := List.mem_filter.mp hx
    exact ⟨x, h1, h2, e⟩
  · rintro ⟨x, h1, h2, e⟩
    exact ⟨x, List.mem_filter.mpr ⟨h1, h2⟩, e⟩
theorem hang_eq {h : Wm08.House} (k : HOk h) (n : Nat) : Wm08.hang h.log n = (opensOf h.log).filter fun m => !((replayE Wm08.empty (Wm08.without h.log n)).map (·.1)).contains m := by
  unfold Wm08.hang
  rw [← k.st, opened_eq k]
  apply List.filter_congr
  intro m hm
  congr 1
  unfold Wm08.stateOf
  rw [replay_opened]
  show (([] : List Nat) ++ opensOf _).contains m = _
  rw [List.nil_append, Bool.eq_iff_iff, List.contains_iff_mem, List.contains_iff_mem, mem_opens, List.mem_map]
  obtain ⟨x, hx, ho, e⟩ := mem_opens.mp hm
  constructor
  · rintro ⟨y, hy, _, e'⟩
    exact ⟨y, hy, e'⟩
  · rintro ⟨y, hy, e'⟩
    have hy' : y ∈ h.log := (List.mem_filter.mp (replayE_sub _ _ _ hy)).1
    have : x = y := k.num.inj hx hy' (by rw [e, e'])
    exact ⟨y, hy, by rw [← this]; exact ho, e'⟩
/-! Chains. -/
theorem find_take {α : Type} {p : α → Bool} : ∀ {l : List α} {i : Nat}, (l.take i).any p = true → ∃ j h, l.find? p = some h ∧ l[j]? = some h ∧ j < i ∧ p h = true
  | [], i, h => by simp at h
  | a :: l, 0, h => by simp at h
  | a :: l, i + 1, h => by
    cases c : p a with
    | true => exact ⟨0, a, by simp [c], rfl, Nat.succ_pos _, c⟩
    | false =>
      rw [List.take_succ_cons, List.any_cons, c, Bool.false_or] at h
      obtain ⟨j, x, h1, h2, h3, h4⟩ := find_take h
      exact ⟨j + 1, x, by simp [c, h1], by simpa using h2, by omega, h4⟩
theorem first_ahead {l : List Wm01.Grant} {i r : Nat} {g : Wm01.Grant} (hs : Stands l) (hg : l[i]? = some g) (hr : g.right = r) (h0 : g.giver ≠ 0) :
    ∃ j h, Wm01.firstTo l g.giver r true = some h ∧ l[j]? = some h ∧ j < i ∧ h.right = r := by
  have hm := hs i g hg
  unfold Wm01.mayGive at hm
  rw [beq_eq_false_iff_ne.mpr h0, Bool.false_or, hr] at hm
  obtain ⟨j, h, h1, h2, h3, h4⟩ := find_take hm
  refine ⟨j, h, ?_, h2, h3, ?_⟩
  · unfold Wm01.firstTo
    simpa using h1
  · simp only [Bool.and_eq_true, beq_iff_eq] at h4
    exact h4.2.1
theorem chain_step {l : List Wm01.Grant} {i f r : Nat} {g h : Wm01.Grant} (hi : i ≤ f) (hr : g.right = r) (h0 : g.giver ≠ 0) (hf : Wm01.firstTo l g.giver r true = some h) (hj : 0 < i) : Wm01.chainTo l f g = Wm01.chainTo l (f - 1) h ++ [g.num] := by
  obtain ⟨k, rfl⟩ : ∃ k, f = k + 1 := ⟨f - 1, by omega⟩
  rw [Wm01.chainTo, if_neg h0, hr, hf]
  rfl
theorem chain_end {l : List Wm01.Grant} {f : Nat} {g : Wm01.Grant} (h0 : g.giver = 0) : Wm01.chainTo l f g = [g.num] := by
  cases f with
  | zero => rfl
  | succ k => rw [Wm01.chainTo, if_pos h0]
/-- where the program stands on its way up a chain: it has gone through pre, and is at g -/
def Chn (l : List Wm01.Grant) (u r : Nat) (pre : List Wm01.Grant) (i : Nat) (g : Wm01.Grant) : Prop := ∃ f, i ≤ f ∧ l[i]? = some g ∧ g.right = r ∧ Wm01.chain l u r = Wm01.chainTo l f g ++ (pre.map (·.num)).reverse
theorem chn_first {l : List Wm01.Grant} {u r : Nat} (h : (l.any fun g => g.taker == u && g.right == r) = true) : ∃ i g, Wm01.firstTo l u r false = some g ∧ l[i]? = some g ∧ Chn l u r [] i g := by
  have h' : (l.take l.length).any (fun g => g.taker == u && (g.right == r && (!false || g.pass))) = true := by
    rw [List.take_length]
    simpa using h
  obtain ⟨i, g, h1, h2, h3, h4⟩ := find_take h'
  have h5 : Wm01.firstTo l u r false = some g := h1
  refine ⟨i, g, h5, h2, l.length, Nat.le_of_lt h3, h2, ?_, ?_⟩
  · simp only [Bool.and_eq_true, beq_iff_eq] at h4
    exact h4.2.1
  · unfold Wm01.chain
    rw [h5]
    simp
theorem chn_next {l : List Wm01.Grant} {u r i : Nat} {pre : List Wm01.Grant} {g : Wm01.Grant} (hs : Stands l) (c : Chn l u r pre i g) (h0 : g.giver ≠ 0) : ∃ j h, Wm01.firstTo l g.giver r true = some h ∧ l[j]? = some h ∧ j < i ∧ Chn l u r (pre ++ [g]) j h := by
  obtain ⟨f, hi, hg, hr, e⟩ := c
  obtain ⟨j, h, h1, h2, h3, h4⟩ := first_ahead hs hg hr h0
  refine ⟨j, h, h1, h2, h3, f - 1, by omega, h2, h4, ?_⟩
  rw [e, chain_step hi hr h0 h1 (by omega), List.append_assoc, List.map_append, List.reverse_append]
  rfl
theorem chn_end {l : List Wm01.Grant} {u r i : Nat} {pre : List Wm01.Grant} {g : Wm01.Grant} (c : Chn l u r pre i g) (h0 : g.giver = 0) : Wm01.chain l u r = ((pre ++ [g]).map (·.num)).reverse := by
  obtain ⟨f, hi, hg, hr, e⟩ := c
  rw [e, chain_end h0, List.map_append, List.reverse_append]
  rfl
end Gh
set_option linter.all false
/-! Sorted lists; who allows. -/
namespace Gh
theorem sorted_eq : ∀ {l m : List Int}, l.Pairwise (· < ·) → m.Pairwise (· < ·) → (∀ x, x ∈ l ↔ x ∈ m) → l = m
  | [], [], _, _, _ => rfl
  | [], b :: m, _, _, h => by have := (h b).mpr List.mem_cons_self; cases this
  | a :: l, [], _, _, h => by have := (h a).mp List.mem_cons_self; cases this
  | a :: l, b :: m, hl, hm, h => by
    have hl' := List.pairwise_cons.mp hl
    have hm' := List.pairwise_cons.mp hm
    have e : a = b := by
      rcases List.mem_cons.mp ((h a).mp List.mem_cons_self) with z | z
      · exact z
      · rcases List.mem_cons.mp ((h b).mpr List.mem_cons_self) with y | y
        · exact y.symm
        · have h1 := hm'.1 a z
          have h2 := hl'.1 b y
          omega
    subst e
    rw [sorted_eq hl'.2 hm'.2 fun x => ?_]
    constructor
    · intro hx
      rcases List.mem_cons.mp ((h x).mp (List.mem_cons_of_mem _ hx)) with z | z
      · have := hl'.1 x hx; omega
      · exact z
    · intro hx
      rcases List.mem_cons.mp ((h x).mpr (List.mem_cons_of_mem _ hx)) with z | z
      · have := hm'.1 x hx; omega
      · exact z
theorem strict_of {l : List Int} (h1 : l.Pairwise (· ≤ ·)) (h2 : l.Nodup) : l.Pairwise (· < ·) := by
  have := List.Pairwise.and h1 h2
  exact this.imp fun h => by
    obtain ⟨a, b⟩ := h
    omega
def users12 : List Nat := (List.range 12).map fun i => i + 1
theorem users12_eq : users12 = [1, 2, 3, 4, 5, 6, 7, 8, 9, 10, 11, 12] := by decide
theorem users12_lt : users12.Pairwise (· < ·) := by rw [users12_eq]; decide
theorem users12_mem {v : Nat} : v ∈ users12 ↔ 1 ≤ v ∧ v ≤ 12 := by
  rw [users12_eq]
  simp only [List.mem_cons, List.not_mem_nil, or_false]
  omega
theorem alw_mem {s : Wm08.State} {r v : Nat} : v ∈ ((s.allowed.filter fun x => x.1 == r).map (·.2)) ↔ (r, v) ∈ s.allowed := by
  rw [List.mem_map]
  constructor
  · rintro ⟨⟨a, b⟩, hx, e⟩
    obtain ⟨h1, h2⟩ := List.mem_filter.mp hx
    have h3 : a = r := by simpa using h2
    have h4 : b = v := e
    subst h3 h4
    exact h1
  · intro h
    exact ⟨(r, v), List.mem_filter.mpr ⟨h, by simp⟩, rfl⟩
theorem alw_nodup {s : Wm08.State} {r : Nat} (h : s.allowed.Nodup) : ((s.allowed.filter fun x => x.1 == r).map (·.2)).Nodup := by
  unfold List.Nodup at h ⊢
  rw [List.pairwise_map]
  have h' : (s.allowed.filter fun x => x.1 == r).Pairwise (· ≠ ·) := h.filter _
  refine List.Pairwise.imp_of_mem ?_ h'
  intro a b ha hb hne z
  have h1 : a.1 = r := by simpa using (List.mem_filter.mp ha).2
  have h2 : b.1 = r := by simpa using (List.mem_filter.mp hb).2
  apply hne
  cases a; cases b
  simp_all
theorem nodup_le {l : List Nat} (h : l.Nodup) (hs : ∀ v ∈ l, 1 ≤ v ∧ v ≤ 12) : l.length ≤ 12 := by
  have := nodup_sub h fun v hv => users12_mem.mpr (hs v hv)
  rw [users12_eq] at this
  exact this
where
  nodup_sub {l m : List Nat} (hn : l.Nodup) (hs : ∀ x ∈ l, x ∈ m) : l.length ≤ m.length := by
    induction l generalizing m with
    | nil => exact Nat.zero_le _
    | cons a l ih =>
      have hn' := List.nodup_cons.mp hn
      have ha : a ∈ m := hs a List.mem_cons_self
      have := ih (m := m.erase a) hn'.2 fun x hx => by
        have hne : x ≠ a := fun z => hn'.1 (z ▸ hx)
        exact (List.mem_erase_of_ne hne).mpr (hs x (List.mem_cons_of_mem _ hx))
      have h1 := List.length_erase_of_mem ha
      have h2 : 0 < m.length := List.length_pos_of_mem ha
      rw [List.length_cons]
      omega
theorem allow_sorted {s : Wm08.State} {k r : Nat} (g : Good s k) (ys : List Int) (hp : ys.Perm (((s.allowed.filter fun x => x.1 == r).map (·.2)).map fun (n : Nat) => (n : Int))) (hs : ys.Pairwise (· ≤ ·)) :
    ys = (users12.filter fun v => s.allowed.contains (r, v)).map fun (n : Nat) => (n : Int) := by
  have nd : (((s.allowed.filter fun x => x.1 == r).map (·.2)).map fun (n : Nat) => (n : Int)).Nodup := by
    have := alw_nodup (r := r) g.al
    unfold List.Nodup at this ⊢
    rw [List.pairwise_map]
    exact this.imp fun h z => h (by omega)
  refine sorted_eq (strict_of hs (hp.nodup_iff.mpr nd)) ?_ fun x => ?_
  · rw [List.pairwise_map]
    exact (users12_lt.filter _).imp fun h => by omega
  · rw [hp.mem_iff, List.mem_map, List.mem_map]
    constructor
    · rintro ⟨v, hv, e⟩
      have hm := alw_mem.mp hv
      refine ⟨v, List.mem_filter.mpr ⟨users12_mem.mpr (g.au (r, v) hm), ?_⟩, e⟩
      simpa using hm
    · rintro ⟨v, hv, e⟩
      have hm := (List.mem_filter.mp hv).2
      exact ⟨v, alw_mem.mpr (by simpa using hm), e⟩
end Gh
set_option Elab.async false
set_option linter.all false
set_option maxRecDepth 100000
set_option maxHeartbeats 4000000
namespace Gh
open PySem PySem.Spec PyProof.Rows L2
local macro_rules | `(tactic| walk_at "rd") => `(tactic| simp only [tRet, tSeq, tAsg, gName, tDrop, tIfS, tTest, tB, tAnd, tOr, tNot, tAndV, tOrV, tNotV, tCmp, t2I, tAdd, tSub, tMul, tIsN, tNotN, tC, tVar, tCons, tNil, tCall, tOp, tUn, tCB, tNext, tRetN, tIf, tFld, wipe, tYes, HO.ins.injEq, and_assoc, L2.start, List.map_cons, List.map_nil, List.length_cons, List.length_nil, List.cons_append, List.nil_append, List.append_nil, List.set_cons_zero, List.set_cons_succ, List.replicate, Nat.reduceAdd, Nat.reduceSub, Nat.zero_add, Nat.sub_self, List.getElem?_cons_zero, List.getElem?_cons_succ, Option.some.injEq, V.int.injEq, V.bl.injEq, V.ref.injEq, V.str.injEq, List.cons.injEq, reduceCtorEq, and_true, true_and, and_false, false_and, exists_eq_left, exists_eq_left', exists_eq_right, exists_eq_right', exists_and_left, exists_const, exists_false, exists_eq, if_true, if_false, Bool.false_eq_true, Bool.true_eq_false, cxK, andV, orV, andT, orT, deq, dle, dlt, Bool.not_true, Bool.not_false, decide_true, decide_false, ite_true, ite_false])
local macro_rules | `(tactic| k_call_by "rd" ($a, $bs,*)) => do { let cs := bs.getElems; `(tactic| simp only [$a:term, $[$cs:term],*, tRet, tSeq, tAsg, gName, tDrop, tIfS, tTest, tB, tAnd, tOr, tNot, tAndV, tOrV, tNotV, tCmp, t2I, tAdd, tSub, tMul, tIsN, tNotN, tC, tVar, tCons, tNil, tCall, tOp, tUn, tCB, tNext, tRetN, tIf, tFld, wipe, tYes, HO.ins.injEq, and_assoc, L2.start, List.map_cons, List.map_nil, List.length_cons, List.length_nil, List.cons_append, List.nil_append, List.append_nil, List.set_cons_zero, List.set_cons_succ, List.replicate, Nat.reduceAdd, Nat.reduceSub, Nat.zero_add, Nat.sub_self, List.getElem?_cons_zero, List.getElem?_cons_succ, Option.some.injEq, V.int.injEq, V.bl.injEq, V.ref.injEq, V.str.injEq, List.cons.injEq, reduceCtorEq, and_true, true_and, and_false, false_and, exists_eq_left, exists_eq_left', exists_eq_right, exists_eq_right', exists_and_left, exists_const, exists_false, exists_eq, if_true, if_false, Bool.false_eq_true, Bool.true_eq_false, cxK, andV, orV, andT, orT, deq, dle, dlt, Bool.not_true, Bool.not_false, decide_true, decide_false, ite_true, ite_false]) }
section
variable {P : Program} {w : World} {K : PySem.W.Frag} {mg : Str → Option Value} {base : Heap}
/-! ### the house's places differ -/
structure Ad.Ne (d : Ad) : Prop where
  hg : d.h ≠ d.g
  ht : d.h ≠ d.t
  hp : d.h ≠ d.p
  hq : d.h ≠ d.q
  ha : d.h ≠ d.a
  hi : ∀ r, Wm01.isRight r = true → d.h ≠ d.i r
  gt : d.g ≠ d.t
  gp : d.g ≠ d.p
  gq : d.g ≠ d.q
  ga : d.g ≠ d.a
  gi : ∀ r, Wm01.isRight r = true → d.g ≠ d.i r
  tp : d.t ≠ d.p
  tq : d.t ≠ d.q
  ta : d.t ≠ d.a
  ti : ∀ r, Wm01.isRight r = true → d.t ≠ d.i r
  pq : d.p ≠ d.q
  pa : d.p ≠ d.a
  pi : ∀ r, Wm01.isRight r = true → d.p ≠ d.i r
  qa : d.q ≠ d.a
  qi : ∀ r, Wm01.isRight r = true → d.q ≠ d.i r
  ai : ∀ r, Wm01.isRight r = true → d.a ≠ d.i r
  ii : ∀ r x, Wm01.isRight r = true → Wm01.isRight x = true → r ≠ x → d.i r ≠ d.i x
theorem all4 {p : Nat → Prop} (h1 : p 1) (h2 : p 2) (h3 : p 3) (h4 : p 4) : ∀ r, Wm01.isRight r = true → p r := fun r hr => by
  rcases door4 hr with e | e | e | e <;> subst e <;> assumption
theorem Ad.ne {d : Ad} (nd : d.M0.Nodup) : d.Ne := by
  unfold Ad.M0 at nd
  simp only [List.nodup_cons, List.mem_cons, List.not_mem_nil, or_false, not_or, List.nodup_nil, and_true, not_false_eq_true] at nd
  obtain ⟨⟨a1, a2, a3, a4, a5, a6, a7, a8, a9⟩, ⟨b1, b2, b3, b4, b5, b6, b7, b8⟩, ⟨c1, c2, c3, c4, c5, c6, c7⟩, ⟨d1, d2, d3, d4, d5, d6⟩, ⟨e1, e2, e3, e4, e5⟩, ⟨f1, f2, f3, f4⟩, ⟨g1, g2, g3⟩, ⟨k1, k2⟩, m1⟩ := nd
  refine ⟨a1, a2, a3, a4, a5, all4 a6 a7 a8 a9, b1, b2, b3, b4, all4 b5 b6 b7 b8, c1, c2, c3, all4 c4 c5 c6 c7, d1, d2, all4 d3 d4 d5 d6, e1, all4 e2 e3 e4 e5, all4 f1 f2 f3 f4, fun r x hr hx hne => ?_⟩
  rcases door4 hr with e | e | e | e <;> rcases door4 hx with z | z | z | z <;> subst e <;> subst z <;> first | exact absurd rfl hne | assumption | (apply Ne.symm; assumption)
theorem HsAt.ne {H : Hp} {d : Ad} {s : Wm08.State} (h : HsAt K H d s) : d.Ne := Ad.ne h.nd
theorem Ad.mh (d : Ad) : d.h ∈ d.M0 := by simp [Ad.M0]
theorem Ad.mgr (d : Ad) : d.g ∈ d.M0 := by simp [Ad.M0]
theorem Ad.mt (d : Ad) : d.t ∈ d.M0 := by simp [Ad.M0]
theorem Ad.mp (d : Ad) : d.p ∈ d.M0 := by simp [Ad.M0]
theorem Ad.mq (d : Ad) : d.q ∈ d.M0 := by simp [Ad.M0]
theorem Ad.ma (d : Ad) : d.a ∈ d.M0 := by simp [Ad.M0]
/-! ### what a doing leaves -/
theorem HsAt.setG {H : Hp} {d : Ad} {s : Wm08.State} {xs : List V} {gs : List Wm01.Grant} (h : HsAt K H d s) (hx : Paired (GrV K (less H d.M)) xs gs) : HsAt K (upd H d.g (.lst xs)) d { s with grants := gs } := by
  have n := h.ne
  have e := less_upd (H := H) (o := .lst xs) (d.sub d.mgr)
  obtain ⟨ts, t1, t2⟩ := h.tk
  obtain ⟨f, p1, p2⟩ := h.po
  refine ⟨h.nd, fun b hb => ⟨(h.ap b hb).1, by rw [upd_ne (fun z => (h.ap b hb).1 (by rw [z]; exact d.mgr))]; exact (h.ap b hb).2⟩, ?_, ⟨xs, upd_same, by rw [e]; exact hx⟩, ⟨ts, ?_, by rw [e]; exact t2⟩, ⟨f, ?_, by rw [e]; exact p2⟩, ?_, ?_, fun r hr => ?_⟩
  · rw [upd_ne n.hg]; exact h.hh
  · rw [upd_ne n.gt.symm]; exact t1
  · rw [upd_ne n.gp.symm]; exact p1
  · rw [upd_ne n.gq.symm]; exact h.qu
  · rw [upd_ne n.ga.symm]; exact h.al
  · rw [upd_ne (n.gi r hr).symm]; exact h.in_ r hr
theorem HsAt.setT {H : Hp} {d : Ad} {s : Wm08.State} {xs : List (Key × V)} {l : List Wm08.Tick} (h : HsAt K H d s) (hx : Paired (TkE K (less H d.M)) xs l) : HsAt K (upd H d.t (.dK xs)) d { s with tickets := l } := by
  have n := h.ne
  have e := less_upd (H := H) (o := .dK xs) (d.sub d.mt)
  obtain ⟨ts, t1, t2⟩ := h.gr
  obtain ⟨f, p1, p2⟩ := h.po
  refine ⟨h.nd, fun b hb => ⟨(h.ap b hb).1, by rw [upd_ne (fun z => (h.ap b hb).1 (by rw [z]; exact d.mt))]; exact (h.ap b hb).2⟩, ?_, ⟨ts, ?_, by rw [e]; exact t2⟩, ⟨xs, upd_same, by rw [e]; exact hx⟩, ⟨f, ?_, by rw [e]; exact p2⟩, ?_, ?_, fun r hr => ?_⟩
  · rw [upd_ne n.ht]; exact h.hh
  · rw [upd_ne n.gt]; exact t1
  · rw [upd_ne n.tp.symm]; exact p1
  · rw [upd_ne n.tq.symm]; exact h.qu
  · rw [upd_ne n.ta.symm]; exact h.al
  · rw [upd_ne (n.ti r hr).symm]; exact h.in_ r hr
theorem HsAt.setP {H : Hp} {d : Ad} {s : Wm08.State} {f : Nat → V} {l : List (Nat × List Nat)} (h : HsAt K H d s) (hx : ∀ r, Wm01.isRight r = true → PlV (less H d.M) (f r) (polOf { s with policies := l } r)) : HsAt K (upd H d.p (.dK (dKD f))) d { s with policies := l } := by
  have n := h.ne
  have e := less_upd (H := H) (o := .dK (dKD f)) (d.sub d.mp)
  obtain ⟨ts, t1, t2⟩ := h.gr
  obtain ⟨us, u1, u2⟩ := h.tk
  refine ⟨h.nd, fun b hb => ⟨(h.ap b hb).1, by rw [upd_ne (fun z => (h.ap b hb).1 (by rw [z]; exact d.mp))]; exact (h.ap b hb).2⟩, ?_, ⟨ts, ?_, by rw [e]; exact t2⟩, ⟨us, ?_, by rw [e]; exact u2⟩, ⟨f, upd_same, by rw [e]; exact hx⟩, ?_, ?_, fun r hr => ?_⟩
  · rw [upd_ne n.hp]; exact h.hh
  · rw [upd_ne n.gp]; exact t1
  · rw [upd_ne n.tp]; exact u1
  · rw [upd_ne n.pq.symm]; exact h.qu
  · rw [upd_ne n.pa.symm]; exact h.al
  · rw [upd_ne (n.pi r hr).symm]; exact h.in_ r hr
theorem HsAt.setQ {H : Hp} {d : Ad} {s : Wm08.State} {f : Nat → V} {l : List (Nat × Nat)} (h : HsAt K H d s) (hx : ∀ r, Wm01.isRight r = true → f r = .int (Wm08.quorum { s with quorums := l } r)) : HsAt K (upd H d.q (.dK (dKD f))) d { s with quorums := l } := by
  have n := h.ne
  have e := less_upd (H := H) (o := .dK (dKD f)) (d.sub d.mq)
  obtain ⟨ts, t1, t2⟩ := h.gr
  obtain ⟨us, u1, u2⟩ := h.tk
  obtain ⟨g, p1, p2⟩ := h.po
  refine ⟨h.nd, fun b hb => ⟨(h.ap b hb).1, by rw [upd_ne (fun z => (h.ap b hb).1 (by rw [z]; exact d.mq))]; exact (h.ap b hb).2⟩, ?_, ⟨ts, ?_, by rw [e]; exact t2⟩, ⟨us, ?_, by rw [e]; exact u2⟩, ⟨g, ?_, by rw [e]; exact p2⟩, ?_, ?_, fun r hr => ?_⟩
  · rw [upd_ne n.hq]; exact h.hh
  · rw [upd_ne n.gq]; exact t1
  · rw [upd_ne n.tq]; exact u1
  · rw [upd_ne n.pq]; exact p1
  · rw [upd_same, dKD_congr hx]
  · rw [upd_ne n.qa.symm]; exact h.al
  · rw [upd_ne (n.qi r hr).symm]; exact h.in_ r hr
theorem HsAt.setI {H : Hp} {d : Ad} {s : Wm08.State} {l : List (Nat × Nat)} {r : Nat} {es : List (Key × V)} (h : HsAt K H d s) (hr : Wm01.isRight r = true) (he : es = (alw { s with allowed := l } r).map ent) (hx : ∀ x, x ≠ r → alw { s with allowed := l } x = alw s x) : HsAt K (upd H (d.i r) (.dK es)) d { s with allowed := l } := by
  have n := h.ne
  have e := less_upd (H := H) (o := .dK es) (d.sub (d.mem_i hr))
  obtain ⟨ts, t1, t2⟩ := h.gr
  obtain ⟨us, u1, u2⟩ := h.tk
  obtain ⟨g, p1, p2⟩ := h.po
  refine ⟨h.nd, fun b hb => ⟨(h.ap b hb).1, by rw [upd_ne (fun z => (h.ap b hb).1 (by rw [z]; exact d.mem_i hr))]; exact (h.ap b hb).2⟩, ?_, ⟨ts, ?_, by rw [e]; exact t2⟩, ⟨us, ?_, by rw [e]; exact u2⟩, ⟨g, ?_, by rw [e]; exact p2⟩, ?_, ?_, fun x hr' => ?_⟩
  · rw [upd_ne (n.hi r hr)]; exact h.hh
  · rw [upd_ne (n.gi r hr)]; exact t1
  · rw [upd_ne (n.ti r hr)]; exact u1
  · rw [upd_ne (n.pi r hr)]; exact p1
  · rw [upd_ne (n.qi r hr)]; exact h.qu
  · rw [upd_ne (n.ai r hr)]; exact h.al
  · by_cases z : x = r
    · subst z
      rw [upd_same, he]
    · rw [upd_ne (n.ii x r hr' hr z), hx x z]
      exact h.in_ x hr'
/-- a new list of grants -/
theorem HsAt.newG {H H1 : Hp} {d : Ad} {s : Wm08.State} {g : Addr} {ys : List V} {gs : List Wm01.Grant} (h : HsAt K H d s) (s1 : Same H H1) (hg : H g = none) (hy : H1 g = some (.lst ys)) (hp : Paired (GrV K H1) ys gs) :
    let H' := upd H1 d.h (.ins (He.ga K "House") d.hx (hF (.ref g) (.ref d.t) (.ref d.p) (.ref d.q) (.ref d.a)))
    let d' : Ad := { d with g := g }
    HsAt K H' d' { s with grants := gs } ∧ Kept d.M0 H H' ∧ ∀ b ∈ d'.M0, b ∈ d.M0 ∨ H b = none := by
  intro H' d'
  have n := h.ne
  have hf : g ∉ d.M0 := fun z => h.fresh hg (d.sub z)
  have kp : Kept d.M0 H H' := kept_upd2 (Kept.of s1) d.mh
  have hM : ∀ b ∈ d'.M0, b ∈ d.M0 ∨ H b = none := fun b hb => by
    have hb : b ∈ [d.h, g, d.t, d.p, d.q, d.a, d.i 1, d.i 2, d.i 3, d.i 4] := hb
    by_cases z : b = g
    · exact .inr (by rw [z]; exact hg)
    · left
      unfold Ad.M0
      simp only [List.mem_cons, List.not_mem_nil, or_false] at hb ⊢
      rcases hb with e | e | e | e | e | e | e | e | e | e
      · exact .inl e
      · exact absurd e z
      all_goals (simp [e])
  have hMf : ∀ b ∈ d'.M, b ∈ d.M ∨ H b = none := fun b hb => by
    rcases List.mem_append.mp hb with z | z
    · rcases hM b z with y | y
      · exact .inl (d.sub y)
      · exact .inr y
    · exact .inl (List.mem_append_right _ z)
  have sl := less_step (M := d.M) (fun b o e hb => kp b o e fun m => hb (d.sub m)) hMf
  have hs1 := h.same s1
  obtain ⟨us, u1, u2⟩ := h.tk
  obtain ⟨f, p1, p2⟩ := h.po
  have ne : ∀ b, b ∈ d.M0 → b ≠ g := fun b hb z => hf (by rw [← z]; exact hb)
  have nd' : d'.M0.Nodup := by
    have nd := h.nd
    unfold Ad.M0 at hf
    simp only [List.mem_cons, List.not_mem_nil, or_false, not_or] at hf
    show [d.h, g, d.t, d.p, d.q, d.a, d.i 1, d.i 2, d.i 3, d.i 4].Nodup
    unfold Ad.M0 at nd
    simp only [List.nodup_cons, List.mem_cons, List.not_mem_nil, or_false, not_or, List.nodup_nil, and_true, not_false_eq_true] at nd ⊢
    obtain ⟨f0, f1, f2, f3, f4, f5, f6, f7, f8, f9⟩ := hf
    exact ⟨⟨Ne.symm f0, nd.1.2⟩, ⟨f2, f3, f4, f5, f6, f7, f8, f9⟩, nd.2.2⟩
  have at_ : ∀ b o, b ≠ d.h → H b = some o → H' b = some o := fun b o hb e => by
    show upd H1 d.h _ b = _
    rw [upd_ne hb]; exact s1 b o e
  have ap' : ∀ b ∈ d'.n, b ∉ d'.M0 ∧ ∃ o, H' b = some o ∧ Okn o := fun b hb => by
    obtain ⟨h1, o, h2, h3⟩ := h.ap b hb
    refine ⟨fun z => ?_, o, at_ b o (fun z => h1 (by rw [z]; exact d.mh)) h2, h3⟩
    rcases hM b z with y | y
    · exact h1 y
    · rw [y] at h2; cases h2
  have gh : g ≠ d.h := fun z => hf (by rw [z]; exact d.mh)
  have hg' : H' g = some (.lst ys) := by
    show upd H1 d.h _ g = _
    rw [upd_ne gh]; exact hy
  have e_t := at_ _ _ n.ht.symm u1
  have e_p := at_ _ _ n.hp.symm p1
  have e_q := at_ _ _ n.hq.symm h.qu
  have e_a := at_ _ _ n.ha.symm h.al
  have e_i := fun r hr => at_ _ _ (n.hi r hr).symm (h.in_ r hr)
  have there : ∀ b ∈ d'.M, ∃ o, H' b = some o ∧ MutK o := fun b hb => by
    rcases List.mem_append.mp hb with hb | hb
    · have hb : b ∈ [d.h, g, d.t, d.p, d.q, d.a, d.i 1, d.i 2, d.i 3, d.i 4] := hb
      simp only [List.mem_cons, List.not_mem_nil, or_false] at hb
      rcases hb with e | e | e | e | e | e | e | e | e | e <;> subst e
      · exact ⟨_, upd_same, .inl ⟨_, _, _, _, _, _, _, rfl⟩⟩
      · exact ⟨_, hg', .inr (.inr (.inl ⟨_, rfl⟩))⟩
      · exact ⟨_, e_t, .inr (.inl ⟨_, rfl⟩)⟩
      · exact ⟨_, e_p, .inr (.inl ⟨_, rfl⟩)⟩
      · exact ⟨_, e_q, .inr (.inl ⟨_, rfl⟩)⟩
      · exact ⟨_, e_a, .inr (.inl ⟨_, rfl⟩)⟩
      · exact ⟨_, e_i 1 rfl, .inr (.inl ⟨_, rfl⟩)⟩
      · exact ⟨_, e_i 2 rfl, .inr (.inl ⟨_, rfl⟩)⟩
      · exact ⟨_, e_i 3 rfl, .inr (.inl ⟨_, rfl⟩)⟩
      · exact ⟨_, e_i 4 rfl, .inr (.inl ⟨_, rfl⟩)⟩
    · obtain ⟨_, o, h1, h2⟩ := ap' b hb
      exact ⟨o, h1, .inr (.inr h2)⟩
  refine ⟨⟨nd', ap', upd_same, ⟨ys, hg', pr_imp hp fun v x z => gr_less there ?_⟩, ⟨us, e_t, tks_mono sl u2⟩, ⟨f, e_p, fun r hr => (p2 r hr).mono sl⟩, e_q, e_a, e_i⟩, kp, hM⟩
  obtain ⟨b, e, dx, hb⟩ := z
  refine ⟨b, e, dx, ?_⟩
  show upd H1 d.h _ b = _
  have nb : b ≠ d.h := fun z => by
    rw [z, hs1.hh] at hb
    exact gF_hF (HO.ins.inj (Option.some.inj hb)).2.2.symm
  rw [upd_ne nb]; exact hb
/-- nobody has allowed the next opening -/
theorem HsAt.newI {H : Hp} {d : Ad} {s t : Wm08.State} {r : Nat} {m : Addr} (h : HsAt K H d s) (hr : Wm01.isRight r = true) (hm : H m = none) (ht : t.grants = s.grants ∧ t.policies = s.policies ∧ t.quorums = s.quorums ∧ t.tickets = s.tickets) (h0 : alw t r = []) (hx : ∀ x, x ≠ r → alw t x = alw s x) :
    let H' := upd (upd H m (.dK [])) d.a (.dK (dKD fun x => if x = r then .ref m else .ref (d.i x)))
    let d' : Ad := { d with i := fun x => if x = r then m else d.i x }
    HsAt K H' d' t ∧ Kept d.M0 H H' ∧ ∀ b ∈ d'.M0, b ∈ d.M0 ∨ H b = none := by
  intro H' d'
  have n := h.ne
  have hf : m ∉ d.M0 := fun z => h.fresh hm (d.sub z)
  have kp : Kept d.M0 H H' := kept_upd2 (Kept.of (same_upd hm)) d.ma
  have hi : ∀ x, d'.i x = m ∨ d'.i x = d.i x := fun x => by
    show (if x = r then m else d.i x) = m ∨ (if x = r then m else d.i x) = d.i x
    by_cases z : x = r
    · exact .inl (if_pos z)
    · exact .inr (if_neg z)
  have hM : ∀ b ∈ d'.M0, b ∈ d.M0 ∨ H b = none := fun b hb => by
    have hb : b ∈ [d.h, d.g, d.t, d.p, d.q, d.a, d'.i 1, d'.i 2, d'.i 3, d'.i 4] := hb
    have hi' : ∀ x, Wm01.isRight x = true → b = d'.i x → b ∈ d.M0 ∨ H b = none := fun x hx e => by
      rcases hi x with z | z
      · right; rw [e, z]; exact hm
      · left; rw [e, z]; exact d.mem_i hx
    simp only [List.mem_cons, List.not_mem_nil, or_false] at hb
    rcases hb with e | e | e | e | e | e | e | e | e | e
    · left; rw [e]; exact d.mh
    · left; rw [e]; exact d.mgr
    · left; rw [e]; exact d.mt
    · left; rw [e]; exact d.mp
    · left; rw [e]; exact d.mq
    · left; rw [e]; exact d.ma
    · exact hi' 1 rfl e
    · exact hi' 2 rfl e
    · exact hi' 3 rfl e
    · exact hi' 4 rfl e
  have hMf : ∀ b ∈ d'.M, b ∈ d.M ∨ H b = none := fun b hb => by
    rcases List.mem_append.mp hb with z | z
    · rcases hM b z with y | y
      · exact .inl (d.sub y)
      · exact .inr y
    · exact .inl (List.mem_append_right _ z)
  have sl := less_step (M := d.M) (fun b o e hb => kp b o e fun m => hb (d.sub m)) hMf
  obtain ⟨gs, g1, g2⟩ := h.gr
  obtain ⟨us, u1, u2⟩ := h.tk
  obtain ⟨f, p1, p2⟩ := h.po
  have ne : ∀ b, b ∈ d.M0 → b ≠ m := fun b hb z => hf (by rw [← z]; exact hb)
  have ni : ∀ b, (∀ x, Wm01.isRight x = true → b ≠ d.i x) → b ∈ d.M0 → ∀ x, Wm01.isRight x = true → b ≠ d'.i x := fun b hb hbm x hx => by
    rcases hi x with z | z
    · rw [z]; exact ne b hbm
    · rw [z]; exact hb x hx
  have ii : ∀ x y, Wm01.isRight x = true → Wm01.isRight y = true → x ≠ y → d'.i x ≠ d'.i y := fun x y h1 h2 hne => by
    show (if x = r then m else d.i x) ≠ (if y = r then m else d.i y)
    by_cases z : x = r
    · rw [if_pos z, if_neg (fun z' => hne (z.trans z'.symm))]
      exact (ne _ (d.mem_i h2)).symm
    · rw [if_neg z]
      by_cases z' : y = r
      · rw [if_pos z']; exact ne _ (d.mem_i h1)
      · rw [if_neg z']; exact n.ii x y h1 h2 hne
  have nd' : d'.M0.Nodup := by
    show [d.h, d.g, d.t, d.p, d.q, d.a, d'.i 1, d'.i 2, d'.i 3, d'.i 4].Nodup
    simp only [List.nodup_cons, List.mem_cons, List.not_mem_nil, or_false, not_or, List.nodup_nil, and_true, not_false_eq_true]
    have fh := ni d.h n.hi d.mh
    have fg := ni d.g n.gi d.mgr
    have ft := ni d.t n.ti d.mt
    have fp := ni d.p n.pi d.mp
    have fq := ni d.q n.qi d.mq
    have fa := ni d.a n.ai d.ma
    exact ⟨⟨n.hg, n.ht, n.hp, n.hq, n.ha, fh 1 rfl, fh 2 rfl, fh 3 rfl, fh 4 rfl⟩, ⟨n.gt, n.gp, n.gq, n.ga, fg 1 rfl, fg 2 rfl, fg 3 rfl, fg 4 rfl⟩, ⟨n.tp, n.tq, n.ta, ft 1 rfl, ft 2 rfl, ft 3 rfl, ft 4 rfl⟩,
      ⟨n.pq, n.pa, fp 1 rfl, fp 2 rfl, fp 3 rfl, fp 4 rfl⟩, ⟨n.qa, fq 1 rfl, fq 2 rfl, fq 3 rfl, fq 4 rfl⟩, ⟨fa 1 rfl, fa 2 rfl, fa 3 rfl, fa 4 rfl⟩,
      ⟨ii 1 2 rfl rfl (by decide), ii 1 3 rfl rfl (by decide), ii 1 4 rfl rfl (by decide)⟩, ⟨ii 2 3 rfl rfl (by decide), ii 2 4 rfl rfl (by decide)⟩, ii 3 4 rfl rfl (by decide)⟩
  have at_ : ∀ b o, b ≠ d.a → H b = some o → H' b = some o := fun b o hb e => by
    show upd (upd H m _) d.a _ b = _
    rw [upd_ne hb, upd_ne (ne_of_none e hm)]; exact e
  have ap' : ∀ b ∈ d'.n, b ∉ d'.M0 ∧ ∃ o, H' b = some o ∧ Okn o := fun b hb => by
    obtain ⟨h1, o, h2, h3⟩ := h.ap b hb
    refine ⟨fun z => ?_, o, at_ b o (fun z => h1 (by rw [z]; exact d.ma)) h2, h3⟩
    rcases hM b z with y | y
    · exact h1 y
    · rw [y] at h2; cases h2
  refine ⟨⟨nd', ap', at_ _ _ n.ha h.hh, ⟨gs, at_ _ _ n.ga g1, ?_⟩, ⟨us, at_ _ _ n.ta u1, ?_⟩, ⟨f, at_ _ _ n.pa p1, fun x hx => ?_⟩, ?_, ?_, fun x hx' => ?_⟩, kp, hM⟩
  · rw [ht.1]; exact grs_mono sl g2
  · rw [ht.2.2.2]; exact tks_mono sl u2
  · have := (p2 x hx).mono sl
    unfold polOf at this ⊢
    rw [ht.2.1]
    exact this
  · have e : (fun r => V.int (Wm08.quorum t r)) = fun r => V.int (Wm08.quorum s r) := by
      funext x
      unfold Wm08.quorum
      rw [ht.2.2.1]
    rw [e]
    exact at_ _ _ n.qa h.qu
  · show upd _ d.a _ d.a = _
    rw [upd_same]
    congr 3
    funext x
    show (if x = r then V.ref m else V.ref (d.i x)) = V.ref (if x = r then m else d.i x)
    split <;> rfl
  · by_cases z : x = r
    · subst z
      rw [h0]
      show upd _ d.a _ (if x = x then m else d.i x) = _
      rw [if_pos rfl, upd_ne (ne _ d.ma).symm]
      exact upd_same
    · rw [hx x z]
      show H' (if x = r then m else d.i x) = _
      rw [if_neg z]
      exact at_ _ _ (n.ai x hx').symm (h.in_ x hx')
end
end Gh
set_option Elab.async false
set_option linter.all false
set_option maxRecDepth 100000
set_option maxHeartbeats 4000000
namespace Gh
open PySem PySem.Spec PyProof.Rows L2
local macro_rules | `(tactic| walk_at "rd") => `(tactic| simp only [tRet, tSeq, tAsg, gName, tDrop, tIfS, tTest, tB, tAnd, tOr, tNot, tAndV, tOrV, tNotV, tCmp, t2I, tAdd, tSub, tMul, tIsN, tNotN, tC, tVar, tCons, tNil, tCall, tOp, tUn, tCB, tNext, tRetN, tIf, tFld, wipe, tYes, HO.ins.injEq, and_assoc, L2.start, List.map_cons, List.map_nil, List.length_cons, List.length_nil, List.cons_append, List.nil_append, List.append_nil, List.set_cons_zero, List.set_cons_succ, List.replicate, Nat.reduceAdd, Nat.reduceSub, Nat.zero_add, Nat.sub_self, List.getElem?_cons_zero, List.getElem?_cons_succ, Option.some.injEq, V.int.injEq, V.bl.injEq, V.ref.injEq, V.str.injEq, List.cons.injEq, reduceCtorEq, and_true, true_and, and_false, false_and, exists_eq_left, exists_eq_left', exists_eq_right, exists_eq_right', exists_and_left, exists_const, exists_false, exists_eq, if_true, if_false, Bool.false_eq_true, Bool.true_eq_false, cxK, andV, orV, andT, orT, deq, dle, dlt, Bool.not_true, Bool.not_false, decide_true, decide_false, ite_true, ite_false])
local macro_rules | `(tactic| k_call_by "rd" ($a, $bs,*)) => do { let cs := bs.getElems; `(tactic| simp only [$a:term, $[$cs:term],*, tRet, tSeq, tAsg, gName, tDrop, tIfS, tTest, tB, tAnd, tOr, tNot, tAndV, tOrV, tNotV, tCmp, t2I, tAdd, tSub, tMul, tIsN, tNotN, tC, tVar, tCons, tNil, tCall, tOp, tUn, tCB, tNext, tRetN, tIf, tFld, wipe, tYes, HO.ins.injEq, and_assoc, L2.start, List.map_cons, List.map_nil, List.length_cons, List.length_nil, List.cons_append, List.nil_append, List.append_nil, List.set_cons_zero, List.set_cons_succ, List.replicate, Nat.reduceAdd, Nat.reduceSub, Nat.zero_add, Nat.sub_self, List.getElem?_cons_zero, List.getElem?_cons_succ, Option.some.injEq, V.int.injEq, V.bl.injEq, V.ref.injEq, V.str.injEq, List.cons.injEq, reduceCtorEq, and_true, true_and, and_false, false_and, exists_eq_left, exists_eq_left', exists_eq_right, exists_eq_right', exists_and_left, exists_const, exists_false, exists_eq, if_true, if_false, Bool.false_eq_true, Bool.true_eq_false, cxK, andV, orV, andT, orT, deq, dle, dlt, Bool.not_true, Bool.not_false, decide_true, decide_false, ite_true, ite_false]) }
/-! ### heaps while a code is read: the reader at p and the ranges at r change, all else is new -/
theorem kept_tr {M : List Addr} {H H1 : Hp} (kp : Kept M H H1) (hM : ∀ b ∈ M, H1 b ≠ none) {b : Addr} (h : H1 b = none) : H b = none := by
  cases e : H b with
  | none => rfl
  | some o =>
    by_cases m : b ∈ M
    · exact absurd h (hM b m)
    · rw [kp b o e m] at h; cases h
theorem Kept.mono {M M' : List Addr} {H H' : Hp} (k : Kept M H H') (h : ∀ b ∈ M, b ∈ M') : Kept M' H H' := fun b o e hb => k b o e fun m => hb (h b m)
/-- new things stay where only old things change -/
theorem new_kept {M : List Addr} {H H1 H2 : Hp} (kp : Kept M H1 H2) (hM : ∀ b ∈ M, H b ≠ none) : Same (newOf H H1) (newOf H H2) := fun b o e => by
  obtain ⟨h1, h2⟩ := of_newOf e
  exact newOf_at h1 (kp b o h2 fun m => hM b m h1)
/-- new things of a later part -/
theorem new_later {M : List Addr} {H H1 H2 : Hp} (kp : Kept M H H1) (hM : ∀ b ∈ M, H1 b ≠ none) : Same (newOf H1 H2) (newOf H H2) := fun b o e => by
  obtain ⟨h1, h2⟩ := of_newOf e
  exact newOf_at (kept_tr kp hM h1) h2
/-- new things but the list at D -/
def newL (H H' : Hp) (D : Addr) : Hp := less (newOf H H') [D]
theorem newL_same {H H' : Hp} {D : Addr} : Same (newL H H' D) (newOf H H') := less_same
theorem newL_step {M : List Addr} {H H1 H2 : Hp} {D : Addr} (kp : Kept (D :: M) H1 H2) (hM : ∀ b ∈ M, H b ≠ none) : Same (newL H H1 D) (newL H H2 D) := fun b o e => by
  obtain ⟨h1, h2⟩ := of_less e
  obtain ⟨h3, h4⟩ := of_newOf h2
  refine less_at h1 (newOf_at h3 (kp b o h4 fun m => ?_))
  rcases List.mem_cons.mp m with z | z
  · exact h1 (by rw [z]; exact List.mem_cons_self)
  · exact hM b z h3
theorem newL_new {M : List Addr} {H H1 H2 : Hp} {D : Addr} (kp : Kept M H H1) (hM : ∀ b ∈ M, H1 b ≠ none) (hD : H1 D ≠ none) : Same (newOf H1 H2) (newL H H2 D) := fun b o e => by
  obtain ⟨h1, h2⟩ := of_newOf e
  refine less_at ?_ (newOf_at (kept_tr kp hM h1) h2)
  intro m
  have : b = D := by simpa using m
  exact hD (this ▸ h1)
section
variable {P : Program} {w : World} {K : PySem.W.Frag} {mg : Str → Option Value} {base : Heap}
def IsBad (K : PySem.W.Frag) (cls : Value) : Prop := cls = .ref (He.ga K "TooFew") ∨ cls = .ref (He.ga K "BadCode")
def Fails (K : PySem.W.Frag) (E : XK) (M : List Addr) (H : Hp) : Prop := ∀ cls H', IsBad K cls → Kept M H H' → E cls none H'
theorem Fails.later {E : XK} {M : List Addr} {H H1 : Hp} (f : Fails K E M H) (k : Kept M H H1) : Fails K E M H1 := fun cls H' b k' => f cls H' b (k.trans k')
def spCheck (K : PySem.W.Frag) : Sp := fun vs H Q E => ∃ b : Bool, vs = [.bl b] ∧ (b = true → Q .non H) ∧ (b = false → E (.ref (He.ga K "BadCode")) none H)
theorem chk_and {c b : Bool} {H : Hp} {Q : VK} {E : XK} : (if c = true then spCheck K [V.bl b] H Q E else spCheck K [V.bl false] H Q E) = spCheck K [V.bl (c && b)] H Q E := by cases c <;> simp
theorem chk_or {c b : Bool} {H : Hp} {Q : VK} {E : XK} : (if c = true then spCheck K [V.bl true] H Q E else spCheck K [V.bl b] H Q E) = spCheck K [V.bl (c || b)] H Q E := by cases c <;> simp
theorem cl_check (T : TX K mg) : Cl P w K mg base (L2N.CX P w) "check" 1 ["fits"] (spCheck K) := by
  refine cl_of (d := d_check) T.g_check T.u_check sc_check b_check (fun vs H Q E h => ?_) (fun cdv A outer s H vs Q E hr h => ⟨_, (pss_one (ps_if (pt_not (pt_val (pv 0))) (pss_one (L2N.ps_raise rfl (L2N.takes_of rfl rfl rfl rfl) (L2N.pmk_own PySem.F.excBase_ValueError (T.x_BadCode).1 T.g_BadCode (T.x_BadCode).2.1 (raises_own (T.x_BadCode).2.2.1 (T.x_BadCode).2.2.2) (by exact rfl)))) pss_nil)), ?_⟩)
  · obtain ⟨b, rfl, _⟩ := h
    rfl
  · obtain ⟨b, rfl, q, qe⟩ := h
    walk_at "rd"
    cases b with
    | true => exact if_false_of rfl (q rfl)
    | false => exact if_true_of rfl (qe rfl)
theorem dle9 (n : Nat) : decide ((n : Int) ≤ 9) = decide (n ≤ 9) := dle n 9
theorem dle1000 (n : Nat) : decide ((n : Int) ≤ 1000) = decide (n ≤ 1000) := dle n 1000
def spCheckHolder (K : PySem.W.Frag) : Sp := fun vs H Q E => ∃ d : Nat, vs = [.int d] ∧ (d ≤ 9 → Q .non H) ∧ (9 < d → E (.ref (He.ga K "BadCode")) none H)
theorem cl_check_holder (T : TX K mg) : Cl P w K mg base (L2N.CX P w) "check_holder" 2 ["depth"] (spCheckHolder K) := by
  have c_check : Cl P w K mg base (L2N.CX P w) "check" 1 ["fits"] (spCheck K) := cl_check T
  refine cl_of (d := d_check_holder) T.g_check_holder T.u_check_holder sc_check_holder b_check_holder (fun vs H Q E h => ?_) (fun cdv A outer s H vs Q E hr h => ⟨_, (pss_one (ps_expr (pe_c c_check (hr.mono (by omega)) (L2N.passes_call (L2N.takes_of rfl rfl rfl rfl) fun _ _ _ _ h => h) (pa_cons (pe_cmp (pc_le (pv 0) (pe_gi T.i_MOST_HOLDER_DEPTH)) rfl) pa_nil)))), ?_⟩)
  · obtain ⟨b, rfl, _⟩ := h
    rfl
  · obtain ⟨d, rfl, q, qe⟩ := h
    k_call_by "rd" (dle9, dle9)
    refine ⟨_, rfl, fun e => q (of_decide_eq_true e), fun e => qe ?_⟩
    have := of_decide_eq_false e
    omega
abbrev Rg := Nat × Nat × Nat
def RgV (H : Hp) (y : V) (t : Rg) : Prop := ∃ a, y = .ref a ∧ H a = some (.tup [.int 1, .int t.1, .int t.2.1, .int t.2.2])
theorem RgV.mono {H H' : Hp} {y : V} {t : Rg} (s : Same H H') (h : RgV H y t) : RgV H' y t := by
  obtain ⟨a, e, h⟩ := h
  exact ⟨a, e, s _ _ h⟩
theorem RgV.kept {M : List Addr} {H H' : Hp} {y : V} {t : Rg} (k : Kept M H H') (hM : ∀ b ∈ M, ∀ o, H b = some o → ∀ xs, o ≠ .tup xs) (h : RgV H y t) : RgV H' y t := by
  obtain ⟨a, e, h⟩ := h
  exact ⟨a, e, k _ _ h fun m => hM a m _ h _ rfl⟩
/-- the reader and the ranges, ahead of the numbers from place i on -/
structure Rdg (K : PySem.W.Frag) (H : Hp) (p l r : Addr) (i : Nat) (ns : List Nat) (rs : List Rg) : Prop where
  rd : RdAt K H p l i
  sq : SqL K H l (nats ns)
  rg : ∃ xs, H r = some (.lst xs) ∧ Paired (RgV H) xs rs
  few : ns.length ≤ 200
  nlr : l ≠ r
  more : rs.length ≤ i
  small : ∀ n ∈ ns, n < 2 ^ 60
section
variable {H H' : Hp} {p l r : Addr} {i : Nat} {ns : List Nat} {rs : List Rg}
theorem Rdg.tr (h : Rdg K H p l r i ns rs) : ∀ b ∈ [p, r], H b ≠ none := by
  obtain ⟨dx, hp⟩ := h.rd
  obtain ⟨xs, hr, _⟩ := h.rg
  intro b hb
  rcases List.mem_cons.mp hb with e | e
  · rw [e, hp]; intro z; cases z
  · have : b = r := by simpa using e
    rw [this, hr]; intro z; cases z
theorem Rdg.notup (h : Rdg K H p l r i ns rs) : ∀ b ∈ [p, r], ∀ o, H b = some o → ∀ xs, o ≠ .tup xs := by
  obtain ⟨dx, hp⟩ := h.rd
  obtain ⟨xs, hr, _⟩ := h.rg
  intro b hb o e xs z
  subst z
  rcases List.mem_cons.mp hb with e' | e'
  · rw [e', hp] at e; cases e
  · have : b = r := by simpa using e'
    rw [this, hr] at e; cases e
theorem Rdg.pr (h : Rdg K H p l r i ns rs) : p ≠ r := by
  obtain ⟨dx, hp⟩ := h.rd
  obtain ⟨xs, hr, _⟩ := h.rg
  exact ne_of hp hr (by intro z; cases z)
/-- behind a step of the reader -/
theorem Rdg.step {j : Nat} (h : Rdg K H p l r i ns rs) (k : Kept [p] H H') (hr : RdAt K H' p l j) (hj : i ≤ j) : Rdg K H' p l r j ns rs := by
  obtain ⟨dx, hp⟩ := h.rd
  obtain ⟨xs, hx, hxs⟩ := h.rg
  refine ⟨hr, seq_kept hp k h.sq, ⟨xs, k _ _ hx (by simpa using (Ne.symm h.pr)), pr_imp hxs fun y t z => z.kept k fun b hb => h.notup b (by rw [show b = p by simpa using hb]; exact List.mem_cons_self)⟩, h.few, h.nlr, Nat.le_trans h.more hj, h.small⟩
/-- behind new things -/
theorem Rdg.same (h : Rdg K H p l r i ns rs) (s : Same H H') : Rdg K H' p l r i ns rs := by
  obtain ⟨dx, hp⟩ := h.rd
  obtain ⟨xs, hx, hxs⟩ := h.rg
  exact ⟨⟨dx, s _ _ hp⟩, s.seq h.sq, ⟨xs, s _ _ hx, pr_imp hxs fun y t z => z.mono s⟩, h.few, h.nlr, h.more, h.small⟩
end
theorem drop_cons {ns : List Nat} {i n : Nat} {r : List Nat} (h : ns.drop i = n :: r) : ns[i]? = some n ∧ ns.drop (i + 1) = r := by
  have h1 : (ns.drop i)[0]? = some n := by rw [h]; rfl
  rw [List.getElem?_drop] at h1
  refine ⟨h1, ?_⟩
  rw [← List.drop_drop, h]
  rfl
theorem drop_nil {ns : List Nat} {i : Nat} (h : ns.drop i = []) : ns.length ≤ i := List.drop_eq_nil_iff.mp h
/-- take, within a code -/
theorem take_in {H : Hp} {p l r : Addr} {i : Nat} {ns : List Nat} {rs : List Rg} {Q : VK} {E : XK} {M : List Addr} (h : Rdg K H p l r i ns rs) (f : ns.drop i = [] → Fails K E M H)
    (q : ∀ n rest H', ns.drop i = n :: rest → Kept [p] H H' → Rdg K H' p l r (i + 1) ns rs → ns.drop (i + 1) = rest → Q (.int n) H') : spTake K [.ref p] H Q E := by
  refine ⟨p, l, i, ns, rfl, h.rd, h.sq, fun n hn H' k hr => ?_, fun z => f (List.drop_eq_nil_iff.mpr z) _ _ (.inl rfl) fun b o e _ => e⟩
  obtain ⟨hlt, e⟩ := List.getElem?_eq_some_iff.mp hn
  refine q n (ns.drop (i + 1)) H' ?_ k (h.step k hr (Nat.le_succ _)) rfl
  rw [List.drop_eq_getElem_cons hlt, e]
theorem mt_take {σ : L2.St} {H : Hp} {p l : Addr} {i : Nat} {Q : VK} {E : XK} (h : RdAt K H p l i) (k : spTake K [.ref p] H Q E) :
    ∃ a dx fs, V.ref p = V.ref a ∧ H a = some (.ins (He.ga K "Reader") dx fs) ∧ fs.lookup ("take" : Str) = none ∧ tNil σ H fun vs H2 => spTake K (V.ref p :: (vs ++ [])) H2 Q E := by
  obtain ⟨dx, hp⟩ := h
  exact ⟨p, dx, _, rfl, hp, rF_no _ _ (by decide +kernel) (by decide +kernel), k⟩
mutual
def rangesC : Wm03.Cond → List Rg
  | .yes => []
  | .range a lo hi => [(a, lo, hi)]
  | .all l => rangesCs l
  | .any l => rangesCs l
  | .no c => rangesC c
def rangesCs : List Wm03.Cond → List Rg
  | [] => []
  | c :: l => rangesC c ++ rangesCs l
end
mutual
def rangesP : Wm03.Pol → List Rg
  | .rule _ c => rangesC c
  | .set _ c l => rangesC c ++ rangesPs l
def rangesPs : List Wm03.Pol → List Rg
  | [] => []
  | c :: l => rangesP c ++ rangesPs l
end
def okRg (t : Rg) : Bool := decide (1 ≤ t.1) && (decide (t.1 ≤ 4) && (decide (t.2.1 ≤ 1000) && decide (t.2.2 ≤ 1000)))
def spReadRange (K : PySem.W.Frag) : Sp := fun vs H Q E => ∃ (p l r : Addr) (i : Nat) (ns : List Nat) (rs : List Rg), vs = [.ref p, .ref r] ∧ Rdg K H p l r i ns rs ∧
  (∀ a lo hi rest, ns.drop i = a :: lo :: hi :: rest → okRg (a, lo, hi) = true → ∀ H' t, Kept [p, r] H H' → Rdg K H' p l r (i + 3) ns (rs ++ [(a, lo, hi)]) → H t = none → H' t = some (.tup [.int 1, .int a, .int lo, .int hi]) → Q (.ref t) H') ∧
  ((∀ a lo hi rest, ns.drop i = a :: lo :: hi :: rest → okRg (a, lo, hi) = false) → Fails K E [p, r] H)
theorem cl_read_range (T : TX K mg) : Cl P w K mg base (L2N.CX P w) "read_range" 3 ["reader", "ranges"] (spReadRange K) := by
  have c_check : Cl P w K mg base (L2N.CX P w) "check" 1 ["fits"] (spCheck K) := cl_check T
  have c_Reader_take : Ml P w K mg base (L2N.CX P w) (He.ga K "Reader") "take" 2 ["self"] (spTake K) := ml_take T
  refine cl_of (d := d_read_range) T.g_read_range T.u_read_range sc_read_range b_read_range (fun vs H Q E h => ?_) (fun cdv A outer s H vs Q E hr h => ⟨_, (pss_cons (ps_set (i := 2) sc_read_range.nd rfl (Or.inl rfl) (pe_m0 c_Reader_take (hr.mono (by omega)) (L2N.passes_call (L2N.takes_of rfl rfl rfl rfl) fun _ _ _ _ h => h) (pv 0)))
    (pss_cons (ps_set (i := 3) sc_read_range.nd rfl (Or.inl rfl) (pe_m0 c_Reader_take (hr.mono (by omega)) (L2N.passes_call (L2N.takes_of rfl rfl rfl rfl) fun _ _ _ _ h => h) (pv 0)))
    (pss_cons (ps_set (i := 4) sc_read_range.nd rfl (Or.inl rfl) (pe_m0 c_Reader_take (hr.mono (by omega)) (L2N.passes_call (L2N.takes_of rfl rfl rfl rfl) fun _ _ _ _ h => h) (pv 0)))
    (pss_cons (ps_expr (pe_c c_check (hr.mono (by omega)) (L2N.passes_call (L2N.takes_of rfl rfl rfl rfl) fun _ _ _ _ h => h) (pa_cons (pe_and (pe_cmp (pc_le pe_int (pv 2)) rfl) (pe_one (pe_cmp (pc_le (pv 2) (pe_gi T.i_ATTRIBUTES)) rfl))) pa_nil)))
    (pss_cons (ps_expr (pe_c c_check (hr.mono (by omega)) (L2N.passes_call (L2N.takes_of rfl rfl rfl rfl) fun _ _ _ _ h => h) (pa_cons (pe_and (pe_cmp (pc_le (pv 3) (pe_gi T.i_MOST_RANGE_NUMBER)) rfl) (pe_one (pe_cmp (pc_le (pv 4) (pe_gi T.i_MOST_RANGE_NUMBER)) rfl))) pa_nil)))
    (pss_cons (ps_set (i := 5) sc_read_range.nd rfl (Or.inl rfl) (pe_tup (pa_cons (pe_gi T.i_RANGE) (pa_cons (pv 2) (pa_cons (pv 3) (pa_cons (pv 4) pa_nil))))))
    (pss_cons (ps_expr (pe_bm PySem.F.plainAttrs_list PySem.F.slot_list_append PySem.F.type_list_append mt_append (pv 1) (pa_cons (pv 5) pa_nil)))
    (pss_one (ps_ret (pv 5)))))))))), ?_⟩)
  · obtain ⟨p, l, r, i, ns, rs, rfl, _⟩ := h
    rfl
  · obtain ⟨p, l, r, i, ns, rs, rfl, hR, q, qe⟩ := h
    have fail : (∀ a lo hi rest, ns.drop i = a :: lo :: hi :: rest → okRg (a, lo, hi) = false) → ∀ {H1 : Hp}, Kept [p, r] H H1 → Fails K E [p, r] H1 := fun hn H1 k => (qe hn).later k
    have kr : ∀ {H1 H2 : Hp}, Kept [p] H1 H2 → Kept [p, r] H1 H2 := fun k => k.mono fun b hb => by rw [show b = p by simpa using hb]; exact List.mem_cons_self
    have k0 : Kept [p, r] H H := fun b o e _ => e
    refine ⟨_, rfl, mt_take hR.rd (take_in hR (fun e => fail (by intro a lo hi rest e'; rw [e] at e'; cases e') k0) fun a l1 H1 e1 k1 R1 d1 => ?_)⟩
    refine ⟨_, rfl, mt_take R1.rd (take_in R1 (fun e => fail (by intro a lo hi rest e'; rw [e1, ← d1, e] at e'; cases e') (kr k1)) fun lo l2 H2 e2 k2 R2 d2 => ?_)⟩
    refine ⟨_, rfl, mt_take R2.rd (take_in R2 (fun e => fail (by intro a lo hi rest e'; rw [e1, ← d1, e2, ← d2, e] at e'; cases e') (kr (k1.trans k2))) fun hi l3 H3 e3 k3 R3 d3 => ?_)⟩
    have e : ns.drop i = a :: lo :: hi :: l3 := by rw [e1, ← d1, e2, ← d2, e3]
    have k03 : Kept [p] H H3 := k1.trans (k2.trans k3)
    have un : ∀ {a' lo' hi' rest'}, ns.drop i = a' :: lo' :: hi' :: rest' → (a', lo', hi') = (a, lo, hi) := fun e' => by rw [e] at e'; cases e'; rfl
    k_call_by "rd" (d1le, dle4, dle1000, chk_and, chk_or)
    refine ⟨_, rfl, fun c1 => ?_, fun c1 => fail (fun a' lo' hi' rest' e' => ?_) (kr k03) _ _ (.inr rfl) fun b o e _ => e⟩
    · refine ⟨_, rfl, fun c2 => ?_, fun c2 => fail (fun a' lo' hi' rest' e' => ?_) (kr k03) _ _ (.inr rfl) fun b o e _ => e⟩
      · refine ⟨_, rfl, _, rfl, _, rfl, (by show 4 ≤ sizeLine; decide), fun t ht => ?_⟩
        have hok : okRg (a, lo, hi) = true := by
          unfold okRg
          rw [Bool.and_eq_true] at c1 c2
          simp only [c1.1, c1.2, c2.1, c2.2, Bool.and_self]
        obtain ⟨dx3, hp3⟩ := R3.rd
        obtain ⟨xs, hx, hxs⟩ := R3.rg
        have s4 : Same H3 (upd H3 t (.tup [.int 1, .int a, .int lo, .int hi])) := same_upd ht
        have hx4 := s4 _ _ hx
        have ntr : t ≠ r := fun z => by rw [z, hx] at ht; cases ht
        have hlen : xs.length ≤ 1000 := by
          rw [pr_len hxs]
          have h1 := hR.more
          have h2 := R3.more
          have h3 : i + 3 ≤ ns.length := by
            have := congrArg List.length e
            simp only [List.length_drop, List.length_cons] at this
            omega
          have h4 := hR.few
          omega
        refine ⟨_, rfl, .inl ⟨rfl, _, SqL.of hx4⟩, _, rfl, r, xs, _, rfl, rfl, hx4, sz1000 (by omega), ?_⟩
        refine q a lo hi l3 e hok _ t ?_ ?_ ?_ ?_
        · intro b o eb hb
          have hb1 : b ≠ p := fun z => hb (by rw [z]; exact List.mem_cons_self)
          have hb2 : b ≠ r := fun z => hb (by rw [z]; simp)
          rw [upd_ne hb2]
          exact s4 _ _ (k03 _ _ eb (by simpa using hb1))
        · have R4 := R3.same s4
          refine ⟨?_, ?_, ⟨xs ++ [.ref t], upd_same, ?_⟩, hR.few, hR.nlr, ?_, hR.small⟩
          · obtain ⟨dx, hp⟩ := R4.rd
            exact ⟨dx, by rw [upd_ne R4.pr]; exact hp⟩
          · rcases R4.sq with (z | ⟨o, z⟩) | z
            · exact .inl (.inl (by rw [upd_ne hR.nlr]; exact z))
            · exact .inl (.inr ⟨o, by rw [upd_ne hR.nlr]; exact z⟩)
            · exact .inr z
          · have kk : Kept [r] (upd H3 t (.tup [.int 1, .int a, .int lo, .int hi])) (upd (upd H3 t (.tup [.int 1, .int a, .int lo, .int hi])) r (.lst (xs ++ [.ref t]))) := fun b o eb hb => by
              rw [upd_ne (by simpa using hb)]; exact eb
            refine pr_app (pr_imp hxs fun y g z => (z.mono s4).kept kk fun b hb => R4.notup b (by rw [show b = r by simpa using hb]; simp)) (.cons ⟨t, rfl, ?_⟩ .nil)
            rw [upd_ne ntr]
            exact upd_same
          · rw [List.length_append, List.length_singleton]
            have := hR.more
            omega
        · exact kept_tr (kr k03) (fun b hb => R3.tr b hb) ht
        · rw [upd_ne ntr]
          exact upd_same
      · rw [un e']
        unfold okRg
        rw [Bool.and_eq_true] at c1
        show (decide (1 ≤ a) && (decide (a ≤ 4) && (decide (lo ≤ 1000) && decide (hi ≤ 1000)))) = false
        rw [c2]
        simp
    · rw [un e']
      unfold okRg
      show (decide (1 ≤ a) && (decide (a ≤ 4) && (decide (lo ≤ 1000) && decide (hi ≤ 1000)))) = false
      rw [← Bool.and_assoc, c1]
      rfl
theorem conds_of_pr {H : Hp} : ∀ {ys : List V} {l : List Wm03.Cond}, Paired (fun y c => CondAt H c y) ys l → CondsAt H l ys
  | _, _, .nil => rfl
  | _, _, .cons h t => ⟨_, _, rfl, h, conds_of_pr t⟩
theorem pols_of_pr {H : Hp} : ∀ {ys : List V} {l : List Wm03.Pol}, Paired (fun y c => PolAt H c y) ys l → PolsAt H l ys
  | _, _, .nil => rfl
  | _, _, .cons h t => ⟨_, _, rfl, h, pols_of_pr t⟩
theorem rangesCs_app : ∀ l m : List Wm03.Cond, rangesCs (l ++ m) = rangesCs l ++ rangesCs m
  | [], m => by simp [rangesCs]
  | c :: l, m => by simp [rangesCs, rangesCs_app l m]
theorem rangesPs_app : ∀ l m : List Wm03.Pol, rangesPs (l ++ m) = rangesPs l ++ rangesPs m
  | [], m => by simp [rangesPs]
  | c :: l, m => by simp [rangesPs, rangesPs_app l m]
/-- another list changes -/
theorem Rdg.other {H : Hp} {p l r : Addr} {i : Nat} {ns : List Nat} {rs : List Rg} {D : Addr} {ys : List V} {o : HO} (h : Rdg K H p l r i ns rs) (hD : H D = some (.lst ys)) (nr : D ≠ r) (nl : l ≠ D ∨ ∀ Hx, SqL K Hx l (nats ns)) : Rdg K (upd H D o) p l r i ns rs := by
  obtain ⟨dx, hp⟩ := h.rd
  obtain ⟨xs, hx, hxs⟩ := h.rg
  have np : p ≠ D := ne_of hp hD (by intro z; cases z)
  refine ⟨⟨dx, by rw [upd_ne np]; exact hp⟩, ?_, ⟨xs, by rw [upd_ne (Ne.symm nr)]; exact hx, pr_imp hxs fun y t z => ?_⟩, h.few, h.nlr, h.more, h.small⟩
  · rcases nl with nl | nl
    · rcases h.sq with (z | ⟨o, z⟩) | z
      · exact .inl (.inl (by rw [upd_ne nl]; exact z))
      · exact .inl (.inr ⟨o, by rw [upd_ne nl]; exact z⟩)
      · exact .inr z
    · exact nl _
  · obtain ⟨a, e, z⟩ := z
    exact ⟨a, e, by rw [upd_ne (ne_of z hD (by intro z; cases z))]; exact z⟩
theorem Rdg.newlist {H : Hp} {p l r : Addr} {i : Nat} {ns : List Nat} {rs : List Rg} {D : Addr} (h : Rdg K H p l r i ns rs) (hD : H D = none) : l ≠ D ∨ ∀ Hx, SqL K Hx l (nats ns) := by
  rcases h.sq with (z | ⟨o, z⟩) | z
  · exact .inl (ne_of_none z hD)
  · exact .inl (ne_of_none z hD)
  · exact .inr fun _ => .inr z
/-- a comprehension over the conditions of a code -/
structure CsAt (K : PySem.W.Frag) (H2 H' : Hp) (p l r D : Addr) (i : Nat) (ns : List Nat) (rs : List Rg) (d : Nat) (cs : List Wm03.Cond) (j : Nat) : Prop where
  kp : Kept [p, r] H2 H'
  at_ : ∃ ys, H' D = some (.lst ys) ∧ Paired (fun y c => CondAt (newL H2 H' D) c y) ys cs
  rd : Rdg K H' p l r j ns (rs ++ rangesCs cs)
  eq : ns.drop i = Wm03.rowCs cs ++ ns.drop j
  ok : Wm03.okCs d cs = true
theorem CsAt.few {H2 H' : Hp} {p l r D : Addr} {i : Nat} {ns : List Nat} {rs : List Rg} {d : Nat} {cs : List Wm03.Cond} {j : Nat} (h : CsAt K H2 H' p l r D i ns rs d cs j) : cs.length ≤ 200 := by
  have h1 := congrArg List.length h.eq
  rw [List.length_append, List.length_drop] at h1
  have h2 := rowCs_len cs
  have h3 := h.rd.few
  omega
theorem newOf_upd {H H1 : Hp} {D : Addr} {o : HO} (h : H D ≠ none) : Same (newOf H H1) (newOf H (upd H1 D o)) := fun b u e => by
  obtain ⟨h1, h2⟩ := of_newOf e
  refine newOf_at h1 ?_
  have hb : b ≠ D := fun z => h (by rw [← z]; exact h1)
  rw [upd_ne hb]
  exact h2
theorem CsAt.start {H2 : Hp} {p l r D : Addr} {i : Nat} {ns : List Nat} {rs : List Rg} {d : Nat} (hD : H2 D = none) (h : Rdg K H2 p l r i ns rs) : CsAt K H2 (upd H2 D (.lst [])) p l r D i ns rs d [] i :=
  ⟨Kept.of (same_upd hD), ⟨[], upd_same, .nil⟩, by rw [rangesCs, List.append_nil]; exact h.same (same_upd hD), rfl, by rw [Wm03.okCs]⟩
theorem CsAt.more {H2 H' H3 : Hp} {p l r D : Addr} {i : Nat} {ns : List Nat} {rs : List Rg} {d : Nat} {cs : List Wm03.Cond} {j j' : Nat} {c : Wm03.Cond} {v : V} {rest : List Nat} (hD : H2 D = none) (hR : Rdg K H2 p l r i ns rs)
    (h : CsAt K H2 H' p l r D i ns rs d cs j) (e : ns.drop j = Wm03.rowC c ++ rest) (ok : Wm03.okC d c = true) (k3 : Kept [p, r] H' H3) (R3 : Rdg K H3 p l r j' ns ((rs ++ rangesCs cs) ++ rangesC c)) (ej : ns.drop j' = rest) (hv : CondAt (newOf H' H3) c v) :
    ∃ acc, H3 D = some (.lst acc) ∧ acc.length < sizeLine ∧ CsAt K H2 (upd H3 D (.lst (acc ++ [v]))) p l r D i ns rs d (cs ++ [c]) j' := by
  obtain ⟨ys, hy, hys⟩ := h.at_
  have tr := hR.tr
  have nD : D ∉ [p, r] := fun z => tr D z hD
  have nDr : D ≠ r := fun z => nD (by rw [z]; simp)
  have hy3 : H3 D = some (.lst ys) := k3 _ _ hy nD
  have few := h.few
  refine ⟨ys, hy3, sz1000 (by rw [pr_len hys]; omega), ?_, ⟨ys ++ [v], upd_same, ?_⟩, ?_, ?_, ?_⟩
  · intro b o eb hb
    rw [upd_ne (ne_of_none eb hD)]
    exact k3 _ _ (h.kp _ _ eb hb) hb
  · refine pr_app (pr_imp hys fun y c z => ?_) (.cons ?_ .nil)
    · refine CondAt.mono (newL_step (M := [p, r]) (fun b o eb hb => ?_) tr) _ _ z
      have hb1 : b ≠ D := fun z => hb (by rw [z]; exact List.mem_cons_self)
      rw [upd_ne hb1]
      exact k3 _ _ eb fun z => hb (List.mem_cons_of_mem _ z)
    · have hn : H' D ≠ none := by rw [hy]; intro z; cases z
      exact CondAt.mono (newL_new h.kp h.rd.tr hn) _ _ (CondAt.mono (newOf_upd hn) _ _ hv)
  · have := R3.other hy3 nDr (hR.newlist hD) (o := .lst (ys ++ [v]))
    rw [rangesCs_app, ← List.append_assoc]
    have e1 : rangesCs [c] = rangesC c := by rw [rangesCs, rangesCs, List.append_nil]
    rw [e1]
    exact this
  · rw [h.eq, e, rowCs_app, ej, List.append_assoc]
    congr 1
    rw [Wm03.rowCs, Wm03.rowCs, List.append_nil]
  · rw [okCs_app, h.ok, Bool.true_and, Wm03.okCs, Wm03.okCs, ok]
    rfl
def spRC (K : PySem.W.Frag) : Nat → Sp
  | 0 => fun _ _ _ _ => False
  | n + 1 => fun vs H Q E => ∃ (p l r : Addr) (i : Nat) (ns : List Nat) (rs : List Rg), vs = [.ref p, .int (10 - n : Nat), .ref r] ∧ n ≤ 10 ∧ Rdg K H p l r i ns rs ∧
    (∀ c rest, ns.drop i = Wm03.rowC c ++ rest → Wm03.okC n c = true → ∀ H' v j, Kept [p, r] H H' → Rdg K H' p l r j ns (rs ++ rangesC c) → ns.drop j = rest → CondAt (newOf H H') c v → Q v H') ∧
    ((∀ c rest, ns.drop i = Wm03.rowC c ++ rest → Wm03.okC n c = false) → Fails K E [p, r] H)
theorem cl_read_condition (T : TX K mg) : ∀ n, Cl P w K mg base (L2N.CX P w) "read_condition" (n + 4) ["reader", "depth", "ranges"] (spRC K n)
  | 0 => (cl_none (d := d_read_condition) T.g_read_condition T.u_read_condition b_read_condition).mono (by omega)
  | n + 1 => by
    have c_read_condition : Cl P w K mg base (L2N.CX P w) "read_condition" (n + 4) ["reader", "depth", "ranges"] (spRC K n) := cl_read_condition T n
    have c_check : Cl P w K mg base (L2N.CX P w) "check" 1 ["fits"] (spCheck K) := cl_check T
    have c_check_holder : Cl P w K mg base (L2N.CX P w) "check_holder" 2 ["depth"] (spCheckHolder K) := cl_check_holder T
    have c_read_range : Cl P w K mg base (L2N.CX P w) "read_range" 3 ["reader", "ranges"] (spReadRange K) := cl_read_range T
    have c_Reader_take : Ml P w K mg base (L2N.CX P w) (He.ga K "Reader") "take" 2 ["self"] (spTake K) := ml_take T
    refine cl_of (d := d_read_condition) T.g_read_condition T.u_read_condition sc_read_condition b_read_condition (fun vs H Q E h => ?_) (fun cdv A outer s H vs Q E hr h => ⟨_, (pss_cons (ps_set (i := 3) sc_read_condition.nd rfl (Or.inl rfl) (pe_m0 c_Reader_take (hr.mono (by omega)) (L2N.passes_call (L2N.takes_of rfl rfl rfl rfl) fun _ _ _ _ h => h) (pv 0)))
    (pss_cons (ps_if (pt_cmp (pc_eqI (pv 3) (pe_gi T.i_ALWAYS))) (pss_one (ps_ret (pe_tup (pa_cons (pe_gi T.i_ALWAYS) pa_nil)))) pss_nil)
    (pss_cons (ps_if (pt_cmp (pc_eqI (pv 3) (pe_gi T.i_RANGE))) (pss_one (ps_ret (pe_c c_read_range (hr.mono (by omega)) (L2N.passes_call (L2N.takes_of rfl rfl rfl rfl) fun _ _ _ _ h => h) (pa_cons (pv 0) (pa_cons (pv 2) pa_nil))))) pss_nil)
    (pss_cons (ps_expr (pe_c c_check (hr.mono (by omega)) (L2N.passes_call (L2N.takes_of rfl rfl rfl rfl) fun _ _ _ _ h => h) (pa_cons (pe_or (pe_cmp (pc_eqI (pv 3) (pe_gi T.i_ALL)) rfl) (pe_or (pe_cmp (pc_eqI (pv 3) (pe_gi T.i_ANY)) rfl) (pe_one (pe_cmp (pc_eqI (pv 3) (pe_gi T.i_NOT)) rfl)))) pa_nil)))
    (pss_cons (ps_expr (pe_c c_check_holder (hr.mono (by omega)) (L2N.passes_call (L2N.takes_of rfl rfl rfl rfl) fun _ _ _ _ h => h) (pa_cons (pv 1) pa_nil)))
    (pss_cons (ps_if (pt_cmp (pc_eqI (pv 3) (pe_gi T.i_NOT))) (pss_one (ps_ret (pe_tup (pa_cons (pe_gi T.i_NOT) (pa_cons (pe_c c_read_condition (hr.mono (by omega)) (L2N.passes_call (L2N.takes_of rfl rfl rfl rfl) fun _ _ _ _ h => h) (pa_cons (pv 0) (pa_cons (pe_add (pv 1) pe_int) (pa_cons (pv 2) pa_nil)))) pa_nil))))) pss_nil)
    (pss_cons (ps_set (i := 4) sc_read_condition.nd rfl (Or.inl rfl) (pe_m0 c_Reader_take (hr.mono (by omega)) (L2N.passes_call (L2N.takes_of rfl rfl rfl rfl) fun _ _ _ _ h => h) (pv 0)))
    (pss_one (ps_ret (pe_tup (pa_cons (pv 3) (pa_cons (pe_lcX (own := [("turn", 5)]) (g := gName 5) (tt := tYes) (te := tCall _ [] _ (tCons (tVar 0) (tCons (tAdd (tVar 1) (tC (.int (1)))) (tCons (tVar 2) tNil)))) (compLetsN rfl rfl (L2N.takes_of rfl rfl rfl rfl)) rfl sc_read_condition.nd (pi_range1 rfl T.f_range (pa_cons (pv 4) pa_nil)) (blkOk_by (N := N_read_condition) (sc := defScope s_read_condition) (by decide +kernel)) (fun _ _ _ _ _ _ => pg_name (i := 5) sc_read_condition.nd rfl (Or.inl rfl)) (fun _ _ _ _ _ _ => pts_nil) (fun _ _ _ _ _ _ pass => (pe_c c_read_condition (hr.mono (by omega)) pass (pa_cons (pv 0) (pa_cons (pe_add (pv 1) pe_int) (pa_cons (pv 2) pa_nil)))))) pa_nil)))))))))))), ?_⟩)
    · obtain ⟨p, l, r, i, ns, rs, rfl, _⟩ := h
      rfl
    · obtain ⟨p, l, r, i, ns, rs, rfl, hn, hR, q, qe⟩ := h
      have kr : ∀ {H1 H2 : Hp}, Kept [p] H1 H2 → Kept [p, r] H1 H2 := fun k => k.mono fun b hb => by rw [show b = p by simpa using hb]; exact List.mem_cons_self
      have k0 : Kept [p, r] H H := fun b o e _ => e
      refine ⟨_, rfl, mt_take hR.rd (take_in hR (fun e => qe (by intro c rest e'; obtain ⟨k, r', e2, _⟩ := rowC_ne c; rw [e, e2] at e'; cases e')) fun kind l1 H1 e1 k1 R1 d1 => ?_)⟩
      k_call_by "rd" (chk_and, chk_or)
      have tup1 : ∀ {H3 : Hp} {j : Nat} {rs' : List Rg} {c : Wm03.Cond} {rest : List Nat} {xs : List V}, Kept [p, r] H H3 → Rdg K H3 p l r j ns (rs ++ rangesC c) → ns.drop i = Wm03.rowC c ++ rest → ns.drop j = rest → Wm03.okC n c = true →
          (∀ t, H3 t = none → CondAt (newOf H (upd H3 t (.tup xs))) c (.ref t)) → ∀ t, H3 t = none → Q (.ref t) (upd H3 t (.tup xs)) := fun {H3 j rs' c rest xs} k3 R3 e ej ok hc t ht =>
        q c rest e ok _ (.ref t) j (k3.trans (Kept.of (same_upd ht))) (R3.same (same_upd ht)) ej (hc t ht)
      by_cases c0 : kind = 0
      · subst c0
        refine if_true_of (by decide) ⟨by decide, fun t ht => ?_⟩
        refine tup1 (rs' := rs) (c := .yes) (kr k1) (by rw [rangesC, List.append_nil]; exact R1) (by rw [e1]; rfl) d1 (by rw [Wm03.okC]) (fun t ht => ⟨t, rfl, newOf_at (kept_tr (kr k1) R1.tr ht) upd_same⟩) t ht
      refine if_false_of (decide_eq_false (by omega)) ?_
      by_cases c1 : kind = 1
      · subst c1
        refine if_true_of (by decide) ⟨p, l, r, i + 1, ns, rs, rfl, R1, fun a lo hi rest e ok H' t k2 R2 ht ht2 => ?_, fun hno => (qe fun c rest e => ?_).later (kr k1)⟩
        · refine q (.range a lo hi) rest (by rw [e1, ← d1, e]; rfl) (by rw [Wm03.okC]; exact ok) H' (.ref t) (i + 4) ((kr k1).trans k2) R2 ?_ ⟨t, rfl, newOf_at (kept_tr (kr k1) R1.tr ht) ht2⟩
          rw [show i + 4 = (i + 1) + 3 by omega, ← List.drop_drop, e]
          rfl
        · rw [e1] at e
          cases c with
          | range a lo hi =>
            simp only [Wm03.rowC, List.cons_append, List.nil_append, List.cons.injEq, true_and] at e
            rw [Wm03.okC]
            exact hno a lo hi rest (by rw [d1]; exact e)
          | _ => simp [Wm03.rowC] at e
      refine if_false_of (decide_eq_false (by omega)) ⟨_, rfl, fun hb => ?_, fun hb => (qe fun c rest e => ?_) _ _ (.inr rfl) (kr k1)⟩
      · -- a holder
        refine ⟨10 - n, rfl, fun hd => ?_, fun hd => (qe fun c rest e => ?_) _ _ (.inr rfl) (kr k1)⟩
        · match n, hn, hd, c_read_condition, q, qe with
          | 0, _, hd, _, _, _ => exact absurd hd (by omega)
          | n + 1, hn, hd, _, q, qe =>
          by_cases c4 : kind = 4
          · subst c4
            refine if_true_of (by decide) ?_
            refine ⟨_, rfl, _, rfl, _, _, rfl, rfl, _, rfl, ?_⟩
            refine ⟨p, l, r, i + 1, ns, rs, congrArg (fun z => [V.ref p, V.int z, V.ref r]) (by omega), by omega, R1, fun c rest e ok H' v j k2 R2 ej hv => ?_, fun hno => (qe fun c rest e => ?_).later (kr k1)⟩
            · refine ⟨by show 2 ≤ sizeLine; decide, fun t ht => ?_⟩
              refine q (.no c) rest (by rw [e1, ← d1, e]; rfl) (by rw [Wm03.okC, decide_eq_true (by omega), Nat.add_sub_cancel, ok]; rfl) _ (.ref t) j (((kr k1).trans k2).trans (Kept.of (same_upd ht))) (R2.same (same_upd ht)) ej ?_
              have tt := kept_tr ((kr k1).trans k2) R2.tr ht
              exact ⟨t, v, rfl, newOf_at tt upd_same, CondAt.mono ((new_later (kr k1) R1.tr).trans (newOf_more (same_upd ht))) _ _ hv⟩
            · rw [e1] at e
              cases c with
              | no c =>
                simp only [Wm03.rowC, List.cons_append, List.cons.injEq, true_and] at e
                rw [Wm03.okC, Nat.add_sub_cancel, hno c rest (by rw [d1]; exact e), Bool.and_false]
              | _ => simp [Wm03.rowC] at e
          · have ck : kind = 2 ∨ kind = 3 := by
              simp only [Bool.or_eq_true, decide_eq_true_eq] at hb
              omega
            refine if_false_of (decide_eq_false (by omega)) ?_
            refine ⟨_, rfl, mt_take R1.rd (take_in R1 (fun e => (qe fun c rest e' => ?_).later (kr k1)) fun many l2 H2 e2 k2 R2 d2 => ?_)⟩
            · rw [e1, ← d1, e] at e'
              rcases ck with z | z <;> subst z <;> cases c <;> simp [Wm03.rowC] at e'
            · have hm : many < 2 ^ 60 := hR.small many (by
                have : many ∈ ns.drop (i + 1) := by rw [e2]; exact List.mem_cons_self
                exact List.mem_of_mem_drop this)
              have k02 : Kept [p, r] H H2 := kr (k1.trans k2)
              have e0 : ns.drop i = kind :: many :: ns.drop (i + 1 + 1) := by rw [e1, ← d1, e2, ← d2]
              refine ⟨_, rfl, ?_⟩
              refine ⟨_, rfl, many, rfl, by omega, by omega, fun D hD => ?_⟩
              refine lc_range (lo := 0) (n := (many : Int).toNat) (fun m H' => ∃ cs j, cs.length = m ∧ CsAt K H2 H' p l r D (i + 1 + 1) ns rs n cs j) ⟨[], i + 1 + 1, rfl, CsAt.start hD R2⟩ ?_ ?_
              · rintro m H' hmm ⟨cs, j, hcs, hC⟩
                refine ⟨rfl, ?_⟩
                refine ⟨_, rfl, _, rfl, _, _, rfl, rfl, _, rfl, ?_⟩
                refine ⟨p, l, r, j, ns, rs ++ rangesCs cs, congrArg (fun z => [V.ref p, V.int z, V.ref r]) (by omega), by omega, hC.rd, fun c rest e ok H3 v j' k3 R3 ej hv => ?_, fun hno => (qe fun c rest e => ?_).later (k02.trans hC.kp)⟩
                · obtain ⟨acc, h1, h2, h3⟩ := hC.more hD R2 e ok k3 R3 ej hv
                  exact ⟨acc, h1, h2, cs ++ [c], j', by rw [List.length_append, hcs]; rfl, h3⟩
                · have key : ∀ (x : List Wm03.Cond), x.length = many → Wm03.rowCs x ++ rest = ns.drop (i + 1 + 1) → Wm03.okCs n x = false := fun x hx ex => by
                    rw [hC.eq] at ex
                    obtain ⟨c', k', hm', hx'⟩ := rowCs_split cs x rest _ (by omega) ex
                    rw [hm', okCs_app, Wm03.okCs, hno c' _ hx', Bool.false_and, Bool.and_false]
                  rw [e0] at e
                  cases c with
                  | all x =>
                    simp only [Wm03.rowC, List.cons_append, List.cons.injEq] at e
                    rw [Wm03.okC, Nat.add_sub_cancel, key x e.2.1.symm e.2.2.symm, Bool.and_false]
                  | any x =>
                    simp only [Wm03.rowC, List.cons_append, List.cons.injEq] at e
                    rw [Wm03.okC, Nat.add_sub_cancel, key x e.2.1.symm e.2.2.symm, Bool.and_false]
                  | _ => rcases ck with z | z <;> subst z <;> simp [Wm03.rowC] at e
              · rintro H' ⟨cs, j, hcs, hC⟩
                have hcs : cs.length = many := by omega
                refine ⟨by show 2 ≤ sizeLine; decide, fun t ht => ?_⟩
                obtain ⟨ys, hy, hys⟩ := hC.at_
                have k0' : Kept [p, r] H H' := k02.trans hC.kp
                have tt := kept_tr k0' hC.rd.tr ht
                have sf : Same (newL H2 H' D) (newOf H (upd H' t (.tup [.int kind, .ref D]))) := newL_same.trans ((new_later k02 R2.tr).trans (newOf_more (same_upd ht)))
                have hcA : CondsAt (newOf H (upd H' t (.tup [.int kind, .ref D]))) cs ys := conds_of_pr (pr_imp hys fun y c z => CondAt.mono sf _ _ z)
                have hDn : newOf H (upd H' t (.tup [.int kind, .ref D])) D = some (.lst ys) := newOf_at (kept_tr k02 R2.tr hD) (same_upd ht _ _ hy)
                have ht' : newOf H (upd H' t (.tup [.int kind, .ref D])) t = some (.tup [.int kind, .ref D]) := newOf_at tt upd_same
                have eC : ns.drop i = kind :: cs.length :: Wm03.rowCs cs ++ ns.drop j := by rw [e0, hC.eq, hcs]; rfl
                rcases ck with z | z
                · subst z
                  exact q (.all cs) _ (by rw [eC]; rfl) (by rw [Wm03.okC, Nat.add_sub_cancel, hC.ok, decide_eq_true (by omega)]; rfl) _ (.ref t) j (k0'.trans (Kept.of (same_upd ht))) (hC.rd.same (same_upd ht)) rfl ⟨t, D, ys, rfl, ht', hDn, hcA⟩
                · subst z
                  exact q (.any cs) _ (by rw [eC]; rfl) (by rw [Wm03.okC, Nat.add_sub_cancel, hC.ok, decide_eq_true (by omega)]; rfl) _ (.ref t) j (k0'.trans (Kept.of (same_upd ht))) (hC.rd.same (same_upd ht)) rfl ⟨t, D, ys, rfl, ht', hDn, hcA⟩
        · have n0 : n = 0 := by omega
          subst n0
          rw [e1] at e
          simp only [Bool.or_eq_true, decide_eq_true_eq] at hb
          cases c with
          | all x => rw [Wm03.okC]; rfl
          | any x => rw [Wm03.okC]; rfl
          | no x => rw [Wm03.okC]; rfl
          | yes => simp only [Wm03.rowC, List.cons_append, List.cons.injEq] at e; omega
          | range a lo hi => simp only [Wm03.rowC, List.cons_append, List.cons.injEq] at e; omega
      · rw [e1] at e
        obtain ⟨k, r', e', hk⟩ := rowC_ne c
        rw [e', List.cons_append, List.cons.injEq] at e
        simp only [Bool.or_eq_false_iff, decide_eq_false_iff_not] at hb
        omega
end
end Gh
set_option Elab.async false
set_option linter.all false
set_option maxRecDepth 100000
set_option maxHeartbeats 4000000
namespace Gh
open PySem PySem.Spec PyProof.Rows L2
local macro_rules | `(tactic| walk_at "rd") => `(tactic| simp only [tRet, tSeq, tAsg, gName, tDrop, tIfS, tTest, tB, tAnd, tOr, tNot, tAndV, tOrV, tNotV, tCmp, t2I, tAdd, tSub, tMul, tIsN, tNotN, tC, tVar, tCons, tNil, tCall, tOp, tUn, tCB, tNext, tRetN, tIf, tFld, wipe, tYes, HO.ins.injEq, and_assoc, L2.start, List.map_cons, List.map_nil, List.length_cons, List.length_nil, List.cons_append, List.nil_append, List.append_nil, List.set_cons_zero, List.set_cons_succ, List.replicate, Nat.reduceAdd, Nat.reduceSub, Nat.zero_add, Nat.sub_self, List.getElem?_cons_zero, List.getElem?_cons_succ, Option.some.injEq, V.int.injEq, V.bl.injEq, V.ref.injEq, V.str.injEq, List.cons.injEq, reduceCtorEq, and_true, true_and, and_false, false_and, exists_eq_left, exists_eq_left', exists_eq_right, exists_eq_right', exists_and_left, exists_const, exists_false, exists_eq, if_true, if_false, Bool.false_eq_true, Bool.true_eq_false, cxK, andV, orV, andT, orT, deq, dle, dlt, Bool.not_true, Bool.not_false, decide_true, decide_false, ite_true, ite_false])
local macro_rules | `(tactic| k_call_by "rd" ($a, $bs,*)) => do { let cs := bs.getElems; `(tactic| simp only [$a:term, $[$cs:term],*, tRet, tSeq, tAsg, gName, tDrop, tIfS, tTest, tB, tAnd, tOr, tNot, tAndV, tOrV, tNotV, tCmp, t2I, tAdd, tSub, tMul, tIsN, tNotN, tC, tVar, tCons, tNil, tCall, tOp, tUn, tCB, tNext, tRetN, tIf, tFld, wipe, tYes, HO.ins.injEq, and_assoc, L2.start, List.map_cons, List.map_nil, List.length_cons, List.length_nil, List.cons_append, List.nil_append, List.append_nil, List.set_cons_zero, List.set_cons_succ, List.replicate, Nat.reduceAdd, Nat.reduceSub, Nat.zero_add, Nat.sub_self, List.getElem?_cons_zero, List.getElem?_cons_succ, Option.some.injEq, V.int.injEq, V.bl.injEq, V.ref.injEq, V.str.injEq, List.cons.injEq, reduceCtorEq, and_true, true_and, and_false, false_and, exists_eq_left, exists_eq_left', exists_eq_right, exists_eq_right', exists_and_left, exists_const, exists_false, exists_eq, if_true, if_false, Bool.false_eq_true, Bool.true_eq_false, cxK, andV, orV, andT, orT, deq, dle, dlt, Bool.not_true, Bool.not_false, decide_true, decide_false, ite_true, ite_false]) }
section
variable {P : Program} {w : World} {K : PySem.W.Frag} {mg : Str → Option Value} {base : Heap}
theorem rows_lenP : ∀ l : List Wm03.Pol, l.length ≤ (Wm03.rows l).length
  | [] => Nat.le_refl _
  | c :: l => by
    have := row_one c
    have := rows_lenP l
    rw [Wm03.rows, List.length_append, List.length_cons]
    omega
/-- a comprehension over the policies of a code -/
structure PsAt (K : PySem.W.Frag) (H2 H' : Hp) (p l r D : Addr) (i : Nat) (ns : List Nat) (rs : List Rg) (d : Nat) (cs : List Wm03.Pol) (j : Nat) : Prop where
  kp : Kept [p, r] H2 H'
  at_ : ∃ ys, H' D = some (.lst ys) ∧ Paired (fun y c => PolAt (newL H2 H' D) c y) ys cs
  rd : Rdg K H' p l r j ns (rs ++ rangesPs cs)
  eq : ns.drop i = Wm03.rows cs ++ ns.drop j
  ok : Wm03.okPs d cs = true
theorem PsAt.few {H2 H' : Hp} {p l r D : Addr} {i : Nat} {ns : List Nat} {rs : List Rg} {d : Nat} {cs : List Wm03.Pol} {j : Nat} (h : PsAt K H2 H' p l r D i ns rs d cs j) : cs.length ≤ 200 := by
  have h1 := congrArg List.length h.eq
  rw [List.length_append, List.length_drop] at h1
  have h2 := rows_lenP cs
  have h3 := h.rd.few
  omega
theorem PsAt.start {H2 : Hp} {p l r D : Addr} {i : Nat} {ns : List Nat} {rs : List Rg} {d : Nat} (hD : H2 D = none) (h : Rdg K H2 p l r i ns rs) : PsAt K H2 (upd H2 D (.lst [])) p l r D i ns rs d [] i :=
  ⟨Kept.of (same_upd hD), ⟨[], upd_same, .nil⟩, by rw [rangesPs, List.append_nil]; exact h.same (same_upd hD), rfl, by rw [Wm03.okPs]⟩
theorem PsAt.more {H2 H' H3 : Hp} {p l r D : Addr} {i : Nat} {ns : List Nat} {rs : List Rg} {d : Nat} {cs : List Wm03.Pol} {j j' : Nat} {c : Wm03.Pol} {v : V} {rest : List Nat} (hD : H2 D = none) (hR : Rdg K H2 p l r i ns rs)
    (h : PsAt K H2 H' p l r D i ns rs d cs j) (e : ns.drop j = Wm03.row c ++ rest) (ok : Wm03.okP d c = true) (k3 : Kept [p, r] H' H3) (R3 : Rdg K H3 p l r j' ns ((rs ++ rangesPs cs) ++ rangesP c)) (ej : ns.drop j' = rest) (hv : PolAt (newOf H' H3) c v) :
    ∃ acc, H3 D = some (.lst acc) ∧ acc.length < sizeLine ∧ PsAt K H2 (upd H3 D (.lst (acc ++ [v]))) p l r D i ns rs d (cs ++ [c]) j' := by
  obtain ⟨ys, hy, hys⟩ := h.at_
  have tr := hR.tr
  have nD : D ∉ [p, r] := fun z => tr D z hD
  have nDr : D ≠ r := fun z => nD (by rw [z]; simp)
  have hy3 : H3 D = some (.lst ys) := k3 _ _ hy nD
  have few := h.few
  refine ⟨ys, hy3, sz1000 (by rw [pr_len hys]; omega), ?_, ⟨ys ++ [v], upd_same, ?_⟩, ?_, ?_, ?_⟩
  · intro b o eb hb
    rw [upd_ne (ne_of_none eb hD)]
    exact k3 _ _ (h.kp _ _ eb hb) hb
  · refine pr_app (pr_imp hys fun y c z => ?_) (.cons ?_ .nil)
    · refine PolAt.mono (newL_step (M := [p, r]) (fun b o eb hb => ?_) tr) _ _ z
      have hb1 : b ≠ D := fun z => hb (by rw [z]; exact List.mem_cons_self)
      rw [upd_ne hb1]
      exact k3 _ _ eb fun z => hb (List.mem_cons_of_mem _ z)
    · have hn : H' D ≠ none := by rw [hy]; intro z; cases z
      exact PolAt.mono (newL_new h.kp h.rd.tr hn) _ _ (PolAt.mono (newOf_upd hn) _ _ hv)
  · have := R3.other hy3 nDr (hR.newlist hD) (o := .lst (ys ++ [v]))
    rw [rangesPs_app, ← List.append_assoc]
    have e1 : rangesPs [c] = rangesP c := by rw [rangesPs, rangesPs, List.append_nil]
    rw [e1]
    exact this
  · rw [h.eq, e, rows_app, ej, List.append_assoc]
    congr 1
    rw [Wm03.rows, Wm03.rows, List.append_nil]
  · rw [okPs_app, h.ok, Bool.true_and, Wm03.okPs, Wm03.okPs, ok]
    rfl
def spRP (K : PySem.W.Frag) : Nat → Sp
  | 0 => fun _ _ _ _ => False
  | n + 1 => fun vs H Q E => ∃ (p l r : Addr) (i : Nat) (ns : List Nat) (rs : List Rg), vs = [.ref p, .int (10 - n : Nat), .ref r] ∧ n ≤ 10 ∧ Rdg K H p l r i ns rs ∧
    (∀ c rest, ns.drop i = Wm03.row c ++ rest → Wm03.okP n c = true → ∀ H' v j, Kept [p, r] H H' → Rdg K H' p l r j ns (rs ++ rangesP c) → ns.drop j = rest → PolAt (newOf H H') c v → Q v H') ∧
    ((∀ c rest, ns.drop i = Wm03.row c ++ rest → Wm03.okP n c = false) → Fails K E [p, r] H)
theorem dle3' (n : Nat) : decide ((n : Int) ≤ 3) = decide (n ≤ 3) := dle n 3
theorem cl_read_policy (T : TX K mg) : ∀ n, Cl P w K mg base (L2N.CX P w) "read_policy" (n + 6) ["reader", "depth", "ranges"] (spRP K n)
  | 0 => (cl_none (d := d_read_policy) T.g_read_policy T.u_read_policy b_read_policy).mono (by omega)
  | n + 1 => by
    have c_read_policy : Cl P w K mg base (L2N.CX P w) "read_policy" (n + 6) ["reader", "depth", "ranges"] (spRP K n) := cl_read_policy T n
    have c_read_condition : Cl P w K mg base (L2N.CX P w) "read_condition" (n + 1 + 4) ["reader", "depth", "ranges"] (spRC K (n + 1)) := cl_read_condition T (n + 1)
    have c_check : Cl P w K mg base (L2N.CX P w) "check" 1 ["fits"] (spCheck K) := cl_check T
    have c_check_holder : Cl P w K mg base (L2N.CX P w) "check_holder" 2 ["depth"] (spCheckHolder K) := cl_check_holder T
    have c_Reader_take : Ml P w K mg base (L2N.CX P w) (He.ga K "Reader") "take" 2 ["self"] (spTake K) := ml_take T
    refine cl_of (d := d_read_policy) T.g_read_policy T.u_read_policy sc_read_policy b_read_policy (fun vs H Q E h => ?_) (fun cdv A outer s H vs Q E hr h => ⟨_, (pss_cons (ps_set (i := 3) sc_read_policy.nd rfl (Or.inl rfl) (pe_m0 c_Reader_take (hr.mono (by omega)) (L2N.passes_call (L2N.takes_of rfl rfl rfl rfl) fun _ _ _ _ h => h) (pv 0)))
    (pss_cons (ps_expr (pe_c c_check (hr.mono (by omega)) (L2N.passes_call (L2N.takes_of rfl rfl rfl rfl) fun _ _ _ _ h => h) (pa_cons (pe_or (pe_cmp (pc_eqI (pv 3) (pe_gi T.i_RULE)) rfl) (pe_one (pe_cmp (pc_eqI (pv 3) (pe_gi T.i_SET)) rfl))) pa_nil)))
    (pss_cons (ps_set (i := 4) sc_read_policy.nd rfl (Or.inl rfl) (pe_m0 c_Reader_take (hr.mono (by omega)) (L2N.passes_call (L2N.takes_of rfl rfl rfl rfl) fun _ _ _ _ h => h) (pv 0)))
    (pss_cons (ps_if (pt_cmp (pc_eqI (pv 3) (pe_gi T.i_RULE))) (pss_cons (ps_expr (pe_c c_check (hr.mono (by omega)) (L2N.passes_call (L2N.takes_of rfl rfl rfl rfl) fun _ _ _ _ h => h) (pa_cons (pe_or (pe_cmp (pc_eqI (pv 4) (pe_gi T.i_PERMIT)) rfl) (pe_one (pe_cmp (pc_eqI (pv 4) (pe_gi T.i_DENY)) rfl))) pa_nil)))
    (pss_one (ps_ret (pe_tup (pa_cons (pe_gi T.i_RULE) (pa_cons (pv 4) (pa_cons (pe_c c_read_condition (hr.mono (by omega)) (L2N.passes_call (L2N.takes_of rfl rfl rfl rfl) fun _ _ _ _ h => h) (pa_cons (pv 0) (pa_cons (pv 1) (pa_cons (pv 2) pa_nil)))) pa_nil))))))) pss_nil)
    (pss_cons (ps_expr (pe_c c_check (hr.mono (by omega)) (L2N.passes_call (L2N.takes_of rfl rfl rfl rfl) fun _ _ _ _ h => h) (pa_cons (pe_cmp (pc_le (pv 4) (pe_gi T.i_ONLY_ONE)) rfl) pa_nil)))
    (pss_cons (ps_expr (pe_c c_check_holder (hr.mono (by omega)) (L2N.passes_call (L2N.takes_of rfl rfl rfl rfl) fun _ _ _ _ h => h) (pa_cons (pv 1) pa_nil)))
    (pss_cons (ps_set (i := 5) sc_read_policy.nd rfl (Or.inl rfl) (pe_c c_read_condition (hr.mono (by omega)) (L2N.passes_call (L2N.takes_of rfl rfl rfl rfl) fun _ _ _ _ h => h) (pa_cons (pv 0) (pa_cons (pv 1) (pa_cons (pv 2) pa_nil)))))
    (pss_cons (ps_set (i := 6) sc_read_policy.nd rfl (Or.inl rfl) (pe_m0 c_Reader_take (hr.mono (by omega)) (L2N.passes_call (L2N.takes_of rfl rfl rfl rfl) fun _ _ _ _ h => h) (pv 0)))
    (pss_one (ps_ret (pe_tup (pa_cons (pe_gi T.i_SET) (pa_cons (pv 4) (pa_cons (pv 5) (pa_cons (pe_lcX (own := [("turn", 7)]) (g := gName 7) (tt := tYes) (te := tCall _ [] _ (tCons (tVar 0) (tCons (tAdd (tVar 1) (tC (.int (1)))) (tCons (tVar 2) tNil)))) (compLetsN rfl rfl (L2N.takes_of rfl rfl rfl rfl)) rfl sc_read_policy.nd (pi_range1 rfl T.f_range (pa_cons (pv 6) pa_nil)) (blkOk_by (N := N_read_policy) (sc := defScope s_read_policy) (by decide +kernel)) (fun _ _ _ _ _ _ => pg_name (i := 7) sc_read_policy.nd rfl (Or.inl rfl)) (fun _ _ _ _ _ _ => pts_nil) (fun _ _ _ _ _ _ pass => (pe_c c_read_policy (hr.mono (by omega)) pass (pa_cons (pv 0) (pa_cons (pe_add (pv 1) pe_int) (pa_cons (pv 2) pa_nil)))))) pa_nil))))))))))))))), ?_⟩)
    · obtain ⟨p, l, r, i, ns, rs, rfl, _⟩ := h
      rfl
    · obtain ⟨p, l, r, i, ns, rs, rfl, hn, hR, q, qe⟩ := h
      have kr : ∀ {H1 H2 : Hp}, Kept [p] H1 H2 → Kept [p, r] H1 H2 := fun k => k.mono fun b hb => by rw [show b = p by simpa using hb]; exact List.mem_cons_self
      have k0 : Kept [p, r] H H := fun b o e _ => e
      refine ⟨_, rfl, mt_take hR.rd (take_in hR (fun e => qe (by intro c rest e'; rw [e] at e'; cases c <;> simp [Wm03.row] at e')) fun kind l1 H1 e1 k1 R1 d1 => ?_)⟩
      k_call_by "rd" (chk_and, chk_or)
      refine ⟨_, rfl, fun hb => ?_, fun hb => (qe fun c rest e => ?_) _ _ (.inr rfl) (kr k1)⟩
      · have ck : kind = 0 ∨ kind = 1 := by
          simp only [Bool.or_eq_true, decide_eq_true_eq] at hb
          omega
        refine ⟨_, rfl, mt_take R1.rd (take_in R1 (fun e => (qe fun c rest e' => ?_).later (kr k1)) fun choice l2 H2 e2 k2 R2 d2 => ?_)⟩
        · rw [e1, ← d1, e] at e'
          cases c <;> simp [Wm03.row] at e'
        · have k02 : Kept [p, r] H H2 := kr (k1.trans k2)
          have e0 : ns.drop i = kind :: choice :: ns.drop (i + 1 + 1) := by rw [e1, ← d1, e2, ← d2]
          k_call_by "rd" (chk_and, chk_or)
          rcases ck with z | z
          · -- a rule
            subst z
            refine if_true_of (by decide) ⟨_, rfl, fun hb2 => ?_, fun hb2 => (qe fun c rest e => ?_) _ _ (.inr rfl) k02⟩
            · have cc : choice = 1 ∨ choice = 2 := by
                simp only [Bool.or_eq_true, decide_eq_true_eq] at hb2
                omega
              obtain ⟨pm, hpm⟩ : ∃ pm : Bool, choice = if pm = true then 1 else 2 := by
                rcases cc with z | z
                · exact ⟨true, z⟩
                · exact ⟨false, z⟩
              refine ⟨_, rfl, ?_⟩
              refine ⟨_, rfl, _, rfl, _, rfl, p, l, r, i + 1 + 1, ns, rs, rfl, hn, R2, fun c rest e ok H' v j k3 R3 ej hv => ?_, fun hno => (qe fun c rest e => ?_).later k02⟩
              · refine ⟨by show 3 ≤ sizeLine; decide, fun t ht => ?_⟩
                have kk : Kept [p, r] H H' := k02.trans k3
                refine q (.rule pm c) rest (by rw [e0, e, Wm03.row, hpm]; rfl) (by rw [Wm03.okP, ok]) _ (.ref t) j (kk.trans (Kept.of (same_upd ht))) (R3.same (same_upd ht)) ej ?_
                refine ⟨t, v, rfl, newOf_at (kept_tr kk R3.tr ht) ?_, CondAt.mono ((new_later k02 R2.tr).trans (newOf_more (same_upd ht))) _ _ hv⟩
                rw [upd_same, hpm]
                cases pm <;> rfl
              · rw [e0] at e
                cases c with
                | rule e' c =>
                  simp only [Wm03.row, List.cons_append, List.cons.injEq, true_and] at e
                  rw [Wm03.okP]
                  exact hno c rest e.2
                | set k c x => simp [Wm03.row] at e
            · rw [e0] at e
              simp only [Bool.or_eq_false_iff, decide_eq_false_iff_not] at hb2
              cases c with
              | rule e' c =>
                simp only [Wm03.row, List.cons_append, List.cons.injEq, true_and] at e
                have := e.1
                cases e' <;> simp at this <;> omega
              | set k c x => simp [Wm03.row] at e
          · -- a set
            subst z
            k_call_by "rd" (dle3', dle3')
            refine if_false_of (by decide) ⟨_, rfl, fun hb2 => ?_, fun hb2 => (qe fun c rest e => ?_) _ _ (.inr rfl) k02⟩
            · have hch : choice ≤ 3 := of_decide_eq_true hb2
              refine ⟨10 - n, rfl, fun hd => ?_, fun hd => (qe fun c rest e => ?_) _ _ (.inr rfl) k02⟩
              · match n, hn, hd, c_read_policy, c_read_condition, q, qe with
                | 0, _, hd, _, _, _, _ => exact absurd hd (by omega)
                | n + 1, hn, hd, _, _, q, qe =>
                refine ⟨p, l, r, i + 1 + 1, ns, rs, rfl, hn, R2, fun c rest e ok H3 v j k3 R3 ej hv => ?_, fun hno => (qe fun c rest e => ?_).later k02⟩
                · have k03 : Kept [p, r] H H3 := k02.trans k3
                  have tail : ∀ {pol : Wm03.Pol} {rest'}, ns.drop i = Wm03.row pol ++ rest' → ∃ x, pol = .set choice c x ∧ ns.drop j = x.length :: Wm03.rows x ++ rest' := fun {pol rest'} e' => by
                    rw [e0] at e'
                    cases pol with
                    | rule e' c => simp [Wm03.row] at e'
                    | set k c' x =>
                      simp only [Wm03.row, List.cons_append, List.append_assoc, List.cons.injEq, true_and] at e'
                      have h2 := e'.2
                      rw [e] at h2
                      obtain ⟨h3, h4⟩ := rowC_inj _ _ _ _ h2
                      refine ⟨x, by rw [e'.1, h3], ?_⟩
                      rw [ej, h4]
                      rfl
                  refine ⟨_, rfl, mt_take R3.rd (take_in R3 (fun ee => (qe fun c' rest' e' => ?_).later k03) fun many l4 H4 e4 k4 R4 d4 => ?_)⟩
                  · obtain ⟨x, _, h2⟩ := tail e'
                    rw [ee] at h2
                    cases h2
                  · have hm : many < 2 ^ 60 := hR.small many (by
                      have : many ∈ ns.drop j := by rw [e4]; exact List.mem_cons_self
                      exact List.mem_of_mem_drop this)
                    have k04 : Kept [p, r] H H4 := k03.trans (kr k4)
                    refine ⟨_, rfl, _, rfl, ?_⟩
                    refine ⟨_, rfl, many, rfl, by omega, by omega, fun D hD => ?_⟩
                    refine lc_range (lo := 0) (n := (many : Int).toNat) (fun m H' => ∃ cs j', cs.length = m ∧ PsAt K H4 H' p l r D (j + 1) ns (rs ++ rangesC c) n cs j') ⟨[], j + 1, rfl, PsAt.start hD R4⟩ ?_ ?_
                    · rintro m H' hmm ⟨cs, j', hcs, hC⟩
                      refine ⟨rfl, ?_⟩
                      refine ⟨_, rfl, _, rfl, _, _, rfl, rfl, _, rfl, ?_⟩
                      refine ⟨p, l, r, j', ns, (rs ++ rangesC c) ++ rangesPs cs, congrArg (fun z => [V.ref p, V.int z, V.ref r]) (by omega), by omega, hC.rd, fun c2 rest2 e2 ok2 H5 v2 j2 k5 R5 ej2 hv2 => ?_, fun hno => (qe fun c2 rest2 e2 => ?_).later (k04.trans hC.kp)⟩
                      · obtain ⟨acc, h1, h2, h3⟩ := hC.more hD R4 e2 ok2 k5 R5 ej2 hv2
                        exact ⟨acc, h1, h2, cs ++ [c2], j2, by rw [List.length_append, hcs]; rfl, h3⟩
                      · obtain ⟨x, hx, hx2⟩ := tail e2
                        rw [e4, List.cons_append, List.cons.injEq] at hx2
                        have hx3 := hx2.2
                        rw [← d4, hC.eq] at hx3
                        obtain ⟨c', k', hm', hx'⟩ := rows_split cs x rest2 _ (by omega) hx3.symm
                        rw [hx, Wm03.okP, hm', Nat.add_sub_cancel, okPs_app, Wm03.okPs, hno c' _ hx']
                        simp
                    · rintro H' ⟨cs, j', hcs, hC⟩
                      have hcs : cs.length = many := by omega
                      refine ⟨by show 4 ≤ sizeLine; decide, fun t ht => ?_⟩
                      obtain ⟨ys, hy, hys⟩ := hC.at_
                      have k0' : Kept [p, r] H H' := k04.trans hC.kp
                      have tt := kept_tr k0' hC.rd.tr ht
                      have sU : Same H' (upd H' t (.tup [.int 1, .int choice, v, .ref D])) := same_upd ht
                      have sf : Same (newL H4 H' D) (newOf H (upd H' t (.tup [.int 1, .int choice, v, .ref D]))) := newL_same.trans ((new_later k04 R4.tr).trans (newOf_more sU))
                      have trH := hR.tr
                      have sc : Same (newOf H2 H3) (newOf H (upd H' t (.tup [.int 1, .int choice, v, .ref D]))) :=
                        (new_later k02 R2.tr).trans ((new_kept ((kr k4).trans hC.kp) trH).trans (newOf_more sU))
                      refine q (.set choice c cs) _ ?_ ?_ _ (.ref t) j' (k0'.trans (Kept.of sU)) ?_ rfl ⟨t, v, D, ys, rfl, newOf_at tt upd_same, CondAt.mono sc _ _ hv, newOf_at (kept_tr k04 R4.tr hD) (sU _ _ hy), pols_of_pr (pr_imp hys fun y c z => PolAt.mono sf _ _ z)⟩
                      · rw [e0, e, Wm03.row, ← ej, e4, hcs, ← d4, hC.eq]
                        simp only [List.cons_append, List.append_assoc]
                      · rw [Wm03.okP, Nat.add_sub_cancel, ok, hC.ok, decide_eq_true hch, decide_eq_true (by omega)]
                        rfl
                      · have := hC.rd.same sU
                        rw [List.append_assoc] at this
                        rw [rangesP]
                        exact this
                · rw [e0] at e
                  cases c with
                  | rule e' c => simp [Wm03.row] at e
                  | set k c x =>
                    simp only [Wm03.row, List.cons_append, List.append_assoc, List.cons.injEq, true_and] at e
                    rw [Wm03.okP, hno c _ e.2]
                    simp
              · have n0 : n = 0 := by omega
                subst n0
                rw [e0] at e
                cases c with
                | rule e' c => simp [Wm03.row] at e
                | set k c x => rw [Wm03.okP]; simp
            · rw [e0] at e
              have hb3 := of_decide_eq_false hb2
              cases c with
              | rule e' c => simp [Wm03.row] at e
              | set k c x =>
                simp only [Wm03.row, List.cons_append, List.append_assoc, List.cons.injEq, true_and] at e
                rw [Wm03.okP, ← e.1, decide_eq_false hb3]
                rfl
      · rw [e1] at e
        simp only [Bool.or_eq_false_iff, decide_eq_false_iff_not] at hb
        cases c <;> simp only [Wm03.row, List.cons_append, List.cons.injEq] at e <;> omega
end
end Gh
set_option linter.all false
/-! How many different numbers: the program's way and the specification's. -/
namespace Gh
theorem nodup_sub_len {α : Type} [BEq α] [LawfulBEq α] : ∀ {l m : List α}, l.Nodup → (∀ x ∈ l, x ∈ m) → l.length ≤ m.length
  | [], m, _, _ => Nat.zero_le _
  | a :: l, m, hn, hs => by
    have hn' := List.nodup_cons.mp hn
    have ha : a ∈ m := hs a List.mem_cons_self
    have ih := nodup_sub_len (m := m.erase a) hn'.2 fun x hx => by
      have hne : x ≠ a := fun z => hn'.1 (z ▸ hx)
      exact (List.mem_erase_of_ne hne).mpr (hs x (List.mem_cons_of_mem _ hx))
    have h1 := List.length_erase_of_mem ha
    have h2 : 0 < m.length := List.length_pos_of_mem ha
    rw [List.length_cons]
    omega
theorem step_nodup {l : List Int} {k : Int} (h : l.Nodup) : (PyProof.Rows.step_dedup l k).Nodup := by
  unfold PyProof.Rows.step_dedup
  split
  · exact h
  · rename_i hk
    rw [List.nodup_append]
    refine ⟨h, by simp, fun a ha b hb => ?_⟩
    have e : b = k := by simpa using hb
    subst e
    intro z
    subst z
    apply hk
    exact List.any_eq_true.mpr ⟨_, ha, by simp⟩
theorem diffs_nodup (ns : List Int) : (diffs ns).Nodup := by
  unfold diffs
  generalize ns.length = m
  induction m with
  | zero => rw [PyProof.Rows.firstMet_zero]; exact List.nodup_nil
  | succ m ih => rw [PyProof.Rows.firstMet_succ]; exact step_nodup ih
theorem diffs_mem (ns : List Int) (k : Int) : k ∈ diffs ns ↔ k ∈ ns := by
  have h := PyProof.Rows.firstMet_any (fun i => ns.getD i 0) ns.length k
  have e : (List.range ns.length).map (fun i => ns.getD i 0) = ns := by
    apply List.ext_getElem?
    intro i
    rw [List.getElem?_map]
    by_cases hi : i < ns.length
    · rw [List.getElem?_range hi, Option.map_some, List.getD_eq_getElem?_getD, List.getElem?_eq_getElem hi]
      rfl
    · rw [List.getElem?_eq_none (by rw [List.length_range]; omega), List.getElem?_eq_none (by omega)]
      rfl
  rw [e] at h
  have any_mem : ∀ l : List Int, l.any (· == k) = true ↔ k ∈ l := fun l => by
    rw [List.any_eq_true]
    constructor
    · rintro ⟨x, hx, e⟩
      have : x = k := by simpa using e
      rw [← this]; exact hx
    · intro hx
      exact ⟨k, hx, by simp⟩
  rw [← any_mem (diffs ns), ← any_mem ns, ← h]
  rfl
theorem once_mem (a x : Nat) : ∀ l : List Nat, x ∈ Wm03.once a l ↔ x = a ∨ x ∈ l
  | [] => by simp [Wm03.once]
  | y :: l => by
    have ih := once_mem a x l
    unfold Wm03.once
    split
    · simp
    · split
      · rename_i h
        simp [h]
      · simp only [List.mem_cons, ih]
        constructor
        · rintro (h | h | h)
          · exact .inr (.inl h)
          · exact .inl h
          · exact .inr (.inr h)
        · rintro (h | h | h)
          · exact .inr (.inl h)
          · exact .inl h
          · exact .inr (.inr h)
theorem once_sorted (a : Nat) : ∀ l : List Nat, l.Pairwise (· < ·) → (Wm03.once a l).Pairwise (· < ·)
  | [], _ => by simp [Wm03.once]
  | y :: l, h => by
    have h' := List.pairwise_cons.mp h
    have ih := once_sorted a l h'.2
    unfold Wm03.once
    split
    · rename_i hlt
      refine List.pairwise_cons.mpr ⟨fun z hz => ?_, h⟩
      rcases List.mem_cons.mp hz with e | e
      · rw [e]; exact hlt
      · exact Nat.lt_trans hlt (h'.1 z e)
    · split
      · exact h
      · rename_i h1 h2
        refine List.pairwise_cons.mpr ⟨fun z hz => ?_, ih⟩
        rcases (once_mem a z l).mp hz with e | e
        · rw [e]; omega
        · exact h'.1 z e
theorem setOf_go : ∀ (l r : List Nat), r.Pairwise (· < ·) → (l.foldl (fun r a => Wm03.once a r) r).Pairwise (· < ·) ∧ ∀ x, x ∈ l.foldl (fun r a => Wm03.once a r) r ↔ x ∈ l ∨ x ∈ r
  | [], r, h => ⟨h, fun x => by simp⟩
  | a :: l, r, h => by
    obtain ⟨h1, h2⟩ := setOf_go l (Wm03.once a r) (once_sorted a r h)
    refine ⟨h1, fun x => ?_⟩
    rw [List.foldl_cons, h2, once_mem, List.mem_cons]
    constructor
    · rintro (h | h | h)
      · exact .inl (.inr h)
      · exact .inl (.inl h)
      · exact .inr h
    · rintro ((h | h) | h)
      · exact .inr (.inl h)
      · exact .inl h
      · exact .inr (.inr h)
theorem setOf_nodup (l : List Nat) : (Wm03.setOf l).Nodup := by
  have h := (setOf_go l [] List.Pairwise.nil).1
  unfold Wm03.setOf
  exact h.imp fun h => Nat.ne_of_lt h
theorem setOf_mem (l : List Nat) (x : Nat) : x ∈ Wm03.setOf l ↔ x ∈ l := by
  have h := (setOf_go l [] List.Pairwise.nil).2 x
  unfold Wm03.setOf
  rw [h]
  simp
theorem diffs_len {l m : List Nat} (h : ∀ x, x ∈ l ↔ x ∈ m) : (diffs (l.map fun n : Nat => (n : Int))).length = (Wm03.setOf m).length := by
  apply Nat.le_antisymm
  · have := nodup_sub_len (m := (Wm03.setOf m).map fun n : Nat => (n : Int)) (diffs_nodup (l.map fun n : Nat => (n : Int))) fun x hx => by
      rw [diffs_mem] at hx
      obtain ⟨y, hy, e⟩ := List.mem_map.mp hx
      exact List.mem_map.mpr ⟨y, (setOf_mem m y).mpr ((h y).mp hy), e⟩
    rw [List.length_map] at this
    exact this
  · have hn : ((Wm03.setOf m).map fun n : Nat => (n : Int)).Nodup := by
      have := setOf_nodup m
      unfold List.Nodup at this ⊢
      rw [List.pairwise_map]
      exact this.imp fun h z => h (by omega)
    have := nodup_sub_len (m := diffs (l.map fun n : Nat => (n : Int))) hn fun x hx => by
      obtain ⟨y, hy, e⟩ := List.mem_map.mp hx
      rw [diffs_mem]
      exact List.mem_map.mpr ⟨y, (h y).mpr ((setOf_mem m y).mp hy), e⟩
    rw [List.length_map] at this
    exact this
end Gh
set_option Elab.async false
set_option linter.all false
set_option maxRecDepth 100000
set_option maxHeartbeats 4000000
namespace Gh
open PySem PySem.Spec PyProof.Rows L2
local macro_rules | `(tactic| walk_at "rd") => `(tactic| simp only [tRet, tSeq, tAsg, gName, tDrop, tIfS, tTest, tB, tAnd, tOr, tNot, tAndV, tOrV, tNotV, tCmp, t2I, tAdd, tSub, tMul, tIsN, tNotN, tC, tVar, tCons, tNil, tCall, tOp, tUn, tCB, tNext, tRetN, tIf, tFld, wipe, tYes, HO.ins.injEq, and_assoc, L2.start, List.map_cons, List.map_nil, List.length_cons, List.length_nil, List.cons_append, List.nil_append, List.append_nil, List.set_cons_zero, List.set_cons_succ, List.replicate, Nat.reduceAdd, Nat.reduceSub, Nat.zero_add, Nat.sub_self, List.getElem?_cons_zero, List.getElem?_cons_succ, Option.some.injEq, V.int.injEq, V.bl.injEq, V.ref.injEq, V.str.injEq, List.cons.injEq, reduceCtorEq, and_true, true_and, and_false, false_and, exists_eq_left, exists_eq_left', exists_eq_right, exists_eq_right', exists_and_left, exists_const, exists_false, exists_eq, if_true, if_false, Bool.false_eq_true, Bool.true_eq_false, cxK, andV, orV, andT, orT, deq, dle, dlt, Bool.not_true, Bool.not_false, decide_true, decide_false, ite_true, ite_false])
local macro_rules | `(tactic| k_call_by "rd" ($a, $bs,*)) => do { let cs := bs.getElems; `(tactic| simp only [$a:term, $[$cs:term],*, tRet, tSeq, tAsg, gName, tDrop, tIfS, tTest, tB, tAnd, tOr, tNot, tAndV, tOrV, tNotV, tCmp, t2I, tAdd, tSub, tMul, tIsN, tNotN, tC, tVar, tCons, tNil, tCall, tOp, tUn, tCB, tNext, tRetN, tIf, tFld, wipe, tYes, HO.ins.injEq, and_assoc, L2.start, List.map_cons, List.map_nil, List.length_cons, List.length_nil, List.cons_append, List.nil_append, List.append_nil, List.set_cons_zero, List.set_cons_succ, List.replicate, Nat.reduceAdd, Nat.reduceSub, Nat.zero_add, Nat.sub_self, List.getElem?_cons_zero, List.getElem?_cons_succ, Option.some.injEq, V.int.injEq, V.bl.injEq, V.ref.injEq, V.str.injEq, List.cons.injEq, reduceCtorEq, and_true, true_and, and_false, false_and, exists_eq_left, exists_eq_left', exists_eq_right, exists_eq_right', exists_and_left, exists_const, exists_false, exists_eq, if_true, if_false, Bool.false_eq_true, Bool.true_eq_false, cxK, andV, orV, andT, orT, deq, dle, dlt, Bool.not_true, Bool.not_false, decide_true, decide_false, ite_true, ite_false]) }
section
variable {P : Program} {w : World} {K : PySem.W.Frag} {mg : Str → Option Value} {base : Heap}
def ownR (rs : List Rg) (a : Nat) : List Rg := rs.filter fun t => t.1 == a
def edgesR (rs : List Rg) (a : Nat) : List Nat := (ownR rs a).map (fun t => t.2.1) ++ (ownR rs a).map (fun t => t.2.2 + 1)
def fewEdges (rs : List Rg) (a : Nat) : Prop := (diffs ((edgesR rs a).map fun n : Nat => (n : Int))).length ≤ 6
def spCheckEdges (K : PySem.W.Frag) : Sp := fun vs H Q E => ∃ (r : Addr) (xs : List V) (rs : List Rg), vs = [.ref r] ∧ H r = some (.lst xs) ∧ Paired (RgV H) xs rs ∧ rs.length ≤ 200 ∧
  ((∀ a, 1 ≤ a → a ≤ 4 → fewEdges rs a) → ∀ H', Same H H' → Q .non H') ∧ (∀ a, 1 ≤ a → a ≤ 4 → ¬ fewEdges rs a → ∀ H', Same H H' → E (.ref (He.ga K "BadCode")) none H')
theorem dle6 (n : Nat) : decide ((n : Int) ≤ 6) = decide (n ≤ 6) := dle n 6
theorem cl_check_edges (T : TX K mg) : Cl P w K mg base (L2N.CX P w) "check_edges" 2 ["ranges"] (spCheckEdges K) := by
  have c_check : Cl P w K mg base (L2N.CX P w) "check" 1 ["fits"] (spCheck K) := cl_check T
  refine cl_of (d := d_check_edges) T.g_check_edges T.u_check_edges sc_check_edges b_check_edges (fun vs H Q E h => ?_) (fun cdv A outer s H vs Q E hr h => ⟨_, (pss_one (ps_for (L2.passes_of rfl) rfl (pi_range2 rfl T.f_range (pa_cons pe_int (pa_cons (pe_add (pe_gi T.i_ATTRIBUTES) pe_int) pa_nil))) (pg_name (i := 1) sc_check_edges.nd rfl (Or.inr rfl)) (pss_cons (ps_setLc (i := 2) (own := [("found", 4)]) (g := gName 4) (tt := tB (tEqI (tOp (rIxT K) (tVar 4) (tC (.int (1)))) (tVar 1))) (te := tVar 4) rfl sc_check_edges.nd rfl rfl (sw_true rfl rfl rfl (by decide +kernel)) (pi_list (pv 0)) (blkOk_by (N := N_check_edges) (sc := defScope s_check_edges) (by decide +kernel)) (fun _ _ _ _ _ => pg_name (i := 4) sc_check_edges.nd rfl (Or.inl rfl)) (fun _ _ _ _ _ => (pts_one (pt_cmp (pc_eqI (pe_ix ix_tup (pv 4) pe_int (fun _ _ => rfl)) (pv 1))))) (fun _ _ _ _ _ => (pv 4)))
    (pss_cons (ps_set (i := 3) sc_check_edges.nd rfl (Or.inl rfl) (pe_op op_cat (pe_lc (own := [("found", 4)]) (g := gName 4) (tt := tYes) (te := tOp (rIxT K) (tVar 4) (tC (.int (2)))) rfl sc_check_edges.nd (pi_list (pv 2)) (blkOk_by (N := N_check_edges) (sc := defScope s_check_edges) (by decide +kernel)) (fun _ _ _ _ _ => pg_name (i := 4) sc_check_edges.nd rfl (Or.inl rfl)) (fun _ _ _ _ _ => pts_nil) (fun _ _ _ _ _ => (pe_ix ix_tup (pv 4) pe_int (fun _ _ => rfl)))) (pe_lc (own := [("found", 4)]) (g := gName 4) (tt := tYes) (te := tAdd (tOp (rIxT K) (tVar 4) (tC (.int (3)))) (tC (.int (1)))) rfl sc_check_edges.nd (pi_list (pv 2)) (blkOk_by (N := N_check_edges) (sc := defScope s_check_edges) (by decide +kernel)) (fun _ _ _ _ _ => pg_name (i := 4) sc_check_edges.nd rfl (Or.inl rfl)) (fun _ _ _ _ _ => pts_nil) (fun _ _ _ _ _ => (pe_add (pe_ix ix_tup (pv 4) pe_int (fun _ _ => rfl)) pe_int)))))
    (pss_one (ps_expr (pe_c c_check (hr.mono (by omega)) (L2N.passes_call (L2N.takes_of rfl rfl rfl rfl) fun _ _ _ _ h => h) (pa_cons (pe_cmp (pc_le (pe_lenSetG rfl T.f_len rfl T.f_set (pv 3)) (pe_gi T.i_MOST_EDGES)) rfl) pa_nil)))))))), ?_⟩)
  · obtain ⟨r, xs, rs, rfl, _⟩ := h
    rfl
  · obtain ⟨r, xs, rs, rfl, hr0, hxs, hn, q, qe⟩ := h
    obtain ⟨Pv, hPv⟩ : ∃ Pv : Nat → L2.St → Hp → Prop, ∀ i σ H', Pv i σ H' ↔ ∃ v1 v2 v3, σ = [some (.ref r), v1, v2, v3, none] ∧ Same H H' ∧ ∀ a, 1 ≤ a → a ≤ i → fewEdges rs a := ⟨_, fun _ _ _ => Iff.rfl⟩
    refine ⟨_, _, rfl, rfl, 1, 5, rfl, ⟨by decide, by decide, by decide, by decide⟩, for_range (lo := 1) (n := 4) Pv ((hPv _ _ _).mpr ⟨none, none, none, rfl, Same.refl _, fun a h1 h2 => by omega⟩) ?_ ?_⟩
    · intro i σ H' hi z
      obtain ⟨v1, v2, v3, rfl, s', few⟩ := (hPv _ _ _).mp z
      have ei : ((1 : Int) + (i : Nat)) = ((i + 1 : Nat) : Int) := by omega
      have hq : SqL K H' r xs := SqL.of (s' _ _ hr0)
      refine ⟨_, rfl, r, rfl, ⟨_, hq⟩, fun D hD => ?_⟩
      refine lc_rows (R := RgV H) (S := RgV H) hq hxs (by rw [pr_len hxs]; omega) (fun t => t.1 == i + 1) hD (fun x => rfl) ?_ ?_ ?_
      · rintro x t hm hx H2 s2 R hR
        obtain ⟨b, rfl, hb⟩ := hx.mono (s'.trans s2)
        refine ⟨_, rfl, b, _, _, _, rfl, rfl, SqT.of hb, (show atI _ _ = some (V.int t.1) from rfl), _, rfl, _, _, rfl, rfl, _, rfl, ?_⟩
        rw [ei]
        show R (decide ((t.1 : Int) = ((i + 1 : Nat) : Int))) H2
        rw [deq]
        exact hR _ (Same.refl _)
      · rintro x t hm hx _ H2 s2 R hR
        exact ⟨_, rfl, hR _ _ hx (Same.refl _)⟩
      · intro ys H1 hys s1 hd
        have ow : (ownR rs (i + 1)).length ≤ 200 := Nat.le_trans (List.length_filter_le _ _) hn
        change Paired (RgV H) ys (ownR rs (i + 1)) at hys
        refine ⟨_, rfl, D, rfl, ⟨_, SqL.of hd⟩, fun D2 hD2 => ?_⟩
        refine lc_rows (R := RgV H) (S := fun y t => y = V.int (t.2.1 : Nat)) (SqL.of hd) hys (by rw [pr_len hys]; omega) (fun _ => true) hD2 (fun x => rfl) ?_ ?_ ?_
        · rintro x t hm hx H2 s2 R hR
          exact hR _ (Same.refl _)
        · rintro x t hm hx _ H2 s2 R hR
          obtain ⟨b, rfl, hb⟩ := hx.mono (s'.trans (s1.trans s2))
          exact ⟨_, rfl, b, _, _, _, rfl, rfl, SqT.of hb, (show atI _ _ = some (V.int t.2.1) from rfl), hR _ _ rfl (Same.refl _)⟩
        · intro ys2 H2 hys2 s2 hd2
          refine ⟨_, rfl, D, rfl, ⟨_, SqL.of (s2 _ _ hd)⟩, fun D3 hD3 => ?_⟩
          refine lc_rows (R := RgV H) (S := fun y t => y = V.int ((t.2.2 : Nat) + 1)) (SqL.of (s2 _ _ hd)) hys (by rw [pr_len hys]; omega) (fun _ => true) hD3 (fun x => rfl) ?_ ?_ ?_
          · rintro x t hm hx H3 s3 R hR
            exact hR _ (Same.refl _)
          · rintro x t hm hx _ H3 s3 R hR
            obtain ⟨b, rfl, hb⟩ := hx.mono (s'.trans (s1.trans (s2.trans s3)))
            exact ⟨_, rfl, b, _, _, _, rfl, rfl, SqT.of hb, (show atI _ _ = some (V.int t.2.2) from rfl), _, _, rfl, rfl, hR _ _ rfl (Same.refl _)⟩
          · intro ys3 H3 hys3 s3 hd3
            have e2 := pr_map hys2
            have e3 := pr_map hys3
            rw [List.filter_eq_self.mpr (fun _ _ => rfl)] at e2 e3
            have l2 : ys2.length ≤ 200 := by rw [e2, List.length_map]; exact ow
            have l3 : ys3.length ≤ 200 := by rw [e3, List.length_map]; exact ow
            refine ⟨D2, D3, ys2, ys3, rfl, rfl, s3 _ _ hd2, hd3, Nat.le_of_lt (sz1000 (by omega)), fun D4 hD4 => ?_⟩
            have e4 : ys2 ++ ys3 = ((edgesR rs (i + 1)).map fun n : Nat => (n : Int)).map V.int := by
              rw [e2, e3]
              unfold edgesR
              simp only [List.map_append, List.map_map]
              congr 1
            have s4 : Same H (upd H3 D4 (.lst (ys2 ++ ys3))) := s'.trans (s1.trans (s2.trans (s3.trans (same_upd hD4))))
            refine ⟨_, rfl, D4, _, rfl, SqL.of (upd_same.trans (congrArg (fun z => some (HO.lst z)) e4)), ?_, ?_⟩
            · have := congrArg List.length e4
              rw [List.length_append, List.length_map, List.length_map] at this
              rw [List.length_map]
              omega
            · refine ⟨_, _, rfl, rfl, _, rfl, fun c => ?_, fun c => ?_⟩
              · refine (hPv _ _ _).mpr ⟨_, _, _, rfl, s4, fun a h1 h2 => ?_⟩
                by_cases ha : a = i + 1
                · subst ha
                  have c' := of_decide_eq_true c
                  unfold fewEdges
                  omega
                · exact few a h1 (by omega)
              · refine qe (i + 1) (by omega) (by omega) (fun z => ?_) _ s4
                have c' := of_decide_eq_false c
                unfold fewEdges at z
                omega
    · intro σ H' z
      obtain ⟨v1, v2, v3, rfl, s', few⟩ := (hPv _ _ _).mp z
      exact q few H' s'
def cutR (a : Nat) (t : Rg) : List Nat := if a = t.1 then [t.2.1, t.2.2 + 1] else []
mutual
theorem cutsIn_eq (a : Nat) : ∀ c : Wm03.Cond, Wm03.cutsIn a c = (rangesC c).flatMap (cutR a)
  | .yes => by simp [Wm03.cutsIn, rangesC]
  | .range b lo hi => by simp [Wm03.cutsIn, rangesC, cutR]
  | .all l => by rw [Wm03.cutsIn, rangesC]; exact cutsOf_eq a l
  | .any l => by rw [Wm03.cutsIn, rangesC]; exact cutsOf_eq a l
  | .no c => by rw [Wm03.cutsIn, rangesC]; exact cutsIn_eq a c
theorem cutsOf_eq (a : Nat) : ∀ l : List Wm03.Cond, Wm03.cutsOf a l = (rangesCs l).flatMap (cutR a)
  | [] => by simp [Wm03.cutsOf, rangesCs]
  | c :: l => by rw [Wm03.cutsOf, rangesCs, List.flatMap_append, cutsIn_eq a c, cutsOf_eq a l]
end
mutual
theorem cutsPol_eq (a : Nat) : ∀ c : Wm03.Pol, Wm03.cutsPol a c = (rangesP c).flatMap (cutR a)
  | .rule e c => by rw [Wm03.cutsPol, rangesP]; exact cutsIn_eq a c
  | .set k c l => by rw [Wm03.cutsPol, rangesP, List.flatMap_append, cutsIn_eq a c, cutsPols_eq a l]
theorem cutsPols_eq (a : Nat) : ∀ l : List Wm03.Pol, Wm03.cutsPols a l = (rangesPs l).flatMap (cutR a)
  | [] => by simp [Wm03.cutsPols, rangesPs]
  | c :: l => by rw [Wm03.cutsPols, rangesPs, List.flatMap_append, cutsPol_eq a c, cutsPols_eq a l]
end
theorem edges_mem (rs : List Rg) (a x : Nat) : x ∈ edgesR rs a ↔ x ∈ rs.flatMap (cutR a) := by
  unfold edgesR ownR
  rw [List.mem_append, List.mem_map, List.mem_map, List.mem_flatMap]
  constructor
  · rintro (⟨t, ht, e⟩ | ⟨t, ht, e⟩)
    · obtain ⟨h1, h2⟩ := List.mem_filter.mp ht
      have h3 : t.1 = a := by simpa using h2
      exact ⟨t, h1, by unfold cutR; rw [if_pos h3.symm, ← e]; simp⟩
    · obtain ⟨h1, h2⟩ := List.mem_filter.mp ht
      have h3 : t.1 = a := by simpa using h2
      exact ⟨t, h1, by unfold cutR; rw [if_pos h3.symm, ← e]; simp⟩
  · rintro ⟨t, ht, hx⟩
    unfold cutR at hx
    by_cases h3 : a = t.1
    · rw [if_pos h3] at hx
      have hf : t ∈ rs.filter fun t => t.1 == a := List.mem_filter.mpr ⟨ht, by simp [h3]⟩
      rcases List.mem_cons.mp hx with e | e
      · exact .inl ⟨t, hf, e.symm⟩
      · exact .inr ⟨t, hf, (List.mem_singleton.mp e).symm⟩
    · rw [if_neg h3] at hx
      cases hx
theorem few_iff (p : Wm03.Pol) (a : Nat) : fewEdges (rangesP p) a ↔ (Wm03.setOf (Wm03.cutsPol a p)).length ≤ 6 := by
  unfold fewEdges
  rw [diffs_len (m := Wm03.cutsPol a p) fun x => by rw [edges_mem, cutsPol_eq]]
theorem isPol_of {p : Wm03.Pol} (h1 : (Wm03.row p).length ≤ 120) (h2 : Wm03.okP 10 p = true) (h3 : ∀ a, 1 ≤ a → a ≤ 4 → fewEdges (rangesP p) a) : Wm03.isPol p = true := by
  unfold Wm03.isPol
  rw [decide_eq_true h1, h2, Bool.true_and, Bool.true_and, List.all_eq_true]
  intro a ha
  refine decide_eq_true ((few_iff p a).mp (h3 a ?_ ?_)) <;> (simp at ha; omega)
theorem notPol_of {p : Wm03.Pol} {a : Nat} (h1 : 1 ≤ a) (h4 : a ≤ 4) (h3 : ¬ fewEdges (rangesP p) a) : Wm03.isPol p = false := by
  unfold Wm03.isPol
  have : ([1, 2, 3, 4].all fun a => decide ((Wm03.setOf (Wm03.cutsPol a p)).length ≤ 6)) = false := by
    rw [List.all_eq_false]
    refine ⟨a, by simp; omega, ?_⟩
    intro z
    exact h3 ((few_iff p a).mpr (of_decide_eq_true z))
  rw [this]
  simp
theorem notPol_ok {p : Wm03.Pol} (h : Wm03.okP 10 p = false) : Wm03.isPol p = false := by
  unfold Wm03.isPol
  rw [h]
  simp
theorem notPol_len {p : Wm03.Pol} (h : ¬ (Wm03.row p).length ≤ 120) : Wm03.isPol p = false := by
  unfold Wm03.isPol
  rw [decide_eq_false h]
  rfl
mutual
theorem rangesC_len : ∀ c : Wm03.Cond, (rangesC c).length ≤ (Wm03.rowC c).length
  | .yes => by simp [rangesC]
  | .range a lo hi => by simp [rangesC, Wm03.rowC]
  | .all l => by have := rangesCs_len l; simp only [rangesC, Wm03.rowC, List.length_cons]; omega
  | .any l => by have := rangesCs_len l; simp only [rangesC, Wm03.rowC, List.length_cons]; omega
  | .no c => by have := rangesC_len c; simp only [rangesC, Wm03.rowC, List.length_cons]; omega
theorem rangesCs_len : ∀ c : List Wm03.Cond, (rangesCs c).length ≤ (Wm03.rowCs c).length
  | [] => by simp [rangesCs]
  | c :: l => by have := rangesC_len c; have := rangesCs_len l; simp only [rangesCs, Wm03.rowCs, List.length_append]; omega
end
mutual
theorem rangesP_len : ∀ c : Wm03.Pol, (rangesP c).length ≤ (Wm03.row c).length
  | .rule e c => by have := rangesC_len c; simp only [rangesP, Wm03.row, List.length_cons]; omega
  | .set k c l => by have := rangesC_len c; have := rangesPs_len l; simp only [rangesP, Wm03.row, List.length_append, List.length_cons]; omega
theorem rangesPs_len : ∀ c : List Wm03.Pol, (rangesPs c).length ≤ (Wm03.rows c).length
  | [] => by simp [rangesPs]
  | c :: l => by have := rangesP_len c; have := rangesPs_len l; simp only [rangesPs, Wm03.rows, List.length_append]; omega
end
def spReadCode (K : PySem.W.Frag) : Sp := fun vs H Q E => ∃ (l : Addr) (ns : List Nat), vs = [.ref l] ∧ H l = some (.lst (nats ns)) ∧ ns.length ≤ 1000 ∧ (∀ n ∈ ns, n < 2 ^ 60) ∧
  (∀ p, ns = Wm03.row p → Wm03.isPol p = true → ∀ H' v, Same H H' → PolAt (newOf H H') p v → Q v H') ∧ ((∀ p, ns = Wm03.row p → Wm03.isPol p = false) → ∀ H', Same H H' → E (.ref (He.ga K "BadCode")) none H')
theorem dle120 (n : Nat) : decide ((n : Int) ≤ 120) = decide (n ≤ 120) := dle n 120
theorem cl_read_code (T : TX K mg) : Cl P w K mg base (L2.CX P w) "read_code" 18 ["code"] (spReadCode K) := by
  have c_check : Cl P w K mg base (L2.CX P w) "check" 1 ["fits"] (spCheck K) := (cl_check T).cxN
  have c_check_edges : Cl P w K mg base (L2.CX P w) "check_edges" 2 ["ranges"] (spCheckEdges K) := (cl_check_edges T).cxN
  have c_read_policy : Cl P w K mg base (L2N.CX P w) "read_policy" 17 ["reader", "depth", "ranges"] (spRP K 11) := cl_read_policy T 11
  have c_Reader : Il P w K mg base CX0 "Reader" (He.ga K "Reader") 1 ["self", "numbers"] (spReaderInit K) := il_Reader T
  have c_Reader_at_end : Ml P w K mg base CX0 (He.ga K "Reader") "at_end" 1 ["self"] (spAtEnd K) := ml_at_end T
  refine cl_of (d := d_read_code) T.g_read_code T.u_read_code sc_read_code b_read_code (fun vs H Q E h => ?_) (fun cdv A outer s H vs Q E hr h => ⟨_, (pss_cons (ps_expr (pe_c c_check (hr.mono (by omega)) (L2.passes_call (L2.takes_of rfl rfl rfl rfl) fun _ _ _ _ h => h) (pa_cons (pe_cmp (pc_le (pe_callB cr_lenS (by rfl) T.f_len PySem.boot_len (pa_cons (pv 0) pa_nil)) (pe_gi T.i_MOST_NUMBERS)) rfl) pa_nil)))
    (pss_cons (ps_set (i := 1) sc_read_code.nd rfl (Or.inl rfl) (pe_i c_Reader (hr.mono (by omega)) pass0 (pa_cons (pv 0) pa_nil)))
    (pss_cons (ps_set (i := 2) sc_read_code.nd rfl (Or.inl rfl) (pe_lst pa_nil))
    (pss_cons (ps_try_asX (i := 4) (c := .ref (He.ga K "TooFew")) (ts := fun a cls _ => fun _ σ H2 => σ[4]? = some (some (.ref a)) ∧ PySem.W.subIn K cls (.type "BaseException") = some true ∧ E (.ref (He.ga K "BadCode")) none H2) rfl rfl sc_read_code.nd rfl rfl ⟨rfl, by decide, .inl T.g_TooFew⟩ (L2H.passesAt_of rfl) (L2.takes_of rfl rfl rfl rfl) (fun W pn xe tk _ => pss_one (ps_set (i := 3) sc_read_code.nd rfl (Or.inl rfl) (pe_cS c_read_policy (hr.mono (by omega)) (fun σ => L2N.passAt tk σ) (pa_cons (pv 1) (pa_cons pe_int (pa_cons (pv 2) pa_nil)))))) (fun a oe cls d pn xe hz hf tk => pss_one (ps_raiseHC (i := 4) rfl List.mem_cons_self hf hz rfl rfl tk (pmk_own5 PySem.F.excBase_ValueError (T.x_BadCode).1 T.g_BadCode (T.x_BadCode).2.1 (raises_own (T.x_BadCode).2.2.1 (T.x_BadCode).2.2.2) (by exact rfl)))))
    (pss_cons (ps_expr (pe_c c_check (hr.mono (by omega)) (L2.passes_call (L2.takes_of rfl rfl rfl rfl) fun _ _ _ _ h => h) (pa_cons (pe_m0 c_Reader_at_end (hr.mono (by omega)) pass0 (pv 1)) pa_nil)))
    (pss_cons (ps_expr (pe_c c_check_edges (hr.mono (by omega)) (L2.passes_call (L2.takes_of rfl rfl rfl rfl) fun _ _ _ _ h => h) (pa_cons (pv 2) pa_nil)))
    (pss_one (ps_ret (pv 3))))))))), ?_⟩)
  · obtain ⟨l, ns, rfl, _⟩ := h
    rfl
  · obtain ⟨l, ns, rfl, hS, hn, hsm, q, qe⟩ := h
    walk_at "rd"
    refine lenS (SqL.of hS) ?_
    rw [nats_len]
    k_call_by "rd" (dle120, dle120)
    refine ⟨_, rfl, fun c0 => ?_, fun c0 => qe (fun p e => notPol_len fun z => of_decide_eq_false c0 (by rw [e]; exact z)) H (Same.refl _)⟩
    have hlen : ns.length ≤ 120 := of_decide_eq_true c0
    refine ⟨_, rfl, fun x dx nx nd ne => ?_⟩
    refine ⟨x, dx, _, rfl, upd_same, fun H1 hx k1 => ⟨rfl, ?_⟩⟩
    have s1 : Same H H1 := made_same nx nd k1
    refine ⟨by decide, fun r hr1 => ?_⟩
    have s2 : Same H1 (upd H1 r (.lst [])) := same_upd hr1
    have s02 : Same H (upd H1 r (.lst [])) := s1.trans s2
    have hrH : H r = none := s1.free hr1
    have hl2 := s02 _ _ hS
    have R0 : Rdg K (upd H1 r (.lst [])) x l r 0 ns [] := ⟨⟨dx, s2 _ _ hx⟩, SqL.of hl2, ⟨[], upd_same, .nil⟩, by omega, ne_of_none hS hrH, by simp, hsm⟩
    have new : ∀ {H' : Hp}, Kept [x, r] (upd H1 r (.lst [])) H' → Same H H' := fun {H'} k b o e => k b o (s02 b o e) (by
      have h1 : b ≠ x := ne_of_none e nx
      have h2 : b ≠ r := ne_of_none e hrH
      simp [h1, h2])
    walk_at "rd"
    refine ⟨_, rfl, _, rfl, x, l, r, 0, ns, [], rfl, by decide, R0, fun c rest e ok H3 v j k3 R3 ej hv => ?_, fun hno cls H' bad k => ?_⟩
    · have e' : ns = Wm03.row c ++ rest := by rw [← e]; rfl
      have s3 : Same H H3 := new k3
      obtain ⟨dx3, hx3⟩ := R3.rd
      obtain ⟨xs, hr3, hxs⟩ := R3.rg
      refine ⟨_, rfl, x, dx3, _, rfl, hx3, rF_no _ _ (by decide +kernel) (by decide +kernel), x, l, j, ns, rfl, R3.rd, R3.sq, ?_⟩
      refine ⟨_, rfl, fun c1 => ?_, fun c1 => qe (fun p hp => ?_) _ s3⟩
      · have hj : ns.length ≤ j := of_decide_eq_true c1
        have hrest : rest = [] := by rw [← ej]; exact List.drop_eq_nil_iff.mpr hj
        have en : ns = Wm03.row c := by rw [e', hrest, List.append_nil]
        have hrl : (rangesP c).length ≤ 200 := by
          have h1 := rangesP_len c
          rw [← en] at h1
          omega
        refine ⟨r, xs, rangesP c, rfl, hr3, by have := hxs; rw [List.nil_append] at this; exact this, hrl, fun few H4 s4 => ?_, fun a h1 h4 nf H4 s4 => qe (fun p hp => ?_) _ (s3.trans s4)⟩
        · refine q c en (isPol_of (by rw [← en]; exact hlen) ok few) H4 v (s3.trans s4) (PolAt.mono ?_ _ _ hv)
          intro b o eb
          obtain ⟨h1, h2⟩ := of_newOf eb
          exact newOf_at (s02.free h1) (s4 _ _ h2)
        · have : c = p := (row_inj c p [] [] (by rw [List.append_nil, List.append_nil, ← en, hp])).1
          rw [← this]
          exact notPol_of h1 h4 nf
      · exfalso
        have h1 := (row_inj c p rest [] (by rw [← e', List.append_nil, hp])).2
        have h2 := of_decide_eq_false c1
        rw [h1] at ej
        exact h2 (List.drop_eq_nil_iff.mp ej)
    · have hE : E (.ref (He.ga K "BadCode")) none H' := qe (fun p hp => notPol_ok (hno p [] (by rw [List.append_nil, ← hp]; rfl))) H' (new k)
      rcases bad with rfl | rfl
      · exact ⟨true, T.e_TooFew_TooFew, fun _ a ha => ⟨rfl, (T.x_TooFew).2.2.1, hE⟩, fun z => nomatch z⟩
      · exact ⟨false, T.e_BadCode_TooFew, fun z => (nomatch z), fun _ => hE⟩
end
end Gh
set_option Elab.async false
set_option linter.all false
set_option maxRecDepth 100000
set_option maxHeartbeats 4000000
namespace Gh
open PySem PySem.Spec PyProof.Rows L2
local macro_rules | `(tactic| walk_at "rd") => `(tactic| simp only [tRet, tSeq, tAsg, gName, tDrop, tIfS, tTest, tB, tAnd, tOr, tNot, tAndV, tOrV, tNotV, tCmp, t2I, tAdd, tSub, tMul, tIsN, tNotN, tC, tVar, tCons, tNil, tCall, tOp, tUn, tCB, tNext, tRetN, tIf, tFld, wipe, tYes, HO.ins.injEq, and_assoc, L2.start, List.map_cons, List.map_nil, List.length_cons, List.length_nil, List.cons_append, List.nil_append, List.append_nil, List.set_cons_zero, List.set_cons_succ, List.replicate, Nat.reduceAdd, Nat.reduceSub, Nat.zero_add, Nat.sub_self, List.getElem?_cons_zero, List.getElem?_cons_succ, Option.some.injEq, V.int.injEq, V.bl.injEq, V.ref.injEq, V.str.injEq, List.cons.injEq, reduceCtorEq, and_true, true_and, and_false, false_and, exists_eq_left, exists_eq_left', exists_eq_right, exists_eq_right', exists_and_left, exists_const, exists_false, exists_eq, if_true, if_false, Bool.false_eq_true, Bool.true_eq_false, cxK, andV, orV, andT, orT, deq, dle, dlt, Bool.not_true, Bool.not_false, decide_true, decide_false, ite_true, ite_false])
local macro_rules | `(tactic| k_call_by "rd" ($a, $bs,*)) => do { let cs := bs.getElems; `(tactic| simp only [$a:term, $[$cs:term],*, tRet, tSeq, tAsg, gName, tDrop, tIfS, tTest, tB, tAnd, tOr, tNot, tAndV, tOrV, tNotV, tCmp, t2I, tAdd, tSub, tMul, tIsN, tNotN, tC, tVar, tCons, tNil, tCall, tOp, tUn, tCB, tNext, tRetN, tIf, tFld, wipe, tYes, HO.ins.injEq, and_assoc, L2.start, List.map_cons, List.map_nil, List.length_cons, List.length_nil, List.cons_append, List.nil_append, List.append_nil, List.set_cons_zero, List.set_cons_succ, List.replicate, Nat.reduceAdd, Nat.reduceSub, Nat.zero_add, Nat.sub_self, List.getElem?_cons_zero, List.getElem?_cons_succ, Option.some.injEq, V.int.injEq, V.bl.injEq, V.ref.injEq, V.str.injEq, List.cons.injEq, reduceCtorEq, and_true, true_and, and_false, false_and, exists_eq_left, exists_eq_left', exists_eq_right, exists_eq_right', exists_and_left, exists_const, exists_false, exists_eq, if_true, if_false, Bool.false_eq_true, Bool.true_eq_false, cxK, andV, orV, andT, orT, deq, dle, dlt, Bool.not_true, Bool.not_false, decide_true, decide_false, ite_true, ite_false]) }
section
variable {P : Program} {w : World} {K : PySem.W.Frag} {mg : Str → Option Value} {base : Heap}
def askR (u r : Nat) (q : List Nat) : Bool := Wm01.isUser u && (Wm01.isRight r && Wm08.isRequest q)
theorem askR_false {u r : Nat} {q : List Nat} : askR u r q = false ↔ (Wm01.isUser u = false ∨ Wm01.isRight r = false ∨ Wm08.isRequest q = false) := by
  unfold askR
  cases Wm01.isUser u <;> cases Wm01.isRight r <;> cases Wm08.isRequest q <;> simp
theorem askR_true {u r : Nat} {q : List Nat} (h : askR u r q = true) : u ≠ 0 ∧ Wm01.isRight r = true ∧ q.length = 4 := by
  unfold askR at h
  simp only [Bool.and_eq_true] at h
  refine ⟨?_, h.2.1, ?_⟩
  · have := h.1
    unfold Wm01.isUser at this
    simp only [Bool.and_eq_true, decide_eq_true_eq] at this
    omega
  · have := h.2.2
    unfold Wm08.isRequest at this
    simp only [Bool.and_eq_true, beq_iff_eq] at this
    exact this.1
def spAsked (K : PySem.W.Frag) : Sp := fun vs H Q _ => ∃ (u r : Nat) (l : Addr) (q : List Nat), vs = [.int u, .int r, .ref l] ∧ SqL K H l (nats q) ∧ q.length ≤ 1000 ∧ ∀ H', Same H H' → Q (.bl (askR u r q)) H'
theorem cl_is_asked_rightly (T : TX K mg) : Cl P w K mg base CX0 "is_asked_rightly" 2 ["user", "door", "values"] (spAsked K) := by
  have c_is_user : Cl P w K mg base CX0 "is_user" 1 ["number"] spIsUser := cl_is_user T
  have c_is_door : Cl P w K mg base CX0 "is_door" 1 ["number"] spIsDoor := cl_is_door T
  have c_is_request : Cl P w K mg base CX0 "is_request" 1 ["values"] (spIsRequest K) := cl_is_request T
  refine cl_of (d := d_is_asked_rightly) T.g_is_asked_rightly T.u_is_asked_rightly sc_is_asked_rightly b_is_asked_rightly (fun vs H Q E h => ?_) (fun cdv A outer s H vs Q E hr h => ⟨_, PSs.nox (pss_one (ps_ret (pe_and (pe_c c_is_user (hr.mono (by omega)) pass0 (pa_cons (pv 0) pa_nil)) (pe_and (pe_c c_is_door (hr.mono (by omega)) pass0 (pa_cons (pv 1) pa_nil)) (pe_one (pe_c c_is_request (hr.mono (by omega)) pass0 (pa_cons (pv 2) pa_nil))))))), ?_⟩)
  · obtain ⟨u, r, l, q, rfl, _⟩ := h
    rfl
  · obtain ⟨u, r, l, q, rfl, hS, hq, hQ⟩ := h
    unfold askR at hQ
    walk_at "rd"
    refine ⟨u, rfl, ?_⟩
    walk_at "rd"
    cases c1 : Wm01.isUser u with
    | false =>
      rw [c1] at hQ
      exact if_false_of rfl (hQ H (Same.refl _))
    | true =>
      rw [c1] at hQ
      refine if_true_of rfl ⟨r, rfl, ?_⟩
      walk_at "rd"
      cases c2 : Wm01.isRight r with
      | false =>
        rw [c2] at hQ
        exact if_false_of rfl (hQ H (Same.refl _))
      | true =>
        rw [c2] at hQ
        exact if_true_of rfl ⟨l, q, rfl, hS, hq, fun H' s' => hQ H' s'⟩
/-- the grants of the house, as share asks for them -/
theorem HsAt.grants {H : Hp} {d : Ad} {s : Wm08.State} {k : Nat} (h : HsAt K H d s) (g : Good s k) (hk : k ≤ 60) : ∃ xs, SqL K H d.g xs ∧ Paired (GrV K H) xs s.grants ∧ s.grants.length ≤ 1000 := by
  obtain ⟨xs, h1, h2⟩ := h.gr
  exact ⟨xs, SqL.of h1, grs_mono less_same h2, Nat.le_trans g.gl (by omega)⟩
def spMakerHas (K : PySem.W.Frag) : Sp := fun vs H Q _ => ∃ (d : Ad) (s : Wm08.State) (k : Nat) (a c : Addr) (ys : List V) (t : Wm08.Tick), vs = [.ref d.h, .ref a] ∧ HsAt K H d s ∧ Good s k ∧ k ≤ 60 ∧ TkAt K H a c ys t ∧ ∀ H', Same H H' → Q (.bl (decide (0 < share s.grants t.issuer t.right))) H'
theorem cl_maker_has_right (T : TX K mg) : Cl P w K mg base CX0 "maker_has_right" 2 ["house", "ticket"] (spMakerHas K) := by
  have c_share : Cl P w K mg base CX0 "share" 1 ["grants", "user", "right"] (spShare K) := cl_share T
  refine cl_of (d := d_maker_has_right) T.g_maker_has_right T.u_maker_has_right sc_maker_has_right b_maker_has_right (fun vs H Q E h => ?_) (fun cdv A outer s H vs Q E hr h => ⟨_, PSs.nox (pss_one (ps_ret (pe_cmp (pc_gt (pe_c c_share (hr.mono (by omega)) pass0 (pa_cons (pe_fld (pv 0) rfl) (pa_cons (pe_fld (pv 1) rfl) (pa_cons (pe_fld (pv 1) rfl) pa_nil)))) pe_int) rfl))), ?_⟩)
  · obtain ⟨d, s, k, a, c, ys, t, rfl, _⟩ := h
    rfl
  · obtain ⟨d, s, k, a, c, ys, t, rfl, hs, g, hk, ht, hQ⟩ := h
    obtain ⟨⟨dx, ht⟩, _, _⟩ := ht
    have hh := hs.hh
    obtain ⟨xs, g1, g2, g3⟩ := hs.grants g hk
    k_call_by "rd" (hh, ht, T.c_House, T.n_House_grants, hF_grants, T.c_Ticket, T.n_Ticket_maker, tF_maker, T.n_Ticket_door, tF_door)
    refine ⟨d.g, xs, _, t.issuer, t.right, rfl, g1, g2, g3, fun H' s' => ?_⟩
    walk_at "rd"
    have := hQ H' s'
    rw [← dlt] at this
    exact this
def spIsGood (K : PySem.W.Frag) : Sp := fun vs H Q _ => ∃ (d : Ad) (s : Wm08.State) (k : Nat) (a c : Addr) (ys : List V) (t : Wm08.Tick) (l : Addr) (q : List Nat), vs = [.ref d.h, .ref a, .ref l] ∧ HsAt K H d s ∧ Good s k ∧ k ≤ 60 ∧ TkAt K H a c ys t ∧ t.caveats.length ≤ 8 ∧ SqL K H l (nats q) ∧ q.length = 4 ∧
  ∀ H', Same H H' → Q (.bl (decide (0 < share s.grants t.issuer t.right) && t.caveats.all (Wm06.holds q))) H'
theorem cl_is_good (T : TX K mg) : Cl P w K mg base CX0 "is_good" 3 ["house", "ticket", "values"] (spIsGood K) := by
  have c_maker_has_right : Cl P w K mg base CX0 "maker_has_right" 2 ["house", "ticket"] (spMakerHas K) := cl_maker_has_right T
  have c_all_hold : Cl P w K mg base CX0 "all_hold" 2 ["caveats", "values"] (spAllHold K) := cl_all_hold T
  refine cl_of (d := d_is_good) T.g_is_good T.u_is_good sc_is_good b_is_good (fun vs H Q E h => ?_) (fun cdv A outer s H vs Q E hr h => ⟨_, PSs.nox (pss_one (ps_ret (pe_and (pe_c c_maker_has_right (hr.mono (by omega)) pass0 (pa_cons (pv 0) (pa_cons (pv 1) pa_nil))) (pe_one (pe_c c_all_hold (hr.mono (by omega)) pass0 (pa_cons (pe_fld (pv 1) rfl) (pa_cons (pv 2) pa_nil))))))), ?_⟩)
  · obtain ⟨d, s, k, a, c, ys, t, l, q, rfl, _⟩ := h
    rfl
  · obtain ⟨d, s, k, a, c, ys, t, l, q, rfl, hs, g, hk, ht, h8, hS, hq, hQ⟩ := h
    walk_at "rd"
    refine ⟨d, s, k, a, c, ys, t, rfl, hs, g, hk, ht, fun H' s' => ?_⟩
    walk_at "rd"
    cases c1 : decide (0 < share s.grants t.issuer t.right) with
    | false =>
      rw [c1] at hQ
      exact if_false_of rfl (hQ H' s')
    | true =>
      rw [c1] at hQ
      obtain ⟨⟨dx, h1⟩, h2, h3⟩ := ht.mono s'
      refine if_true_of rfl ?_
      k_call_by "rd" (h1, T.c_Ticket, T.n_Ticket_caveats, tF_caveats)
      exact ⟨c, ys, t.caveats, l, q, rfl, SqL.of h2, h3, by omega, s'.seq hS, hq, fun H2 s2 => hQ H2 (s'.trans s2)⟩
/-! ### tickets by their number -/
theorem tk_find {H : Hp} {n : Nat} : ∀ {ts : List (Key × V)} {l : List Wm08.Tick}, Paired (TkE K H) ts l → (l.find? (fun t => t.num == n) = none ∧ valV ts (.inl (n : Int)) = none) ∨ ∃ t v, l.find? (fun t => t.num == n) = some t ∧ valV ts (.inl (n : Int)) = some v ∧ TkV K H v t
  | _, _, .nil => .inl ⟨rfl, rfl⟩
  | (k, v) :: ts, t :: l, .cons r rest => by
    obtain ⟨hk, hv⟩ := r
    have hk : k = .inl (t.num : Int) := hk
    by_cases e : t.num = n
    · refine .inr ⟨t, v, by simp [e], valV_pos (p := (k, v)) (by show k = _; rw [hk, e]), hv⟩
    · have ne : ¬ k = .inl (n : Int) := fun z => by
        rw [hk] at z
        have := Sum.inl.inj z
        omega
      rw [valV_neg (p := (k, v)) ne, List.find?_cons_of_neg (by simpa using e)]
      exact tk_find rest
theorem HsAt.ticket {H : Hp} {d : Ad} {s : Wm08.State} (h : HsAt K H d s) (n : Nat) : ∃ o, DGet H d.t (.int (n : Int)) o ∧ IsD H d.t ∧ ((Wm08.ticket? s n = none ∧ o = none) ∨ ∃ t a c ys, Wm08.ticket? s n = some t ∧ o = some (.ref a) ∧ TkAt K (less H d.M) a c ys t) := by
  obtain ⟨ts, t1, t2⟩ := h.tk
  refine ⟨_, DGet.k (k := Sum.inl (n : Int)) t1, .inl ⟨_, .inl t1⟩, ?_⟩
  rcases tk_find (n := n) t2 with ⟨e1, e2⟩ | ⟨t, v, e1, e2, a, c, ys, e3, e4⟩
  · exact .inl ⟨e1, e2⟩
  · exact .inr ⟨t, a, c, ys, e1, by rw [e2, e3], e4⟩
theorem Good.tick {s : Wm08.State} {k n : Nat} {t : Wm08.Tick} (g : Good s k) (h : Wm08.ticket? s n = some t) : t.issuer ≠ 0 ∧ t.caveats.length ≤ 8 ∧ ∀ c ∈ t.caveats, cavG c := g.tk t (List.mem_of_find?_eq_some h)
def spHasEntry (K : PySem.W.Frag) : Sp := fun vs H Q _ => ∃ (d : Ad) (s : Wm08.State) (k u r n : Nat) (l : Addr) (q : List Nat), vs = [.ref d.h, .int u, .int r, .int n, .ref l] ∧ HsAt K H d s ∧ Good s k ∧ k ≤ 60 ∧ u ≠ 0 ∧ SqL K H l (nats q) ∧ q.length = 4 ∧
  ∀ H', Same H H' → Q (.bl (Wm08.entitled s u r n q)) H'
theorem cl_has_entry (T : TX K mg) : Cl P w K mg base CX0 "has_entry" 4 ["house", "user", "door", "ticket_number", "values"] (spHasEntry K) := by
  have c_share : Cl P w K mg base CX0 "share" 1 ["grants", "user", "right"] (spShare K) := cl_share T
  have c_is_good : Cl P w K mg base CX0 "is_good" 3 ["house", "ticket", "values"] (spIsGood K) := cl_is_good T
  refine cl_of (d := d_has_entry) T.g_has_entry T.u_has_entry sc_has_entry b_has_entry (fun vs H Q E h => ?_) (fun cdv A outer s H vs Q E hr h => ⟨_, PSs.nox (pss_cons (ps_if (pt_cmp (pc_eqI (pv 3) pe_int)) (pss_one (ps_ret (pe_cmp (pc_gt (pe_c c_share (hr.mono (by omega)) pass0 (pa_cons (pe_fld (pv 0) rfl) (pa_cons (pv 1) (pa_cons (pv 2) pa_nil)))) pe_int) rfl))) pss_nil)
    (pss_cons (ps_set (i := 5) sc_has_entry.nd rfl (Or.inl rfl) (pe_dget1 (hu_of hr) (pe_fld (pv 0) rfl) (pv 3) ⟨rfl, rfl, rfl, rfl⟩))
    (pss_cons (ps_if (pt_cmp (pc_isN (pv 5))) (pss_one (ps_ret pe_bl)) pss_nil)
    (pss_one (ps_ret (pe_and (pe_cmp (pc_eqI (pe_fld (pv 5) rfl) (pv 1)) rfl) (pe_and (pe_cmp (pc_eqI (pe_fld (pv 5) rfl) (pv 2)) rfl) (pe_one (pe_c c_is_good (hr.mono (by omega)) pass0 (pa_cons (pv 0) (pa_cons (pv 5) (pa_cons (pv 4) pa_nil)))))))))))), ?_⟩)
  · obtain ⟨d, s, k, u, r, n, l, q, rfl, _⟩ := h
    rfl
  · obtain ⟨d, s, k, u, r, n, l, q, rfl, hs, g, hk, hu, hS, hq, hQ⟩ := h
    have hh := hs.hh
    walk_at "rd"
    unfold Wm08.entitled at hQ
    by_cases c : n = 0
    · refine if_true_of (by rw [c]; rfl) ?_
      rw [if_pos c, share_has hu] at hQ
      obtain ⟨xs, g1, g2, g3⟩ := hs.grants g hk
      k_call_by "rd" (hh, T.c_House, T.n_House_grants, hF_grants)
      refine ⟨d.g, xs, _, u, r, rfl, g1, g2, g3, fun H' s' => ?_⟩
      walk_at "rd"
      have := hQ H' s'
      rw [← dlt] at this
      exact this
    · refine if_false_of (decide_eq_false (by omega)) ?_
      rw [if_neg c] at hQ
      obtain ⟨o, h1, h2, h3⟩ := hs.ticket n
      refine ⟨_, rfl, d.h, _, d.hx, _, _, rfl, hh, T.c_House, T.n_House_tickets, hF_tickets _ _ _ _ _, d.t, rfl, h2, _, rfl, o, h1, ?_⟩
      rcases h3 with ⟨e1, rfl⟩ | ⟨t, a, c, ys, e1, rfl, ht⟩
      · rw [e1] at hQ
        exact if_true_of (by decide) (hQ H (Same.refl _))
      · rw [e1] at hQ
        dsimp only at hQ
        have ht' := ht.mono less_same
        obtain ⟨⟨dx, ho⟩, _⟩ := ht'
        refine if_false_of (by rfl) ?_
        k_call_by "rd" (Option.getD_some, ho, T.c_Ticket, T.n_Ticket_holder, tF_holder, T.n_Ticket_door, tF_door)
        cases c1 : t.holder == u with
        | false =>
          rw [c1] at hQ
          exact if_false_of rfl (hQ H (Same.refl _))
        | true =>
          rw [c1] at hQ
          refine if_true_of rfl ?_
          cases c2 : t.right == r with
          | false =>
            rw [c2] at hQ
            exact if_false_of rfl (hQ H (Same.refl _))
          | true =>
            rw [c2, show r = t.right from (beq_iff_eq.mp c2).symm, share_has (g.tick e1).1] at hQ
            exact if_true_of rfl ⟨d, s, k, a, c, ys, t, l, q, rfl, hs, g, hk, ht.mono less_same, (g.tick e1).2.1, hS, hq, fun H' s' => hQ H' s'⟩
def spPermits (K : PySem.W.Frag) : Sp := fun vs H Q _ => ∃ (d : Ad) (s : Wm08.State) (r : Nat) (l : Addr) (q : List Nat), vs = [.ref d.h, .int r, .ref l] ∧ HsAt K H d s ∧ Wm01.isRight r = true ∧ SqL K H l (nats q) ∧ q.length = 4 ∧
  ∀ H', Same H H' → Q (.bl (Wm08.permitted s r q)) H'
theorem cl_permits (T : TX K mg) : Cl P w K mg base CX0 "permits" 24 ["house", "door", "values"] (spPermits K) := by
  have c_decide : Cl P w K mg base CX0 "decide" 23 ["policy", "values"] (spDecide K 11) := cl_decide T 11
  refine cl_of (d := d_permits) T.g_permits T.u_permits sc_permits b_permits (fun vs H Q E h => ?_) (fun cdv A outer s H vs Q E hr h => ⟨_, PSs.nox (pss_cons (ps_set (i := 3) sc_permits.nd rfl (Or.inl rfl) (pe_dget (hu_of hr) (pe_fld (pv 0) rfl) (pv 1) (fun _ _ => rfl)))
    (pss_one (ps_ret (pe_or (pe_cmp (pc_isN (pv 3)) rfl) (pe_one (pe_cmp (pc_eqI (pe_c c_decide (hr.mono (by omega)) pass0 (pa_cons (pv 3) (pa_cons (pv 2) pa_nil))) (pe_gi T.i_PERMIT)) rfl)))))), ?_⟩)
  · obtain ⟨d, s, r, l, q, rfl, _⟩ := h
    rfl
  · obtain ⟨d, s, r, l, q, rfl, hs, hr', hS, hq, hQ⟩ := h
    have hh := hs.hh
    obtain ⟨f, p1, p2⟩ := hs.po
    have pl := p2 r hr'
    unfold Wm08.permitted at hQ
    unfold polOf at pl
    refine ⟨_, rfl, d.h, _, d.hx, _, _, rfl, hh, T.c_House, T.n_House_policies, hF_policies _ _ _ _ _, _, rfl, d.p, _, rfl, dKD_get hr' p1, ?_⟩
    walk_at "rd"
    cases e : s.policies.find? (fun x => x.1 == r) with
    | none =>
      rw [e] at pl hQ
      have pl : f r = .non := pl
      rw [pl]
      exact if_true_of (by decide) (hQ H (Same.refl _))
    | some x =>
      rw [e] at pl hQ
      obtain ⟨p, e1, e2, e3⟩ := pl
      have e1 : x.2 = Wm03.row p := e1
      have hQ' : ∀ H', Same H H' → Q (.bl (Wm03.dec q p == 1)) H' := fun H' s' => by
        have := hQ H' s'
        dsimp only at this
        rw [e1, parsed_row] at this
        exact this
      have e3' := e3.mono less_same
      have nn : ∃ a, f r = .ref a := by
        cases p with
        | rule b c => obtain ⟨a, u, z, _⟩ := e3'; exact ⟨a, z⟩
        | set b c m => obtain ⟨a, u, _, _, z, _⟩ := e3'; exact ⟨a, z⟩
      obtain ⟨a, ea⟩ := nn
      unfold Wm03.isPol at e2
      simp only [Bool.and_eq_true, decide_eq_true_eq] at e2
      refine if_false_of (by rw [ea]; rfl) ⟨f r, p, l, q, rfl, e3', e2.2.1, Nat.le_refl _, hS, hq, by omega, fun H' s' => ?_⟩
      walk_at "rd"
      have := hQ' H' s'
      rw [← deq] at this
      exact this
def spAllowers (K : PySem.W.Frag) : Sp := fun vs H Q _ => ∃ (d : Ad) (s : Wm08.State) (k u r : Nat), vs = [.ref d.h, .int u, .int r] ∧ HsAt K H d s ∧ Good s k ∧ k ≤ 60 ∧ Wm01.isRight r = true ∧
  ∀ H' p, Same H H' → H p = none → H' p = some (.lst (nats (Wm08.allowers s u r))) → Q (.ref p) H'
theorem nats_filter (p : Nat → Bool) (l : List Nat) {ys : List V} (h : Paired (fun y (n : Nat) => y = V.int (n : Int)) ys (l.filter p)) : ys = nats (l.filter p) := pr_map h
theorem cl_allowers (T : TX K mg) : Cl P w K mg base CX0 "allowers" 2 ["house", "user", "door"] (spAllowers K) := by
  have c_share : Cl P w K mg base CX0 "share" 1 ["grants", "user", "right"] (spShare K) := cl_share T
  refine cl_of (d := d_allowers) T.g_allowers T.u_allowers sc_allowers b_allowers (fun vs H Q E h => ?_) (fun cdv A outer s H vs Q E hr h => ⟨_, PSs.nox (pss_cons (ps_setLc (i := 3) (own := [("other", 4)]) (g := gName 4) (tt := tB (tNeI (tVar 4) (tVar 1))) (te := tVar 4) rfl sc_allowers.nd rfl rfl (sw_true rfl rfl rfl (by decide +kernel)) (pi_list (pe_callB (cr_sortD rfl) (by rfl) T.f_sorted (by decide +kernel) (pa_cons (pe_dget (hu_of hr) (pe_fld (pv 0) rfl) (pv 2) (fun _ _ => rfl)) pa_nil))) (blkOk_by (N := N_allowers) (sc := defScope s_allowers) (by decide +kernel)) (fun _ _ _ _ _ => pg_name (i := 4) sc_allowers.nd rfl (Or.inl rfl)) (fun _ _ _ _ _ => (pts_one (pt_cmp (pc_neI (pv 4) (pv 1))))) (fun _ _ _ _ _ => (pv 4)))
    (pss_one (ps_ret (pe_lc (own := [("other", 4)]) (g := gName 4) (tt := tB (tEqI (tCall _ [] _ (tCons (tFld K (tVar 0) "grants") (tCons (tVar 4) (tCons (tVar 2) tNil)))) (tC (.int (2))))) (te := tVar 4) rfl sc_allowers.nd (pi_list (pv 3)) (blkOk_by (N := N_allowers) (sc := defScope s_allowers) (by decide +kernel)) (fun _ _ _ _ _ => pg_name (i := 4) sc_allowers.nd rfl (Or.inl rfl)) (fun _ _ _ _ _ => (pts_one (pt_cmp (pc_eqI (pe_c c_share (hr.mono (by omega)) pass0 (pa_cons (pe_fld (pv 0) rfl) (pa_cons (pv 4) (pa_cons (pv 2) pa_nil)))) (pe_gi T.i_WITH_LEAVE))))) (fun _ _ _ _ _ => (pv 4)))))), ?_⟩)
  · obtain ⟨d, s, k, u, r, rfl, _⟩ := h
    rfl
  · obtain ⟨d, s, k, u, r, rfl, hs, g, hk, hr', hQ⟩ := h
    have hh := hs.hh
    have hal := hs.al
    have hin := hs.in_ r hr'
    have hal12 : (alw s r).length ≤ 12 := nodup_le (alw_nodup g.al) fun v hv => g.au (r, v) (alw_mem.mp hv)
    refine ⟨_, rfl, d.h, _, d.hx, _, _, rfl, hh, T.c_House, T.n_House_allowed, hF_allowed _ _ _ _ _, _, rfl, d.a, _, rfl, dKD_get hr' hal, ?_⟩
    refine ⟨d.i r, _, (alw s r).map (fun (n : Nat) => (n : Int)), rfl, .inl hin, ?_, by rw [List.length_map]; omega, fun ys p hp hsd np => ?_⟩
    · rw [List.map_map, List.map_map]; rfl
    have ey := allow_sorted g ys hp hsd
    have e2 : ys.map V.int = nats (users12.filter fun v => s.allowed.contains (r, v)) := by
      rw [ey]
      unfold nats
      rw [List.map_map]; rfl
    rw [e2]
    have s1 : Same H (upd H p (.lst (nats (users12.filter fun v => s.allowed.contains (r, v))))) := same_upd np
    refine ⟨p, rfl, ⟨_, SqL.of upd_same⟩, fun D hD => ?_⟩
    have u12 : ∀ f : Nat → Bool, (users12.filter f).length ≤ 12 := fun f => by
      have := List.length_filter_le f users12
      rw [users12_eq] at this ⊢
      exact this
    refine lc_rows (R := fun v (n : Nat) => v = V.int (n : Int)) (S := fun v (n : Nat) => v = V.int (n : Int)) (SqL.of upd_same) (pr_of_map _) (by rw [nats_len]; have := u12 fun v => s.allowed.contains (r, v); omega) (fun v => v != u) hD (fun x => rfl) ?_ ?_ ?_
    · rintro x n hm rfl H' s' R hR
      walk_at "rd"
      exact hR _ (Same.refl _)
    · rintro x n hm rfl _ H' s' R hR
      walk_at "rd"
      exact hR _ _ rfl (Same.refl _)
    · intro zs H1 hzs s2 hd
      have s12 := s1.trans s2
      have ez := pr_map hzs
      rw [show zs = nats ((users12.filter fun v => s.allowed.contains (r, v)).filter fun v => v != u) from ez] at hd
      refine ⟨_, rfl, D, rfl, ⟨_, SqL.of hd⟩, fun D2 hD2 => ?_⟩
      refine lc_rows (R := fun v (n : Nat) => v = V.int (n : Int)) (S := fun v (n : Nat) => v = V.int (n : Int)) (SqL.of hd) (pr_of_map _) (by rw [nats_len, List.filter_filter]; have := u12 fun v => v != u && s.allowed.contains (r, v); omega) (fun v => share s.grants v r == 2) hD2 (fun x => rfl) ?_ ?_ ?_
      · rintro x n hm rfl H' s' R hR
        have hs' := hs.same (s12.trans s')
        have hh' := hs'.hh
        obtain ⟨xs, g1, g2, g3⟩ := hs'.grants g hk
        k_call_by "rd" (hh', T.c_House, T.n_House_grants, hF_grants)
        refine ⟨d.g, xs, _, n, r, rfl, g1, g2, g3, fun H'' s'' => ?_⟩
        walk_at "rd"
        have e : decide (((share s.grants n r : Nat) : Int) = 2) = (share s.grants n r == 2) := deq _ 2
        rw [e]
        exact hR _ s''
      · rintro x n hm rfl _ H' s' R hR
        walk_at "rd"
        exact hR _ _ rfl (Same.refl _)
      · intro ws H2 hws s3 hd2
        have ew := pr_map hws
        refine hQ H2 D2 (s12.trans s3) (s12.free hD2) ?_
        rw [hd2, ew]
        congr 2
        show List.map _ _ = List.map _ _
        congr 1
        unfold Wm08.allowers
        rw [List.filter_filter, List.filter_filter]
        apply List.filter_congr
        intro v hv
        have h1 := users12_mem.mp hv
        rw [share_has (by omega)]
        cases v != u <;> cases s.allowed.contains (r, v) <;> cases share s.grants v r == 2 <;> rfl
def spMayOpen (K : PySem.W.Frag) : Sp := fun vs H Q _ => ∃ (d : Ad) (s : Wm08.State) (k u r n : Nat) (l : Addr) (q : List Nat), vs = [.ref d.h, .int u, .int r, .int n, .ref l] ∧ HsAt K H d s ∧ Good s k ∧ k ≤ 60 ∧ u ≠ 0 ∧ Wm01.isRight r = true ∧ SqL K H l (nats q) ∧ q.length = 4 ∧
  ∀ H', Same H H' → Q (.bl (Wm08.may s u r n q)) H'
theorem cl_may_open (T : TX K mg) : Cl P w K mg base CX0 "may_open" 25 ["house", "user", "door", "ticket_number", "values"] (spMayOpen K) := by
  have c_has_entry : Cl P w K mg base CX0 "has_entry" 4 ["house", "user", "door", "ticket_number", "values"] (spHasEntry K) := cl_has_entry T
  have c_permits : Cl P w K mg base CX0 "permits" 24 ["house", "door", "values"] (spPermits K) := cl_permits T
  have c_allowers : Cl P w K mg base CX0 "allowers" 2 ["house", "user", "door"] (spAllowers K) := cl_allowers T
  refine cl_of (d := d_may_open) T.g_may_open T.u_may_open sc_may_open b_may_open (fun vs H Q E h => ?_) (fun cdv A outer s H vs Q E hr h => ⟨_, PSs.nox (pss_one (ps_ret (pe_and (pe_c c_has_entry (hr.mono (by omega)) pass0 (pa_cons (pv 0) (pa_cons (pv 1) (pa_cons (pv 2) (pa_cons (pv 3) (pa_cons (pv 4) pa_nil)))))) (pe_and (pe_c c_permits (hr.mono (by omega)) pass0 (pa_cons (pv 0) (pa_cons (pv 2) (pa_cons (pv 4) pa_nil)))) (pe_one (pe_cmp (pc_ge (pe_callB cr_lenS (by rfl) T.f_len PySem.boot_len (pa_cons (pe_c c_allowers (hr.mono (by omega)) pass0 (pa_cons (pv 0) (pa_cons (pv 1) (pa_cons (pv 2) pa_nil)))) pa_nil)) (pe_dget (hu_of hr) (pe_fld (pv 0) rfl) (pv 2) (fun _ _ => rfl))) rfl)))))), ?_⟩)
  · obtain ⟨d, s, k, u, r, n, l, q, rfl, _⟩ := h
    rfl
  · obtain ⟨d, s, k, u, r, n, l, q, rfl, hs, g, hk, hu, hr', hS, hq, hQ⟩ := h
    unfold Wm08.may at hQ
    walk_at "rd"
    refine ⟨d, s, k, u, r, n, l, q, rfl, hs, g, hk, hu, hS, hq, fun H1 s1 => ?_⟩
    walk_at "rd"
    cases c1 : Wm08.entitled s u r n q with
    | false =>
      rw [c1] at hQ
      exact if_false_of rfl (hQ H1 s1)
    | true =>
      rw [c1] at hQ
      refine if_true_of rfl ⟨d, s, r, l, q, rfl, hs.same s1, hr', s1.seq hS, hq, fun H2 s2 => ?_⟩
      walk_at "rd"
      cases c2 : Wm08.permitted s r q with
      | false =>
        rw [c2] at hQ
        exact if_false_of rfl (hQ H2 (s1.trans s2))
      | true =>
        rw [c2] at hQ
        refine if_true_of rfl ⟨d, s, k, u, r, rfl, hs.same (s1.trans s2), g, hk, hr', fun H3 p s3 np hp => ?_⟩
        have s03 := s1.trans (s2.trans s3)
        have hs3 := hs.same s03
        refine lenS (SqL.of hp) ?_
        refine ⟨_, rfl, d.h, _, d.hx, _, _, rfl, hs3.hh, T.c_House, T.n_House_quorums, hF_quorums _ _ _ _ _, _, rfl, d.q, _, rfl, dKD_get hr' hs3.qu, ?_⟩
        rw [nats_len]
        refine ⟨_, rfl, ?_⟩
        have := hQ H3 s03
        rw [← dle] at this
        exact ⟨_, rfl, this⟩
end
end Gh
set_option Elab.async false
set_option linter.all false
set_option maxRecDepth 100000
set_option maxHeartbeats 4000000
namespace Gh
open PySem PySem.Spec PyProof.Rows L2
local macro_rules | `(tactic| walk_at "rd") => `(tactic| simp only [tRet, tSeq, tAsg, gName, tDrop, tIfS, tTest, tB, tAnd, tOr, tNot, tAndV, tOrV, tNotV, tCmp, t2I, tAdd, tSub, tMul, tIsN, tNotN, tC, tVar, tCons, tNil, tCall, tOp, tUn, tCB, tNext, tRetN, tIf, tFld, wipe, tYes, HO.ins.injEq, and_assoc, L2.start, List.map_cons, List.map_nil, List.length_cons, List.length_nil, List.cons_append, List.nil_append, List.append_nil, List.set_cons_zero, List.set_cons_succ, List.replicate, Nat.reduceAdd, Nat.reduceSub, Nat.zero_add, Nat.sub_self, List.getElem?_cons_zero, List.getElem?_cons_succ, Option.some.injEq, V.int.injEq, V.bl.injEq, V.ref.injEq, V.str.injEq, List.cons.injEq, reduceCtorEq, and_true, true_and, and_false, false_and, exists_eq_left, exists_eq_left', exists_eq_right, exists_eq_right', exists_and_left, exists_const, exists_false, exists_eq, if_true, if_false, Bool.false_eq_true, Bool.true_eq_false, cxK, andV, orV, andT, orT, deq, dle, dlt, Bool.not_true, Bool.not_false, decide_true, decide_false, ite_true, ite_false])
local macro_rules | `(tactic| k_call_by "rd" ($a, $bs,*)) => do { let cs := bs.getElems; `(tactic| simp only [$a:term, $[$cs:term],*, tRet, tSeq, tAsg, gName, tDrop, tIfS, tTest, tB, tAnd, tOr, tNot, tAndV, tOrV, tNotV, tCmp, t2I, tAdd, tSub, tMul, tIsN, tNotN, tC, tVar, tCons, tNil, tCall, tOp, tUn, tCB, tNext, tRetN, tIf, tFld, wipe, tYes, HO.ins.injEq, and_assoc, L2.start, List.map_cons, List.map_nil, List.length_cons, List.length_nil, List.cons_append, List.nil_append, List.append_nil, List.set_cons_zero, List.set_cons_succ, List.replicate, Nat.reduceAdd, Nat.reduceSub, Nat.zero_add, Nat.sub_self, List.getElem?_cons_zero, List.getElem?_cons_succ, Option.some.injEq, V.int.injEq, V.bl.injEq, V.ref.injEq, V.str.injEq, List.cons.injEq, reduceCtorEq, and_true, true_and, and_false, false_and, exists_eq_left, exists_eq_left', exists_eq_right, exists_eq_right', exists_and_left, exists_const, exists_false, exists_eq, if_true, if_false, Bool.false_eq_true, Bool.true_eq_false, cxK, andV, orV, andT, orT, deq, dle, dlt, Bool.not_true, Bool.not_false, decide_true, decide_false, ite_true, ite_false]) }
/-! ### caveats: the program's and the specification's -/
theorem cav_back : ∀ (k : Nat) (l : List Nat) (c : List Wm06.Caveat), l.length ≤ k → Wm06.caveats l = some c → Wm06.needed c = [] → l.length = 3 * c.length ∧ (threes l).all okThree = true
  | 0, l, c, hk, h, _ => by
    have e : l = [] := List.eq_nil_of_length_eq_zero (by omega)
    subst e
    have : c = [] := by simpa [Wm06.caveats] using h.symm
    subst this
    exact ⟨rfl, rfl⟩
  | k + 1, l, c, hk, h, hn => by
    unfold Wm06.caveats at h
    split at h
    · cases h; exact ⟨rfl, rfl⟩
    · split at h
      · obtain ⟨r, _, e⟩ := Option.map_eq_some_iff.mp h
        subst e
        simp [Wm06.needed] at hn
      · cases h
    · rename_i kk a v rest hk3
      split at h
      · rename_i hok
        obtain ⟨r, hr, e⟩ := Option.map_eq_some_iff.mp h
        subst e
        have hn' : Wm06.needed r = [] := by
          unfold Wm06.needed at hn ⊢
          rw [List.filterMap_cons] at hn
          split at hn
          · exact hn
          · cases hn
        obtain ⟨h1, h2⟩ := cav_back k rest r (by simp only [List.length_cons] at hk; omega) hr hn'
        refine ⟨by simp only [List.length_cons, h1]; omega, ?_⟩
        show (okThree (kk, a, v) && (threes rest).all okThree) = true
        rw [h2, Bool.and_true]
        unfold okThree
        simp [hok.1, hok.2.1, hok.2.2.1, hok.2.2.2]
      · cases h
    · cases h
theorem needed_of {ts : List Three} : Wm06.needed (ts.map cavOf) = [] := by
  unfold Wm06.needed
  rw [List.filterMap_map, List.filterMap_eq_nil_iff]
  intro t _
  show (match cavOf t with | .needs d => some d | _ => none) = none
  unfold cavOf
  split <;> rename_i h <;> revert h <;> split <;> intro h <;> first | rfl | cases h
theorem cavs_yes {ns : List Nat} (h : areCav ns = true) : Wm08.caveats ns = some ((threes ns).map cavOf) ∧ ∃ m, ns.length = 3 * m ∧ m ≤ 8 := by
  unfold areCav at h
  simp only [Bool.and_eq_true, decide_eq_true_eq, beq_iff_eq] at h
  obtain ⟨m, hm⟩ : ∃ m, ns.length = 3 * m := ⟨ns.length / 3, by omega⟩
  refine ⟨?_, m, hm, by omega⟩
  unfold Wm08.caveats
  rw [cav_all m ns hm h.2.2]
  dsimp only
  rw [if_pos ⟨by rw [List.length_map, threes_len m ns hm]; omega, needed_of⟩]
theorem cavs_no {ns : List Nat} (h : areCav ns = false) : Wm08.caveats ns = none := by
  cases e : Wm08.caveats ns with
  | none => rfl
  | some c =>
    exfalso
    unfold Wm08.caveats at e
    split at e
    · cases e
    · rename_i c' hc
      split at e
      · rename_i h8
        obtain ⟨h1, h2⟩ := cav_back _ ns c' (Nat.le_refl _) hc h8.2
        unfold areCav at h
        rw [h2, decide_eq_true (by omega), show (ns.length % 3 == 0) = true from beq_iff_eq.mpr (by omega)] at h
        cases h
      · cases e
theorem cavOk_of {c : Wm06.Caveat} (h : cavG c) : CavOk c := by
  unfold CavOk okThree cavT
  cases c with
  | most a v => obtain ⟨h1, h2, h3⟩ := h; simp [h1, h2, h3]
  | is_ a v => obtain ⟨h1, h2, h3⟩ := h; simp [h1, h2, h3]
  | least a v => obtain ⟨h1, h2, h3⟩ := h; simp [h1, h2, h3]
  | needs d => exact h.elim
theorem cavV_threes {H : Hp} {ns : List Nat} (h : areCav ns = true) {ys : List V} (hy : Paired (ThV H) ys (threes ns)) : Paired (CavV H) ys ((threes ns).map cavOf) := by
  unfold areCav at h
  simp only [Bool.and_eq_true, decide_eq_true_eq, beq_iff_eq] at h
  exact go hy (by simpa using h.2.2)
where
  go : ∀ {ys : List V} {ts : List Three}, Paired (ThV H) ys ts → (∀ t ∈ ts, okThree t = true) → Paired (CavV H) ys (ts.map cavOf)
    | _, _, .nil, _ => .nil
    | _, t :: ts, .cons r rest, ok => by
      have h1 := ok t List.mem_cons_self
      refine .cons ⟨?_, ?_⟩ (go rest fun x hx => ok x (List.mem_cons_of_mem _ hx))
      · rw [cavT_of h1]; exact r
      · unfold CavOk
        rw [cavT_of h1]; exact h1
section
variable {P : Program} {w : World} {K : PySem.W.Frag} {mg : Str → Option Value} {base : Heap}
/-! ### policy -/
theorem pol_set {s : Wm08.State} {r x : Nat} {l : List Nat} : polOf { s with policies := (r, l) :: s.policies.filter fun y => y.1 != r } x = if x = r then some l else polOf s x := by
  unfold polOf
  by_cases z : x = r
  · subst z
    rw [if_pos rfl]
    simp
  · rw [if_neg z, List.find?_cons_of_neg (by simpa using Ne.symm z), List.find?_filter]
    congr 2
    funext y
    by_cases e : y.1 = x
    · simp [e, z]
    · simp [e]
theorem pol_del {s : Wm08.State} {r x : Nat} : polOf { s with policies := s.policies.filter fun y => y.1 != r } x = if x = r then none else polOf s x := by
  unfold polOf
  by_cases z : x = r
  · subst z
    rw [if_pos rfl, List.find?_filter]
    have : (s.policies.find? fun a => decide ((a.1 != x) = true ∧ (a.1 == x) = true)) = none := by
      rw [List.find?_eq_none]
      intro y _
      by_cases e : y.1 = x <;> simp [e]
    rw [this]
    rfl
  · rw [if_neg z, List.find?_filter]
    congr 2
    funext y
    by_cases e : y.1 = x
    · simp [e, z]
    · simp [e]
def spDoPolicy (K : PySem.W.Frag) : Sp := fun vs H Q _ => ∃ (d : Ad) (s : Wm08.State) (k n r : Nat) (l : Addr) (ns : List Nat), vs = [.ref d.h, .int n, .int r, .ref l] ∧ HsAt K H d s ∧ Good s k ∧ k ≤ 60 ∧ H l = some (.lst (nats ns)) ∧ ns.length ≤ 1000 ∧ (∀ n ∈ ns, n < 2 ^ 60) ∧ Does K H d s n (.policy r ns) Q
theorem newOf_less {H H' : Hp} {d : Ad} {s : Wm08.State} (h : HsAt K H d s) : Same (newOf H H') (less H' d.M) := fun b o e => by
  obtain ⟨h1, h2⟩ := of_newOf e
  exact less_at (h.fresh h1) h2
theorem cl_do_policy (T : TX K mg) : Cl P w K mg base CX0 "do_policy" 19 ["house", "number", "door", "code"] (spDoPolicy K) := by
  have c_is_door : Cl P w K mg base CX0 "is_door" 1 ["number"] spIsDoor := cl_is_door T
  have c_read_code : Cl P w K mg base (L2.CX P w) "read_code" 18 ["code"] (spReadCode K) := cl_read_code T
  refine cl_of (d := d_do_policy) T.g_do_policy T.u_do_policy sc_do_policy b_do_policy (fun vs H Q E h => ?_) (fun cdv A outer s H vs Q E hr h => ⟨_, PSs.nox (pss_cons (ps_if (pt_not (pt_val (pe_c c_is_door (hr.mono (by omega)) pass0 (pa_cons (pv 2) pa_nil)))) (pss_one (ps_ret (pe_gi T.i_WRONG))) pss_nil)
    (pss_cons (ps_if (pt_cmp (pc_eqI (pe_callB cr_lenS (by rfl) T.f_len PySem.boot_len (pa_cons (pv 3) pa_nil)) pe_int)) (pss_cons (ps_dput (hu_of hr) (pe_fld (pv 0) rfl) (pv 2) pe_non rfl)
    (pss_one (ps_ret (pv 1)))) pss_nil)
    (pss_cons (ps_try_only rfl rfl ⟨rfl, by decide, .inl T.g_BadCode⟩ takes0 (tb := fun W => sDPut (tFld K (tVar 0) "policies") (tVar 2) (tCallS (spReadCode K) (WE W) (tCons (tVar 3) tNil))) (fun W pn xe tk _ => pss_one (ps_dput (hu_of hr) (pe_fld (pv 0) rfl) (pv 2) (pe_cS c_read_code (hr.mono (by omega)) (fun σ => passAt tk σ) (pa_cons (pv 3) pa_nil)) rfl)) (fun a oe cls d pn _ _ => pss_one (ps_ret (pe_gi T.i_WRONG))))
    (pss_one (ps_ret (pv 1)))))), ?_⟩)
  · obtain ⟨d, s, k, n, r, l, ns, rfl, _⟩ := h
    rfl
  · obtain ⟨d, s, k, n, r, l, ns, rfl, hs, g, hk, hl, hn, hsm, hD⟩ := h
    have no := hD.no
    have yes := hD.yes
    unfold Wm08.act at no yes
    dsimp only at no yes
    walk_at "rd"
    refine ⟨r, rfl, ?_⟩
    walk_at "rd"
    cases c1 : Wm01.isRight r with
    | false =>
      rw [if_pos (.inl c1)] at no
      exact if_true_of rfl (no _ rfl H (Same.refl _))
    | true =>
      refine if_false_of rfl ?_
      refine lenS (SqL.of hl) ?_
      rw [nats_len]
      have hh := hs.hh
      obtain ⟨f, p1, p2⟩ := hs.po
      walk_at "rd"
      by_cases c2 : ns = []
      · rw [if_neg (by rw [c1, c2]; simp), if_pos c2] at yes
        refine if_true_of (by rw [c2]; rfl) ?_
        refine ⟨_, rfl, d.h, _, d.hx, _, _, rfl, hh, T.c_House, T.n_House_policies, hF_policies _ _ _ _ _, _, rfl, d.p, _, rfl, dKD_set c1 p1, _, rfl, ?_⟩
        refine yes _ rfl _ d (kept_upd d.mp) (hs.setP fun x hx => ?_) rfl rfl (fun b hb => .inl hb)
        rw [pol_del]
        by_cases z : x = r
        · rw [if_pos z, if_pos z]; rfl
        · rw [if_neg z, if_neg z]; exact p2 x hx
      · have hlen : ns.length ≠ 0 := fun z => c2 (List.eq_nil_of_length_eq_zero z)
        refine if_false_of (decide_eq_false (by omega)) ?_
        refine ⟨_, rfl, l, ns, rfl, hl, hn, hsm, fun p e ok H1 v s1 hv => ?_, fun hno H1 s1 => ?_⟩
        · have hlen120 : ns.length ≤ 120 := by
            unfold Wm03.isPol at ok
            simp only [Bool.and_eq_true, decide_eq_true_eq] at ok
            rw [e]; exact ok.1
          rw [if_neg (by rw [c1]; simp; omega), if_neg c2] at yes
          have yes' := yes
          rw [show Wm03.parsed ns = some p by rw [e]; exact parsed_row p] at yes'
          dsimp only at yes'
          rw [if_neg (by rw [ok]; simp)] at yes'
          have hs1 := hs.same s1
          obtain ⟨f1, p1, p2⟩ := hs1.po
          refine ⟨_, rfl, d.h, _, d.hx, _, _, rfl, hs1.hh, T.c_House, T.n_House_policies, hF_policies _ _ _ _ _, _, rfl, d.p, _, rfl, dKD_set c1 p1, _, rfl, ?_⟩
          refine yes' _ rfl _ d (kept_upd2 (Kept.of s1) d.mp) (hs1.setP fun x hx => ?_) rfl rfl (fun b hb => .inl hb)
          rw [pol_set]
          by_cases z : x = r
          · rw [if_pos z, if_pos z]
            exact ⟨p, e, ok, hv.mono (newOf_less hs)⟩
          · rw [if_neg z, if_neg z]; exact p2 x hx
        · refine ⟨true, T.e_BadCode_BadCode, fun _ a ha => ?_, fun q => nomatch q⟩
          refine no _ ?_ H1 s1
          by_cases c3 : 200 < ns.length
          · rw [if_pos (.inr c3)]
          · rw [if_neg (by rw [c1]; simp; omega), if_neg c2]
            cases e : Wm03.parsed ns with
            | none => rfl
            | some p =>
              dsimp only
              rw [if_pos (hno p (row_parsed e))]
/-! ### quorum -/
theorem quo_set {s : Wm08.State} {r x k : Nat} : Wm08.quorum { s with quorums := (r, k) :: s.quorums.filter fun y => y.1 != r } x = if x = r then k else Wm08.quorum s x := by
  unfold Wm08.quorum
  by_cases z : x = r
  · subst z
    rw [if_pos rfl]
    simp
  · rw [if_neg z, List.find?_cons_of_neg (by simpa using Ne.symm z), List.find?_filter]
    congr 3
    funext y
    by_cases e : y.1 = x
    · simp [e, z]
    · simp [e]
theorem dgt3 (n : Nat) : decide ((3 : Int) < (n : Int)) = decide (3 < n) := dlt 3 n
def spDoQuorum (K : PySem.W.Frag) : Sp := fun vs H Q _ => ∃ (d : Ad) (s : Wm08.State) (n r q : Nat), vs = [.ref d.h, .int n, .int r, .int q] ∧ HsAt K H d s ∧ Does K H d s n (.quorum r q) Q
theorem cl_do_quorum (T : TX K mg) : Cl P w K mg base CX0 "do_quorum" 2 ["house", "number", "door", "quorum"] (spDoQuorum K) := by
  have c_is_door : Cl P w K mg base CX0 "is_door" 1 ["number"] spIsDoor := cl_is_door T
  refine cl_of (d := d_do_quorum) T.g_do_quorum T.u_do_quorum sc_do_quorum b_do_quorum (fun vs H Q E h => ?_) (fun cdv A outer s H vs Q E hr h => ⟨_, PSs.nox (pss_cons (ps_if (PW.pt (pw_or (pt_not (pt_val (pe_c c_is_door (hr.mono (by omega)) pass0 (pa_cons (pv 2) pa_nil)))) (pw_or1 (pt_cmp (pc_gt (pv 3) (pe_gi T.i_MOST_QUORUM)))))) (pss_one (ps_ret (pe_gi T.i_WRONG))) pss_nil)
    (pss_cons (ps_dput (hu_of hr) (pe_fld (pv 0) rfl) (pv 2) (pv 3) rfl)
    (pss_one (ps_ret (pv 1))))), ?_⟩)
  · obtain ⟨d, s, n, r, q, rfl, _⟩ := h
    rfl
  · obtain ⟨d, s, n, r, q, rfl, hs, hD⟩ := h
    have no := hD.no
    have yes := hD.yes
    unfold Wm08.act at no yes
    dsimp only at no yes
    walk_at "rd"
    refine ⟨r, rfl, ?_⟩
    k_call_by "rd" (dgt3, dgt3)
    cases c1 : Wm01.isRight r with
    | false =>
      rw [if_pos (.inl c1)] at no
      exact if_true_of rfl (no _ rfl H (Same.refl _))
    | true =>
      refine if_false_of rfl ?_
      by_cases c2 : 3 < q
      · rw [if_pos (.inr c2)] at no
        exact if_true_of (decide_eq_true c2) (no _ rfl H (Same.refl _))
      · rw [if_neg (by rw [c1]; simp; omega)] at yes
        refine if_false_of (decide_eq_false c2) ?_
        refine ⟨_, rfl, _, rfl, d.h, _, d.hx, _, _, rfl, hs.hh, T.c_House, T.n_House_quorums, hF_quorums _ _ _ _ _, _, rfl, d.q, _, rfl, dKD_set c1 hs.qu, _, rfl, ?_⟩
        refine yes _ rfl _ d (kept_upd d.mq) (hs.setQ fun x hx => ?_) rfl rfl (fun b hb => .inl hb)
        rw [quo_set]
        by_cases z : x = r
        · rw [if_pos z, if_pos z]
        · rw [if_neg z, if_neg z]
end
end Gh
set_option Elab.async false
set_option linter.all false
set_option maxRecDepth 100000
set_option maxHeartbeats 4000000
namespace Gh
open PySem PySem.Spec PyProof.Rows L2
local macro_rules | `(tactic| walk_at "rd") => `(tactic| simp only [tRet, tSeq, tAsg, gName, tDrop, tIfS, tTest, tB, tAnd, tOr, tNot, tAndV, tOrV, tNotV, tCmp, t2I, tAdd, tSub, tMul, tIsN, tNotN, tC, tVar, tCons, tNil, tCall, tOp, tUn, tCB, tNext, tRetN, tIf, tFld, wipe, tYes, HO.ins.injEq, and_assoc, L2.start, List.map_cons, List.map_nil, List.length_cons, List.length_nil, List.cons_append, List.nil_append, List.append_nil, List.set_cons_zero, List.set_cons_succ, List.replicate, Nat.reduceAdd, Nat.reduceSub, Nat.zero_add, Nat.sub_self, List.getElem?_cons_zero, List.getElem?_cons_succ, Option.some.injEq, V.int.injEq, V.bl.injEq, V.ref.injEq, V.str.injEq, List.cons.injEq, reduceCtorEq, and_true, true_and, and_false, false_and, exists_eq_left, exists_eq_left', exists_eq_right, exists_eq_right', exists_and_left, exists_const, exists_false, exists_eq, if_true, if_false, Bool.false_eq_true, Bool.true_eq_false, cxK, andV, orV, andT, orT, deq, dle, dlt, Bool.not_true, Bool.not_false, decide_true, decide_false, ite_true, ite_false])
local macro_rules | `(tactic| k_call_by "rd" ($a, $bs,*)) => do { let cs := bs.getElems; `(tactic| simp only [$a:term, $[$cs:term],*, tRet, tSeq, tAsg, gName, tDrop, tIfS, tTest, tB, tAnd, tOr, tNot, tAndV, tOrV, tNotV, tCmp, t2I, tAdd, tSub, tMul, tIsN, tNotN, tC, tVar, tCons, tNil, tCall, tOp, tUn, tCB, tNext, tRetN, tIf, tFld, wipe, tYes, HO.ins.injEq, and_assoc, L2.start, List.map_cons, List.map_nil, List.length_cons, List.length_nil, List.cons_append, List.nil_append, List.append_nil, List.set_cons_zero, List.set_cons_succ, List.replicate, Nat.reduceAdd, Nat.reduceSub, Nat.zero_add, Nat.sub_self, List.getElem?_cons_zero, List.getElem?_cons_succ, Option.some.injEq, V.int.injEq, V.bl.injEq, V.ref.injEq, V.str.injEq, List.cons.injEq, reduceCtorEq, and_true, true_and, and_false, false_and, exists_eq_left, exists_eq_left', exists_eq_right, exists_eq_right', exists_and_left, exists_const, exists_false, exists_eq, if_true, if_false, Bool.false_eq_true, Bool.true_eq_false, cxK, andV, orV, andT, orT, deq, dle, dlt, Bool.not_true, Bool.not_false, decide_true, decide_false, ite_true, ite_false]) }
section
variable {P : Program} {w : World} {K : PySem.W.Frag} {mg : Str → Option Value} {base : Heap}
/-! ### tickets -/
theorem tk_new {H : Hp} {n k : Nat} {v : V} : ∀ {ts : List (Key × V)} {l : List Wm08.Tick}, Paired (TkE K H) ts l → (∀ t ∈ l, t.num ≤ k) → k < n → putK ts (.inl (n : Int)) v = ts ++ [(.inl (n : Int), v)] := by
  intro ts l hp hk hn
  unfold putK
  rw [if_neg]
  intro z
  obtain ⟨x, hx, e⟩ := List.any_eq_true.mp z
  obtain ⟨i, hi⟩ := List.mem_iff_getElem?.mp hx
  obtain ⟨t, ht, r, _⟩ := pr_get hp hi
  have e1 := of_decide_eq_true e
  rw [r] at e1
  have e2 := Sum.inl.inj e1
  have := hk t (List.mem_of_getElem? ht)
  omega
/-- one more ticket -/
theorem HsAt.addT {H H1 : Hp} {d : Ad} {s : Wm08.State} {k : Nat} {a c : Addr} {ys : List V} {t : Wm08.Tick} (h : HsAt K H d s) (g : Good s k) (hk : k < t.num) (h60 : k ≤ 60) (s1 : Same H H1) (ht : TkAt K (less H1 d.M) a c ys t) :
    ∃ H', DPut H1 d.t (.int (t.num : Int)) (.ref a) H' ∧ HsAt K H' d { s with tickets := s.tickets ++ [t] } ∧ Kept d.M0 H H' := by
  have hs1 := h.same s1
  obtain ⟨ts, t1, t2⟩ := hs1.tk
  have hl : ts.length < sizeLine := by rw [pr_len t2]; exact sz1000 (Nat.le_trans g.tl (by omega))
  have hd := DPut.k (k := Sum.inl (t.num : Int)) (v := .ref a) t1 hl
  rw [tk_new t2 g.tn hk] at hd
  exact ⟨_, hd, hs1.setT (pr_app t2 (.cons ⟨rfl, a, c, ys, rfl, ht⟩ .nil)), kept_upd2 (Kept.of s1) d.mt⟩
/-- a new ticket's things are none of the house's changing places -/
theorem tk_less {H : Hp} {d : Ad} {s : Wm08.State} {a c : Addr} {ys : List V} {t : Wm08.Tick} (h : HsAt K H d s) (ht : TkAt K H a c ys t) (hc : c ∉ d.M) : TkAt K (less H d.M) a c ys t := by
  obtain ⟨⟨dx, h1⟩, h2, h3⟩ := ht
  refine ⟨⟨dx, less_at (fun m => ?_) h1⟩, less_at hc h2, pr_imp h3 fun y x z => ⟨?_, z.2⟩⟩
  · obtain ⟨o, e1, e2⟩ := h.there a m
    rw [h1] at e1
    cases e1
    rcases e2 with ⟨_, _, _, _, _, _, _, z⟩ | ⟨_, z⟩ | ⟨_, z⟩ | ⟨_, _, _, _, z⟩
    · have e := congrArg (fun l => (l.map (·.1)).head?) (HO.ins.inj z).2.2
      have e : some ("number" : Str) = some ("grants" : Str) := e
      exact absurd (Option.some.inj e) (by decide +kernel)
    · cases z
    · cases z
    · have e := congrArg (fun l => (l.map (·.1)).head?) (HO.ins.inj z).2.2
      have e : some ("number" : Str) = some ("numbers" : Str) := e
      exact absurd (Option.some.inj e) (by decide +kernel)
  · obtain ⟨b, e, hb⟩ := z.1
    refine ⟨b, e, less_at (fun m => ?_) hb⟩
    obtain ⟨o, e1, e2⟩ := h.there b m
    rw [hb] at e1
    cases e1
    rcases e2 with ⟨_, _, _, _, _, _, _, z⟩ | ⟨_, z⟩ | ⟨_, z⟩ | ⟨_, _, _, _, z⟩ <;> cases z
def spDoTicket (K : PySem.W.Frag) : Sp := fun vs H Q _ => ∃ (d : Ad) (s : Wm08.State) (k n a b r : Nat) (l : Addr) (ns : List Nat), vs = [.ref d.h, .int n, .int a, .int b, .int r, .ref l] ∧ HsAt K H d s ∧ Good s k ∧ k < n ∧ n ≤ 60 ∧ SqL K H l (nats ns) ∧ ns.length ≤ 30 ∧ Does K H d s n (.ticket a b r ns) Q
theorem user_ne {u : Nat} (h : Wm01.isUser u = true) : u ≠ 0 := by
  unfold Wm01.isUser at h
  simp only [Bool.and_eq_true, decide_eq_true_eq] at h
  omega
theorem cl_do_ticket (T : TX K mg) : Cl P w K mg base CX0 "do_ticket" 3 ["house", "number", "maker", "holder", "door", "row"] (spDoTicket K) := by
  have c_is_user : Cl P w K mg base CX0 "is_user" 1 ["number"] spIsUser := cl_is_user T
  have c_is_door : Cl P w K mg base CX0 "is_door" 1 ["number"] spIsDoor := cl_is_door T
  have c_are_caveats : Cl P w K mg base CX0 "are_caveats" 2 ["row"] (spAreCaveats K) := cl_are_caveats T
  have c_caveats_of : Cl P w K mg base CX0 "caveats_of" 1 ["row"] (spCaveatsOf K) := cl_caveats_of T
  have c_share : Cl P w K mg base CX0 "share" 1 ["grants", "user", "right"] (spShare K) := cl_share T
  have c_Ticket : Il P w K mg base CX0 "Ticket" (He.ga K "Ticket") 1 ["self", "number", "maker", "holder", "door", "source", "caveats"] (spTicketInit K) := il_Ticket T
  refine cl_of (d := d_do_ticket) T.g_do_ticket T.u_do_ticket sc_do_ticket b_do_ticket (fun vs H Q E h => ?_) (fun cdv A outer s H vs Q E hr h => ⟨_, PSs.nox (pss_cons (ps_if (pt_not (PW.pt (pw_and (pt_val (pe_c c_is_user (hr.mono (by omega)) pass0 (pa_cons (pv 2) pa_nil))) (pw_and (pt_val (pe_c c_is_user (hr.mono (by omega)) pass0 (pa_cons (pv 3) pa_nil))) (pw_and (pt_val (pe_c c_is_door (hr.mono (by omega)) pass0 (pa_cons (pv 4) pa_nil))) (pw_and1 (pt_val (pe_c c_are_caveats (hr.mono (by omega)) pass0 (pa_cons (pv 5) pa_nil))))))))) (pss_one (ps_ret (pe_gi T.i_WRONG))) pss_nil)
    (pss_cons (ps_if (pt_cmp (pc_eqI (pe_c c_share (hr.mono (by omega)) pass0 (pa_cons (pe_fld (pv 0) rfl) (pa_cons (pv 2) (pa_cons (pv 4) pa_nil)))) pe_int)) (pss_one (ps_ret (pe_gi T.i_MAY_NOT))) pss_nil)
    (pss_cons (ps_dput (hu_of hr) (pe_fld (pv 0) rfl) (pv 1) (pe_i c_Ticket (hr.mono (by omega)) pass0 (pa_cons (pv 1) (pa_cons (pv 2) (pa_cons (pv 3) (pa_cons (pv 4) (pa_cons pe_int (pa_cons (pe_c c_caveats_of (hr.mono (by omega)) pass0 (pa_cons (pv 5) pa_nil)) pa_nil))))))) rfl)
    (pss_one (ps_ret (pv 1)))))), ?_⟩)
  · obtain ⟨d, s, k, n, a, b, r, l, ns, rfl, _⟩ := h
    rfl
  · obtain ⟨d, s, k, n, a, b, r, l, ns, rfl, hs, g, hk, h60, hl, hn, hD⟩ := h
    have no := hD.no
    have yes := hD.yes
    unfold Wm08.act at no yes
    dsimp only at no yes
    walk_at "rd"
    refine ⟨a, rfl, ?_⟩
    walk_at "rd"
    cases c1 : Wm01.isUser a with
    | false =>
      rw [if_pos (.inl c1)] at no
      exact if_false_of rfl (no _ rfl H (Same.refl _))
    | true =>
      refine if_true_of rfl ⟨b, rfl, ?_⟩
      walk_at "rd"
      cases c2 : Wm01.isUser b with
      | false =>
        rw [if_pos (.inr (.inl c2))] at no
        exact if_false_of rfl (no _ rfl H (Same.refl _))
      | true =>
        refine if_true_of rfl ⟨r, rfl, ?_⟩
        walk_at "rd"
        cases c3 : Wm01.isRight r with
        | false =>
          rw [if_pos (.inr (.inr c3))] at no
          exact if_false_of rfl (no _ rfl H (Same.refl _))
        | true =>
          rw [c1, c2, c3, if_neg (by simp)] at no yes
          refine if_true_of rfl ⟨l, ns, rfl, hl, hn, fun H1 s1 => ?_⟩
          walk_at "rd"
          cases c4 : areCav ns with
          | false =>
            rw [cavs_no c4] at no
            exact if_true_of rfl (no _ rfl H1 s1)
          | true =>
            obtain ⟨e, m, hm, hm8⟩ := cavs_yes c4
            rw [e] at no yes
            dsimp only at no yes
            rw [share_has (user_ne c1)] at no yes
            refine if_false_of rfl ?_
            have hs1 := hs.same s1
            have hh1 := hs1.hh
            obtain ⟨xs, g1, g2, g3⟩ := hs1.grants g (by omega)
            k_call_by "rd" (hh1, T.c_House, T.n_House_grants, hF_grants)
            refine ⟨d.g, xs, _, a, r, rfl, g1, g2, g3, fun H2 s2 => ?_⟩
            walk_at "rd"
            by_cases c5 : share s.grants a r = 0
            · rw [if_pos c5] at no
              exact if_true_of (by rw [c5]; rfl) (no _ rfl H2 (s1.trans s2))
            · rw [if_neg c5] at yes
              refine if_false_of (decide_eq_false (by omega)) ?_
              have s02 := s1.trans s2
              refine ⟨_, rfl, _, rfl, _, rfl, _, rfl, _, rfl, l, ns, m, rfl, s02.seq hl, hm, by omega, fun H3 c ys s3 hc hy hys => ?_⟩
              intro x dx nx nd ne
              refine ⟨x, dx, _, _, _, _, _, _, rfl, upd_same, fun H4 hx k4 => ⟨rfl, ?_⟩⟩
              have s4 : Same H3 H4 := made_same nx nd k4
              have s04 := s02.trans (s3.trans s4)
              have hs4 := hs.same s04
              have tk : TkAt K H4 x c ys ⟨n, a, b, r, (threes ns).map cavOf, 0⟩ := ⟨⟨dx, hx⟩, s4 _ _ hy, cavV_threes c4 (pr_imp hys fun _ _ z => z.mono (newOf_same.trans s4))⟩
              have hcM : c ∉ d.M := hs.fresh (s02.free hc)
              obtain ⟨H5, hp, hs5, kp⟩ := hs.addT g (t := ⟨n, a, b, r, (threes ns).map cavOf, 0⟩) hk (by omega) s04 (tk_less hs4 tk hcM)
              refine ⟨_, rfl, d.h, _, d.hx, _, _, rfl, hs4.hh, T.c_House, T.n_House_tickets, hF_tickets _ _ _ _ _, _, rfl, d.t, _, rfl, hp, _, rfl, ?_⟩
              exact yes _ rfl _ d kp hs5 rfl rfl (fun b hb => .inl hb)
def spDoNarrow (K : PySem.W.Frag) : Sp := fun vs H Q _ => ∃ (d : Ad) (s : Wm08.State) (k n a m b : Nat) (l : Addr) (ns : List Nat), vs = [.ref d.h, .int n, .int a, .int m, .int b, .ref l] ∧ HsAt K H d s ∧ Good s k ∧ k < n ∧ n ≤ 60 ∧ SqL K H l (nats ns) ∧ ns.length ≤ 30 ∧ Does K H d s n (.narrow a m b ns) Q
theorem dgt8 (n : Nat) : decide ((8 : Int) < (n : Int)) = decide (8 < n) := dlt 8 n
theorem cl_do_narrow (T : TX K mg) : Cl P w K mg base CX0 "do_narrow" 3 ["house", "number", "user", "source", "holder", "row"] (spDoNarrow K) := by
  have c_is_user : Cl P w K mg base CX0 "is_user" 1 ["number"] spIsUser := cl_is_user T
  have c_are_caveats : Cl P w K mg base CX0 "are_caveats" 2 ["row"] (spAreCaveats K) := cl_are_caveats T
  have c_caveats_of : Cl P w K mg base CX0 "caveats_of" 1 ["row"] (spCaveatsOf K) := cl_caveats_of T
  have c_Ticket : Il P w K mg base CX0 "Ticket" (He.ga K "Ticket") 1 ["self", "number", "maker", "holder", "door", "source", "caveats"] (spTicketInit K) := il_Ticket T
  refine cl_of (d := d_do_narrow) T.g_do_narrow T.u_do_narrow sc_do_narrow b_do_narrow (fun vs H Q E h => ?_) (fun cdv A outer s H vs Q E hr h => ⟨_, PSs.nox (pss_cons (ps_if (pt_not (PW.pt (pw_and (pt_val (pe_c c_is_user (hr.mono (by omega)) pass0 (pa_cons (pv 2) pa_nil))) (pw_and (pt_val (pe_c c_is_user (hr.mono (by omega)) pass0 (pa_cons (pv 4) pa_nil))) (pw_and1 (pt_val (pe_c c_are_caveats (hr.mono (by omega)) pass0 (pa_cons (pv 5) pa_nil)))))))) (pss_one (ps_ret (pe_gi T.i_WRONG))) pss_nil)
    (pss_cons (ps_set (i := 6) sc_do_narrow.nd rfl (Or.inl rfl) (pe_dget1 (hu_of hr) (pe_fld (pv 0) rfl) (pv 3) ⟨rfl, rfl, rfl, rfl⟩))
    (pss_cons (ps_if (pt_cmp (pc_isN (pv 6))) (pss_one (ps_ret (pe_gi T.i_UNKNOWN))) pss_nil)
    (pss_cons (ps_if (pt_cmp (pc_neI (pe_fld (pv 6) rfl) (pv 2))) (pss_one (ps_ret (pe_gi T.i_MAY_NOT))) pss_nil)
    (pss_cons (ps_set (i := 7) sc_do_narrow.nd rfl (Or.inl rfl) (pe_op op_cat (pe_fld (pv 6) rfl) (pe_c c_caveats_of (hr.mono (by omega)) pass0 (pa_cons (pv 5) pa_nil))))
    (pss_cons (ps_if (pt_cmp (pc_gt (pe_callB cr_lenS (by rfl) T.f_len PySem.boot_len (pa_cons (pv 7) pa_nil)) (pe_gi T.i_MOST_CAVEATS))) (pss_one (ps_ret (pe_gi T.i_WRONG))) pss_nil)
    (pss_cons (ps_dput (hu_of hr) (pe_fld (pv 0) rfl) (pv 1) (pe_i c_Ticket (hr.mono (by omega)) pass0 (pa_cons (pv 1) (pa_cons (pe_fld (pv 6) rfl) (pa_cons (pv 4) (pa_cons (pe_fld (pv 6) rfl) (pa_cons (pv 3) (pa_cons (pv 7) pa_nil))))))) rfl)
    (pss_one (ps_ret (pv 1)))))))))), ?_⟩)
  · obtain ⟨d, s, k, n, a, m, b, l, ns, rfl, _⟩ := h
    rfl
  · obtain ⟨d, s, k, n, a, m, b, l, ns, rfl, hs, g, hk, h60, hl, hn, hD⟩ := h
    have no := hD.no
    have yes := hD.yes
    unfold Wm08.act at no yes
    dsimp only at no yes
    walk_at "rd"
    refine ⟨a, rfl, ?_⟩
    walk_at "rd"
    cases c1 : Wm01.isUser a with
    | false =>
      rw [if_pos (.inl c1)] at no
      exact if_false_of rfl (no _ rfl H (Same.refl _))
    | true =>
      refine if_true_of rfl ⟨b, rfl, ?_⟩
      walk_at "rd"
      cases c2 : Wm01.isUser b with
      | false =>
        rw [if_pos (.inr c2)] at no
        exact if_false_of rfl (no _ rfl H (Same.refl _))
      | true =>
        rw [c1, c2, if_neg (by simp)] at no yes
        refine if_true_of rfl ⟨l, ns, rfl, hl, hn, fun H1 s1 => ?_⟩
        walk_at "rd"
        cases c4 : areCav ns with
        | false =>
          rw [cavs_no c4] at no
          exact if_true_of rfl (no _ rfl H1 s1)
        | true =>
          obtain ⟨e, m3, hm, hm8⟩ := cavs_yes c4
          rw [e] at no yes
          dsimp only at no yes
          refine if_false_of rfl ?_
          have hs1 := hs.same s1
          have hh1 := hs1.hh
          obtain ⟨o, h1, h2, h3⟩ := hs1.ticket m
          refine ⟨_, rfl, d.h, _, d.hx, _, _, rfl, hh1, T.c_House, T.n_House_tickets, hF_tickets _ _ _ _ _, d.t, rfl, h2, _, rfl, o, h1, ?_⟩
          rcases h3 with ⟨e1, rfl⟩ | ⟨t, ta, tc, tys, e1, rfl, ht⟩
          · rw [e1] at no
            exact if_true_of (by decide) (no _ rfl H1 s1)
          · rw [e1] at no yes
            dsimp only at no yes
            have ht' := ht.mono less_same
            obtain ⟨⟨tdx, ho⟩, hli, hcv⟩ := ht'
            refine if_false_of (by rfl) ?_
            k_call_by "rd" (Option.getD_some, ho, T.c_Ticket, T.n_Ticket_holder, tF_holder, T.n_Ticket_caveats, tF_caveats)
            by_cases c5 : t.holder = a
            · refine if_false_of (by simp [c5]) ?_
              rw [if_neg (by simp [c5])] at no yes
              refine ⟨l, ns, m3, rfl, s1.seq hl, hm, by omega, fun H2 c ys s2 hc hy hys => ?_⟩
              have tl8 := (g.tick e1).2.1
              have lys : ys.length ≤ 8 := by rw [pr_len hys, threes_len m3 ns hm]; omega
              have ltys : tys.length ≤ 8 := by rw [pr_len hcv]; omega
              refine ⟨tc, c, tys, ys, rfl, rfl, s2 _ _ hli, hy, Nat.le_of_lt (sz1000 (by omega)), fun q hq => ?_⟩
              have s3 : Same H2 (upd H2 q (.lst (tys ++ ys))) := same_upd hq
              have ecl : (t.caveats ++ (threes ns).map cavOf).length = (tys ++ ys).length := by
                rw [List.length_append, List.length_append, List.length_map, pr_len hys, pr_len hcv]
              refine lenS (SqL.of upd_same) ?_
              rw [← ecl]
              k_call_by "rd" (dgt8, dgt8)
              have s03 := s1.trans (s2.trans s3)
              by_cases c6 : 8 < (t.caveats ++ (threes ns).map cavOf).length
              · rw [if_pos c6] at no
                exact if_true_of (decide_eq_true c6) (no _ rfl _ s03)
              · rw [if_neg c6] at yes
                refine if_false_of (decide_eq_false c6) ?_
                have ho3 := s3 _ _ (s2 _ _ ho)
                refine ⟨_, rfl, _, rfl, ta, _, tdx, _, _, rfl, ho3, T.c_Ticket, T.n_Ticket_maker, tF_maker _ _ _ _ _ _, _, rfl, _, rfl, ta, _, tdx, _, _, rfl, ho3, T.c_Ticket, T.n_Ticket_door, tF_door _ _ _ _ _ _, _, rfl, _, rfl, ?_⟩
                intro x dx nx nd ne
                refine ⟨x, dx, _, _, _, _, _, _, rfl, upd_same, fun H4 hx k4 => ⟨rfl, ?_⟩⟩
                have s4 : Same (upd H2 q (.lst (tys ++ ys))) H4 := made_same nx nd k4
                have s04 := s03.trans s4
                have hs4 := hs.same s04
                have cv : Paired (CavV H4) (tys ++ ys) (t.caveats ++ (threes ns).map cavOf) := pr_app (pr_imp hcv fun _ _ z => z.mono (s2.trans (s3.trans s4))) (cavV_threes c4 (pr_imp hys fun _ _ z => z.mono (newOf_same.trans (s3.trans s4))))
                have tk : TkAt K H4 x q (tys ++ ys) ⟨n, t.issuer, b, t.right, t.caveats ++ (threes ns).map cavOf, m⟩ := ⟨⟨dx, hx⟩, s4 _ _ upd_same, cv⟩
                have hqM : q ∉ d.M := hs.fresh ((s1.trans s2).free hq)
                obtain ⟨H5, hp, hs5, kp⟩ := hs.addT g (t := ⟨n, t.issuer, b, t.right, t.caveats ++ (threes ns).map cavOf, m⟩) hk (by omega) s04 (tk_less hs4 tk hqM)
                refine ⟨_, rfl, d.h, _, d.hx, _, _, rfl, hs4.hh, T.c_House, T.n_House_tickets, hF_tickets _ _ _ _ _, _, rfl, d.t, _, rfl, hp, _, rfl, ?_⟩
                exact yes _ rfl _ d kp hs5 rfl rfl (fun b hb => .inl hb)
            · rw [if_pos c5] at no
              exact if_true_of (by simp [c5]) (no _ rfl H1 s1)
end
end Gh
set_option Elab.async false
set_option linter.all false
set_option maxRecDepth 100000
set_option maxHeartbeats 4000000
namespace Gh
open PySem PySem.Spec PyProof.Rows L2
local macro_rules | `(tactic| walk_at "rd") => `(tactic| simp only [tRet, tSeq, tAsg, gName, tDrop, tIfS, tTest, tB, tAnd, tOr, tNot, tAndV, tOrV, tNotV, tCmp, t2I, tAdd, tSub, tMul, tIsN, tNotN, tC, tVar, tCons, tNil, tCall, tOp, tUn, tCB, tNext, tRetN, tIf, tFld, wipe, tYes, HO.ins.injEq, and_assoc, L2.start, List.map_cons, List.map_nil, List.length_cons, List.length_nil, List.cons_append, List.nil_append, List.append_nil, List.set_cons_zero, List.set_cons_succ, List.replicate, Nat.reduceAdd, Nat.reduceSub, Nat.zero_add, Nat.sub_self, List.getElem?_cons_zero, List.getElem?_cons_succ, Option.some.injEq, V.int.injEq, V.bl.injEq, V.ref.injEq, V.str.injEq, List.cons.injEq, reduceCtorEq, and_true, true_and, and_false, false_and, exists_eq_left, exists_eq_left', exists_eq_right, exists_eq_right', exists_and_left, exists_const, exists_false, exists_eq, if_true, if_false, Bool.false_eq_true, Bool.true_eq_false, cxK, andV, orV, andT, orT, deq, dle, dlt, Bool.not_true, Bool.not_false, decide_true, decide_false, ite_true, ite_false])
local macro_rules | `(tactic| k_call_by "rd" ($a, $bs,*)) => do { let cs := bs.getElems; `(tactic| simp only [$a:term, $[$cs:term],*, tRet, tSeq, tAsg, gName, tDrop, tIfS, tTest, tB, tAnd, tOr, tNot, tAndV, tOrV, tNotV, tCmp, t2I, tAdd, tSub, tMul, tIsN, tNotN, tC, tVar, tCons, tNil, tCall, tOp, tUn, tCB, tNext, tRetN, tIf, tFld, wipe, tYes, HO.ins.injEq, and_assoc, L2.start, List.map_cons, List.map_nil, List.length_cons, List.length_nil, List.cons_append, List.nil_append, List.append_nil, List.set_cons_zero, List.set_cons_succ, List.replicate, Nat.reduceAdd, Nat.reduceSub, Nat.zero_add, Nat.sub_self, List.getElem?_cons_zero, List.getElem?_cons_succ, Option.some.injEq, V.int.injEq, V.bl.injEq, V.ref.injEq, V.str.injEq, List.cons.injEq, reduceCtorEq, and_true, true_and, and_false, false_and, exists_eq_left, exists_eq_left', exists_eq_right, exists_eq_right', exists_and_left, exists_const, exists_false, exists_eq, if_true, if_false, Bool.false_eq_true, Bool.true_eq_false, cxK, andV, orV, andT, orT, deq, dle, dlt, Bool.not_true, Bool.not_false, decide_true, decide_false, ite_true, ite_false]) }
section
variable {P : Program} {w : World} {K : PySem.W.Frag} {mg : Str → Option Value} {base : Heap}
def spDoGrant (K : PySem.W.Frag) : Sp := fun vs H Q _ => ∃ (d : Ad) (s : Wm08.State) (k n a b r p : Nat), vs = [.ref d.h, .int n, .int a, .int b, .int r, .int p] ∧ HsAt K H d s ∧ Good s k ∧ k ≤ 60 ∧ Does K H d s n (.grant a b r p) Q
theorem leave_of {p : Nat} (h : ¬ 1 < p) : ((p : Nat) : Int) = leaveV (p == 1) := by
  match p, h with
  | 0, _ => rfl
  | 1, _ => rfl
  | n + 2, h => exact absurd (by omega) h
theorem dgt1 (n : Nat) : decide ((1 : Int) < (n : Int)) = decide (1 < n) := dlt 1 n
theorem dge14 (n : Nat) : decide ((14 : Int) ≤ (n : Int)) = decide (14 ≤ n) := dle 14 n
theorem cl_do_grant (T : TX K mg) : Cl P w K mg base CX0 "do_grant" 3 ["house", "number", "giver", "taker", "right", "leave"] (spDoGrant K) := by
  have c_is_gift : Cl P w K mg base CX0 "is_gift" 2 ["giver", "taker", "right"] spIsGift := cl_is_gift T
  have c_may_give : Cl P w K mg base CX0 "may_give" 2 ["grants", "giver", "right"] (spMayGive K) := cl_may_give T
  have c_of_right : Cl P w K mg base CX0 "of_right" 1 ["grants", "right"] (spOfRight K) := cl_of_right T
  have c_Grant : Il P w K mg base CX0 "Grant" (He.ga K "Grant") 1 ["self", "number", "giver", "taker", "right", "leave"] (spGrantInit K) := il_Grant T
  refine cl_of (d := d_do_grant) T.g_do_grant T.u_do_grant sc_do_grant b_do_grant (fun vs H Q E h => ?_) (fun cdv A outer s H vs Q E hr h => ⟨_, PSs.nox (pss_cons (ps_if (PW.pt (pw_or (pt_not (pt_val (pe_c c_is_gift (hr.mono (by omega)) pass0 (pa_cons (pv 2) (pa_cons (pv 3) (pa_cons (pv 4) pa_nil)))))) (pw_or1 (pt_cmp (pc_gt (pv 5) pe_int))))) (pss_one (ps_ret (pe_gi T.i_WRONG))) pss_nil)
    (pss_cons (ps_if (pt_not (pt_val (pe_c c_may_give (hr.mono (by omega)) pass0 (pa_cons (pe_fld (pv 0) rfl) (pa_cons (pv 2) (pa_cons (pv 4) pa_nil)))))) (pss_one (ps_ret (pe_gi T.i_MAY_NOT))) pss_nil)
    (pss_cons (ps_if (pt_cmp (pc_ge (pe_callB cr_lenS (by rfl) T.f_len PySem.boot_len (pa_cons (pe_c c_of_right (hr.mono (by omega)) pass0 (pa_cons (pe_fld (pv 0) rfl) (pa_cons (pv 4) pa_nil))) pa_nil)) (pe_gi T.i_MOST_GRANTS))) (pss_one (ps_ret (pe_gi T.i_FULL))) pss_nil)
    (pss_cons (ps_expr (pe_bm PySem.F.plainAttrs_list PySem.F.slot_list_append PySem.F.type_list_append mt_append (pe_fld (pv 0) rfl) (pa_cons (pe_i c_Grant (hr.mono (by omega)) pass0 (pa_cons (pv 1) (pa_cons (pv 2) (pa_cons (pv 3) (pa_cons (pv 4) (pa_cons (pv 5) pa_nil)))))) pa_nil)))
    (pss_one (ps_ret (pv 1))))))), ?_⟩)
  · obtain ⟨d, s, k, n, a, b, r, p, rfl, _⟩ := h
    rfl
  · obtain ⟨d, s, k, n, a, b, r, p, rfl, hs, g, hk, hD⟩ := h
    have no := hD.no
    have yes := hD.yes
    rw [act_grant] at no yes
    walk_at "rd"
    refine ⟨a, b, r, rfl, ?_⟩
    k_call_by "rd" (dgt1, dgt1)
    cases c1 : Wm01.isTriple a b r with
    | false =>
      rw [c1, if_pos (.inl rfl)] at no
      exact if_true_of rfl (no _ rfl H (Same.refl _))
    | true =>
      refine if_false_of rfl ?_
      by_cases c2 : 1 < p
      · rw [if_pos (.inr c2)] at no
        exact if_true_of (decide_eq_true c2) (no _ rfl H (Same.refl _))
      · rw [c1, if_neg (by simp [c2])] at no yes
        refine if_false_of (decide_eq_false c2) ?_
        have hh := hs.hh
        obtain ⟨xs, g1, g2, g3⟩ := hs.grants g hk
        k_call_by "rd" (hh, T.c_House, T.n_House_grants, hF_grants)
        refine ⟨d.g, xs, _, a, r, rfl, g1, g2, g3, fun H1 s1 => ?_⟩
        walk_at "rd"
        cases c3 : Wm01.mayGive s.grants a r with
        | false =>
          rw [c3, if_pos rfl] at no
          exact if_true_of rfl (no _ rfl H1 s1)
        | true =>
          rw [c3, if_neg (by simp)] at no yes
          refine if_false_of rfl ?_
          have hs1 := hs.same s1
          have hh1 := hs1.hh
          obtain ⟨xs1, g1, g2, g3⟩ := hs1.grants g hk
          k_call_by "rd" (hh1, T.c_House, T.n_House_grants, hF_grants)
          refine ⟨d.g, xs1, _, r, rfl, g1, g2, g3, fun H2 o ys s2 ho hy hys => ?_⟩
          refine lenS (SqL.of hy) ?_
          rw [pr_len hys]
          k_call_by "rd" (dge14, dge14)
          by_cases c4 : 14 ≤ (s.grants.filter fun g => g.right == r).length
          · rw [if_pos c4] at no
            exact if_true_of (decide_eq_true c4) (no _ rfl H2 (s1.trans s2))
          · rw [if_neg c4] at yes
            refine if_false_of (decide_eq_false c4) ?_
            have hs2 := hs1.same s2
            have hh2 := hs2.hh
            obtain ⟨xs2, g1, g2⟩ := hs2.gr
            refine ⟨_, rfl, d.h, _, d.hx, _, _, rfl, hh2, T.c_House, T.n_House_grants, hF_grants _ _ _ _ _, .inl ⟨rfl, _, SqL.of g1⟩, ?_⟩
            k_call_by "rd" (tMake, tMake)
            intro x dx' nx nd ne
            refine ⟨x, dx', _, _, _, _, _, rfl, upd_same, fun H3 hx k3 => ⟨rfl, ?_⟩⟩
            have s3 : Same H2 H3 := made_same nx nd k3
            have hs3 := hs2.same s3
            obtain ⟨xs3, g1, g2⟩ := hs3.gr
            have gl := g.gl
            refine ⟨d.g, xs3, _, rfl, rfl, g1, ?_, ?_⟩
            · rw [pr_len g2]; exact sz1000 (by omega)
            · have hg : GrV K H3 (.ref x) ⟨n, a, b, r, p == 1⟩ := ⟨x, rfl, dx', by rw [hx, leave_of c2]; rfl⟩
              have hsN := hs3.setG (gs := s.grants ++ [⟨n, a, b, r, p == 1⟩]) (pr_app g2 (.cons (gr_less hs3.there hg) .nil))
              exact yes _ rfl _ d (kept_upd2 (Kept.of (s1.trans (s2.trans s3))) d.mgr) hsN rfl rfl (fun b hb => .inl hb)
def gRef (s : Wm08.State) (a b r : Nat) : Int := if Wm01.isTriple a b r = false then -1 else if s.grants.any (Wm01.by_ a b r) = false then -3 else 0
def spGiftRefusal (K : PySem.W.Frag) : Sp := fun vs H Q _ => ∃ (d : Ad) (s : Wm08.State) (k a b r : Nat), vs = [.ref d.h, .int a, .int b, .int r] ∧ HsAt K H d s ∧ Good s k ∧ k ≤ 60 ∧ ∀ H', Same H H' → Q (.int (gRef s a b r)) H'
theorem cl_gift_refusal (T : TX K mg) : Cl P w K mg base CX0 "gift_refusal" 3 ["house", "giver", "taker", "right"] (spGiftRefusal K) := by
  have c_is_gift : Cl P w K mg base CX0 "is_gift" 2 ["giver", "taker", "right"] spIsGift := cl_is_gift T
  have c_any_given : Cl P w K mg base CX0 "any_given" 2 ["grants", "giver", "taker", "right"] (spAnyGiven K) := cl_any_given T
  refine cl_of (d := d_gift_refusal) T.g_gift_refusal T.u_gift_refusal sc_gift_refusal b_gift_refusal (fun vs H Q E h => ?_) (fun cdv A outer s H vs Q E hr h => ⟨_, PSs.nox (pss_cons (ps_if (pt_not (pt_val (pe_c c_is_gift (hr.mono (by omega)) pass0 (pa_cons (pv 1) (pa_cons (pv 2) (pa_cons (pv 3) pa_nil)))))) (pss_one (ps_ret (pe_gi T.i_WRONG))) pss_nil)
    (pss_cons (ps_if (pt_not (pt_val (pe_c c_any_given (hr.mono (by omega)) pass0 (pa_cons (pe_fld (pv 0) rfl) (pa_cons (pv 1) (pa_cons (pv 2) (pa_cons (pv 3) pa_nil))))))) (pss_one (ps_ret (pe_gi T.i_NO_GRANT))) pss_nil)
    (pss_one (ps_ret pe_int)))), ?_⟩)
  · obtain ⟨d, s, k, a, b, r, rfl, _⟩ := h
    rfl
  · obtain ⟨d, s, k, a, b, r, rfl, hs, g, hk, hQ⟩ := h
    unfold gRef at hQ
    walk_at "rd"
    refine ⟨a, b, r, rfl, ?_⟩
    walk_at "rd"
    cases c1 : Wm01.isTriple a b r with
    | false =>
      rw [c1, if_pos rfl] at hQ
      exact if_true_of rfl (hQ H (Same.refl _))
    | true =>
      rw [c1, if_neg (by simp)] at hQ
      refine if_false_of rfl ?_
      have hh := hs.hh
      obtain ⟨xs, g1, g2, g3⟩ := hs.grants g hk
      k_call_by "rd" (hh, T.c_House, T.n_House_grants, hF_grants)
      refine ⟨d.g, xs, _, a, b, r, rfl, g1, g2, g3, fun H1 s1 => ?_⟩
      walk_at "rd"
      cases c2 : s.grants.any (Wm01.by_ a b r) with
      | false =>
        rw [c2, if_pos rfl] at hQ
        exact if_true_of rfl (hQ H1 s1)
      | true =>
        rw [c2, if_neg (by simp)] at hQ
        exact if_false_of rfl (hQ H1 s1)
def spDoRevoke (K : PySem.W.Frag) : Sp := fun vs H Q _ => ∃ (d : Ad) (s : Wm08.State) (k n a b r : Nat), vs = [.ref d.h, .int n, .int a, .int b, .int r] ∧ HsAt K H d s ∧ Good s k ∧ k ≤ 60 ∧ Does K H d s n (.revoke a b r) Q
theorem gRef_cases (s : Wm08.State) (a b r : Nat) : (gRef s a b r = -1 ∧ Wm01.isTriple a b r = false) ∨ (gRef s a b r = -3 ∧ Wm01.isTriple a b r = true ∧ s.grants.any (Wm01.by_ a b r) = false) ∨ (gRef s a b r = 0 ∧ Wm01.isTriple a b r = true ∧ s.grants.any (Wm01.by_ a b r) = true) := by
  unfold gRef
  cases Wm01.isTriple a b r <;> cases s.grants.any (Wm01.by_ a b r) <;> simp
theorem cl_do_revoke (T : TX K mg) : Cl P w K mg base CX0 "do_revoke" 5 ["house", "number", "giver", "taker", "right"] (spDoRevoke K) := by
  have c_gift_refusal : Cl P w K mg base CX0 "gift_refusal" 3 ["house", "giver", "taker", "right"] (spGiftRefusal K) := cl_gift_refusal T
  have c_taken_back : Cl P w K mg base CX0 "taken_back" 4 ["grants", "giver", "taker", "right"] (spTakenBack K) := cl_taken_back T
  refine cl_of (d := d_do_revoke) T.g_do_revoke T.u_do_revoke sc_do_revoke b_do_revoke (fun vs H Q E h => ?_) (fun cdv A outer s H vs Q E hr h => ⟨_, PSs.nox (pss_cons (ps_set (i := 5) sc_do_revoke.nd rfl (Or.inl rfl) (pe_c c_gift_refusal (hr.mono (by omega)) pass0 (pa_cons (pv 0) (pa_cons (pv 2) (pa_cons (pv 3) (pa_cons (pv 4) pa_nil))))))
    (pss_cons (ps_if (pt_cmp (pc_neI (pv 5) pe_int)) (pss_one (ps_ret (pv 5))) pss_nil)
    (pss_cons (ps_fld (pv 0) (pe_c c_taken_back (hr.mono (by omega)) pass0 (pa_cons (pe_fld (pv 0) rfl) (pa_cons (pv 2) (pa_cons (pv 3) (pa_cons (pv 4) pa_nil))))) rfl)
    (pss_one (ps_ret (pv 1)))))), ?_⟩)
  · obtain ⟨d, s, k, n, a, b, r, rfl, _⟩ := h
    rfl
  · obtain ⟨d, s, k, n, a, b, r, rfl, hs, g, hk, hD⟩ := h
    have no := hD.no
    have yes := hD.yes
    rw [act_revoke] at no yes
    walk_at "rd"
    refine ⟨d, s, k, a, b, r, rfl, hs, g, hk, fun H1 s1 => ?_⟩
    walk_at "rd"
    rcases gRef_cases s a b r with ⟨e, c1⟩ | ⟨e, c1, c2⟩ | ⟨e, c1, c2⟩
    · rw [e]
      rw [c1, if_pos rfl] at no
      exact if_true_of (by decide) (no _ rfl H1 s1)
    · rw [e]
      rw [c1, if_neg (by simp), c2, if_pos rfl] at no
      exact if_true_of (by decide) (no _ rfl H1 s1)
    · rw [e]
      rw [c1, if_neg (by simp), c2, if_neg (by simp)] at yes
      refine if_false_of (by decide) ?_
      have hs1 := hs.same s1
      have hh1 := hs1.hh
      obtain ⟨xs, g1, g2, g3⟩ := hs1.grants g hk
      refine ⟨_, rfl, d.h, _, d.hx, _, _, rfl, hh1, T.c_House, T.n_House_grants, hF_grants _ _ _ _ _, _, rfl, _, rfl, _, rfl, d.g, xs, _, a, b, r, rfl, g1, g2, g3, fun H2 p ys s2 hp hy hys => ?_⟩
      have hs2 := hs1.same s2
      refine ⟨_, rfl, d.h, _, d.hx, _, rfl, hs2.hh, T.c_House, T.n_House_grants, (by show 5 < 1000; decide), _, rfl, ?_⟩
      rw [hF_put]
      obtain ⟨n1, n2, n3⟩ := hs.newG (s1.trans s2) (s1.free hp) hy hys
      exact yes _ rfl _ _ n2 n1 rfl rfl n3
def spDoOver (K : PySem.W.Frag) : Sp := fun vs H Q _ => ∃ (d : Ad) (s : Wm08.State) (k n a b r : Nat), vs = [.ref d.h, .int n, .int a, .int b, .int r] ∧ HsAt K H d s ∧ Good s k ∧ k ≤ 60 ∧ Does K H d s n (.over a b r) Q
theorem cl_do_over (T : TX K mg) : Cl P w K mg base CX0 "do_over" 5 ["house", "number", "giver", "taker", "right"] (spDoOver K) := by
  have c_gift_refusal : Cl P w K mg base CX0 "gift_refusal" 3 ["house", "giver", "taker", "right"] (spGiftRefusal K) := cl_gift_refusal T
  have c_taken_over : Cl P w K mg base CX0 "taken_over" 4 ["grants", "giver", "taker", "right"] (spTakenOver K) := cl_taken_over T
  refine cl_of (d := d_do_over) T.g_do_over T.u_do_over sc_do_over b_do_over (fun vs H Q E h => ?_) (fun cdv A outer s H vs Q E hr h => ⟨_, PSs.nox (pss_cons (ps_set (i := 5) sc_do_over.nd rfl (Or.inl rfl) (pe_c c_gift_refusal (hr.mono (by omega)) pass0 (pa_cons (pv 0) (pa_cons (pv 2) (pa_cons (pv 3) (pa_cons (pv 4) pa_nil))))))
    (pss_cons (ps_if (pt_cmp (pc_neI (pv 5) pe_int)) (pss_one (ps_ret (pv 5))) pss_nil)
    (pss_cons (ps_fld (pv 0) (pe_c c_taken_over (hr.mono (by omega)) pass0 (pa_cons (pe_fld (pv 0) rfl) (pa_cons (pv 2) (pa_cons (pv 3) (pa_cons (pv 4) pa_nil))))) rfl)
    (pss_one (ps_ret (pv 1)))))), ?_⟩)
  · obtain ⟨d, s, k, n, a, b, r, rfl, _⟩ := h
    rfl
  · obtain ⟨d, s, k, n, a, b, r, rfl, hs, g, hk, hD⟩ := h
    have no := hD.no
    have yes := hD.yes
    rw [act_over] at no yes
    walk_at "rd"
    refine ⟨d, s, k, a, b, r, rfl, hs, g, hk, fun H1 s1 => ?_⟩
    walk_at "rd"
    rcases gRef_cases s a b r with ⟨e, c1⟩ | ⟨e, c1, c2⟩ | ⟨e, c1, c2⟩
    · rw [e]
      rw [c1, if_pos rfl] at no
      exact if_true_of (by decide) (no _ rfl H1 s1)
    · rw [e]
      rw [c1, if_neg (by simp), c2, if_pos rfl] at no
      exact if_true_of (by decide) (no _ rfl H1 s1)
    · rw [e]
      rw [c1, if_neg (by simp), c2, if_neg (by simp)] at yes
      refine if_false_of (by decide) ?_
      have hs1 := hs.same s1
      have hh1 := hs1.hh
      obtain ⟨xs, g1, g2, g3⟩ := hs1.grants g hk
      refine ⟨_, rfl, d.h, _, d.hx, _, _, rfl, hh1, T.c_House, T.n_House_grants, hF_grants _ _ _ _ _, _, rfl, _, rfl, _, rfl, d.g, xs, _, a, b, r, rfl, g1, g2, g3, fun H2 p ys s2 hp hy hys => ?_⟩
      have hs2 := hs1.same s2
      refine ⟨_, rfl, d.h, _, d.hx, _, rfl, hs2.hh, T.c_House, T.n_House_grants, (by show 5 < 1000; decide), _, rfl, ?_⟩
      rw [hF_put]
      obtain ⟨n1, n2, n3⟩ := hs.newG (s1.trans s2) (s1.free hp) hy hys
      exact yes _ rfl _ _ n2 n1 rfl rfl n3
def spDoLeave (K : PySem.W.Frag) : Sp := fun vs H Q _ => ∃ (d : Ad) (s : Wm08.State) (k n u : Nat), vs = [.ref d.h, .int n, .int u] ∧ HsAt K H d s ∧ Good s k ∧ k ≤ 60 ∧ Does K H d s n (.leave u) Q
theorem cl_do_leave (T : TX K mg) : Cl P w K mg base CX0 "do_leave" 5 ["house", "number", "user"] (spDoLeave K) := by
  have c_is_user : Cl P w K mg base CX0 "is_user" 1 ["number"] spIsUser := cl_is_user T
  have c_without_user : Cl P w K mg base CX0 "without_user" 4 ["grants", "user"] (spWithoutUser K) := cl_without_user T
  refine cl_of (d := d_do_leave) T.g_do_leave T.u_do_leave sc_do_leave b_do_leave (fun vs H Q E h => ?_) (fun cdv A outer s H vs Q E hr h => ⟨_, PSs.nox (pss_cons (ps_if (pt_not (pt_val (pe_c c_is_user (hr.mono (by omega)) pass0 (pa_cons (pv 2) pa_nil)))) (pss_one (ps_ret (pe_gi T.i_WRONG))) pss_nil)
    (pss_cons (ps_fld (pv 0) (pe_c c_without_user (hr.mono (by omega)) pass0 (pa_cons (pe_fld (pv 0) rfl) (pa_cons (pv 2) pa_nil))) rfl)
    (pss_one (ps_ret (pv 1))))), ?_⟩)
  · obtain ⟨d, s, k, n, u, rfl, _⟩ := h
    rfl
  · obtain ⟨d, s, k, n, u, rfl, hs, g, hk, hD⟩ := h
    have no := hD.no
    have yes := hD.yes
    rw [act_leave] at no yes
    walk_at "rd"
    refine ⟨u, rfl, ?_⟩
    walk_at "rd"
    cases c1 : Wm01.isUser u with
    | false =>
      rw [c1, if_pos rfl] at no
      exact if_true_of rfl (no _ rfl H (Same.refl _))
    | true =>
      rw [c1, if_neg (by simp)] at yes
      refine if_false_of rfl ?_
      obtain ⟨xs, g1, g2, g3⟩ := hs.grants g hk
      refine ⟨_, rfl, d.h, _, d.hx, _, _, rfl, hs.hh, T.c_House, T.n_House_grants, hF_grants _ _ _ _ _, _, rfl, d.g, xs, _, u, rfl, g1, g2, g3, fun H2 p ys s2 hp hy hys => ?_⟩
      have hs2 := hs.same s2
      refine ⟨_, rfl, d.h, _, d.hx, _, rfl, hs2.hh, T.c_House, T.n_House_grants, (by show 5 < 1000; decide), _, rfl, ?_⟩
      rw [hF_put]
      obtain ⟨n1, n2, n3⟩ := hs.newG s2 hp hy hys
      exact yes _ rfl _ _ n2 n1 rfl rfl n3
end
end Gh
set_option Elab.async false
set_option linter.all false
set_option maxRecDepth 100000
set_option maxHeartbeats 4000000
namespace Gh
open PySem PySem.Spec PyProof.Rows L2
local macro_rules | `(tactic| walk_at "rd") => `(tactic| simp only [tRet, tSeq, tAsg, gName, tDrop, tIfS, tTest, tB, tAnd, tOr, tNot, tAndV, tOrV, tNotV, tCmp, t2I, tAdd, tSub, tMul, tIsN, tNotN, tC, tVar, tCons, tNil, tCall, tOp, tUn, tCB, tNext, tRetN, tIf, tFld, wipe, tYes, HO.ins.injEq, and_assoc, L2.start, List.map_cons, List.map_nil, List.length_cons, List.length_nil, List.cons_append, List.nil_append, List.append_nil, List.set_cons_zero, List.set_cons_succ, List.replicate, Nat.reduceAdd, Nat.reduceSub, Nat.zero_add, Nat.sub_self, List.getElem?_cons_zero, List.getElem?_cons_succ, Option.some.injEq, V.int.injEq, V.bl.injEq, V.ref.injEq, V.str.injEq, List.cons.injEq, reduceCtorEq, and_true, true_and, and_false, false_and, exists_eq_left, exists_eq_left', exists_eq_right, exists_eq_right', exists_and_left, exists_const, exists_false, exists_eq, if_true, if_false, Bool.false_eq_true, Bool.true_eq_false, cxK, andV, orV, andT, orT, deq, dle, dlt, Bool.not_true, Bool.not_false, decide_true, decide_false, ite_true, ite_false])
local macro_rules | `(tactic| k_call_by "rd" ($a, $bs,*)) => do { let cs := bs.getElems; `(tactic| simp only [$a:term, $[$cs:term],*, tRet, tSeq, tAsg, gName, tDrop, tIfS, tTest, tB, tAnd, tOr, tNot, tAndV, tOrV, tNotV, tCmp, t2I, tAdd, tSub, tMul, tIsN, tNotN, tC, tVar, tCons, tNil, tCall, tOp, tUn, tCB, tNext, tRetN, tIf, tFld, wipe, tYes, HO.ins.injEq, and_assoc, L2.start, List.map_cons, List.map_nil, List.length_cons, List.length_nil, List.cons_append, List.nil_append, List.append_nil, List.set_cons_zero, List.set_cons_succ, List.replicate, Nat.reduceAdd, Nat.reduceSub, Nat.zero_add, Nat.sub_self, List.getElem?_cons_zero, List.getElem?_cons_succ, Option.some.injEq, V.int.injEq, V.bl.injEq, V.ref.injEq, V.str.injEq, List.cons.injEq, reduceCtorEq, and_true, true_and, and_false, false_and, exists_eq_left, exists_eq_left', exists_eq_right, exists_eq_right', exists_and_left, exists_const, exists_false, exists_eq, if_true, if_false, Bool.false_eq_true, Bool.true_eq_false, cxK, andV, orV, andT, orT, deq, dle, dlt, Bool.not_true, Bool.not_false, decide_true, decide_false, ite_true, ite_false]) }
section
variable {P : Program} {w : World} {K : PySem.W.Frag} {mg : Str → Option Value} {base : Heap}
/-! ### allow -/
theorem ent_put {us : List Nat} {u : Nat} : putK (us.map ent) (.inl (u : Int)) (.bl true) = ((if us.contains u = true then us else us ++ [u]).map ent) := by
  unfold putK
  have e : ((us.map ent).any fun kv => decide (kv.1 = .inl (u : Int))) = us.contains u := by
    rw [List.any_map]
    induction us with
    | nil => rfl
    | cons a us ih =>
      rw [List.any_cons, ih, List.contains_cons]
      congr 1
      show decide ((Sum.inl (a : Int) : Key) = .inl (u : Int)) = (u == a)
      by_cases z : a = u
      · subst z; simp
      · have : ¬ (Sum.inl (a : Int) : Key) = .inl (u : Int) := fun y => z (by have := Sum.inl.inj y; omega)
        rw [decide_eq_false this]
        exact (beq_eq_false_iff_ne.mpr (Ne.symm z)).symm
  rw [e]
  split
  · rw [List.map_map]
    apply List.map_congr_left
    intro a _
    show (if (ent a).1 = .inl (u : Int) then ((ent a).1, V.bl true) else ent a) = ent a
    split <;> rfl
  · rw [List.map_append]
    rfl
theorem alw_add {s : Wm08.State} {r u : Nat} : alw { s with allowed := if s.allowed.contains (r, u) = true then s.allowed else s.allowed ++ [(r, u)] } r = if (alw s r).contains u = true then alw s r else alw s r ++ [u] := by
  have e : (alw s r).contains u = s.allowed.contains (r, u) := by
    rw [Bool.eq_iff_iff, List.contains_iff_mem, List.contains_iff_mem]
    exact alw_mem
  rw [e]
  unfold alw
  dsimp only
  split
  · rfl
  · rw [List.filter_append, List.map_append]
    congr 1
    simp
theorem alw_oth {s : Wm08.State} {r u x : Nat} (h : x ≠ r) : alw { s with allowed := if s.allowed.contains (r, u) = true then s.allowed else s.allowed ++ [(r, u)] } x = alw s x := by
  unfold alw
  dsimp only
  split
  · rfl
  · rw [List.filter_append, List.map_append]
    have : (([(r, u)] : List (Nat × Nat)).filter fun y => y.1 == x) = [] := by simp [Ne.symm h]
    rw [this]
    simp
def spDoAllow (K : PySem.W.Frag) : Sp := fun vs H Q _ => ∃ (d : Ad) (s : Wm08.State) (k n u r : Nat), vs = [.ref d.h, .int n, .int u, .int r] ∧ HsAt K H d s ∧ Good s k ∧ k ≤ 60 ∧ Does K H d s n (.approve u r) Q
theorem cl_do_allow (T : TX K mg) : Cl P w K mg base CX0 "do_allow" 2 ["house", "number", "user", "door"] (spDoAllow K) := by
  have c_is_user : Cl P w K mg base CX0 "is_user" 1 ["number"] spIsUser := cl_is_user T
  have c_is_door : Cl P w K mg base CX0 "is_door" 1 ["number"] spIsDoor := cl_is_door T
  have c_share : Cl P w K mg base CX0 "share" 1 ["grants", "user", "right"] (spShare K) := cl_share T
  refine cl_of (d := d_do_allow) T.g_do_allow T.u_do_allow sc_do_allow b_do_allow (fun vs H Q E h => ?_) (fun cdv A outer s H vs Q E hr h => ⟨_, PSs.nox (pss_cons (ps_if (pt_not (PW.pt (pw_and (pt_val (pe_c c_is_user (hr.mono (by omega)) pass0 (pa_cons (pv 2) pa_nil))) (pw_and1 (pt_val (pe_c c_is_door (hr.mono (by omega)) pass0 (pa_cons (pv 3) pa_nil))))))) (pss_one (ps_ret (pe_gi T.i_WRONG))) pss_nil)
    (pss_cons (ps_if (pt_cmp (pc_neI (pe_c c_share (hr.mono (by omega)) pass0 (pa_cons (pe_fld (pv 0) rfl) (pa_cons (pv 2) (pa_cons (pv 3) pa_nil)))) (pe_gi T.i_WITH_LEAVE))) (pss_one (ps_ret (pe_gi T.i_MAY_NOT))) pss_nil)
    (pss_cons (ps_dput (hu_of hr) (pe_dget (hu_of hr) (pe_fld (pv 0) rfl) (pv 3) (fun _ _ => rfl)) (pv 2) pe_bl rfl)
    (pss_one (ps_ret (pv 1)))))), ?_⟩)
  · obtain ⟨d, s, k, n, u, r, rfl, _⟩ := h
    rfl
  · obtain ⟨d, s, k, n, u, r, rfl, hs, g, hk, hD⟩ := h
    have no := hD.no
    have yes := hD.yes
    unfold Wm08.act at no yes
    dsimp only at no yes
    walk_at "rd"
    refine ⟨u, rfl, ?_⟩
    walk_at "rd"
    cases c1 : Wm01.isUser u with
    | false =>
      rw [if_pos (.inl c1)] at no
      exact if_false_of rfl (no _ rfl H (Same.refl _))
    | true =>
      refine if_true_of rfl ⟨r, rfl, ?_⟩
      walk_at "rd"
      cases c2 : Wm01.isRight r with
      | false =>
        rw [if_pos (.inr c2)] at no
        exact if_true_of rfl (no _ rfl H (Same.refl _))
      | true =>
        rw [c1, c2, if_neg (by simp), share_has (user_ne c1)] at no yes
        refine if_false_of rfl ?_
        have hh := hs.hh
        obtain ⟨xs, g1, g2, g3⟩ := hs.grants g hk
        k_call_by "rd" (hh, T.c_House, T.n_House_grants, hF_grants)
        refine ⟨d.g, xs, _, u, r, rfl, g1, g2, g3, fun H1 s1 => ?_⟩
        walk_at "rd"
        by_cases c3 : share s.grants u r = 2
        · rw [if_neg (by simp [c3])] at yes
          refine if_false_of (by rw [c3]; decide) ?_
          have hs1 := hs.same s1
          have hal12 : (alw s r).length ≤ 12 := nodup_le (alw_nodup g.al) fun v hv => g.au (r, v) (alw_mem.mp hv)
          have hput := DPut.k (k := Sum.inl (u : Int)) (v := .bl true) (hs1.in_ r c2) (by rw [List.length_map]; exact sz1000 (by omega))
          rw [ent_put] at hput
          refine ⟨_, rfl, d.h, _, d.hx, _, _, rfl, hs1.hh, T.c_House, T.n_House_allowed, hF_allowed _ _ _ _ _, _, rfl, d.a, _, rfl, dKD_get c2 hs1.al, _, rfl, d.i r, _, rfl, hput, _, rfl, ?_⟩
          refine yes _ rfl _ d (kept_upd2 (Kept.of s1) (d.mem_i c2)) (hs1.setI c2 ?_ fun x hx => alw_oth hx) rfl rfl (fun b hb => .inl hb)
          rw [alw_add]
        · rw [if_pos c3] at no
          refine if_true_of ?_ (no _ rfl H1 s1)
          have : ¬ ((share s.grants u r : Nat) : Int) = 2 := by omega
          simp [this]
/-! ### open -/
theorem alw_gone {s : Wm08.State} {r : Nat} {l : List Nat} : alw { s with allowed := s.allowed.filter (fun x => x.1 != r), opened := l } r = [] := by
  unfold alw
  dsimp only
  rw [List.filter_filter, List.map_eq_nil_iff, List.filter_eq_nil_iff]
  intro x _
  by_cases e : x.1 = r <;> simp [e]
theorem alw_stay {s : Wm08.State} {r x : Nat} {l : List Nat} (h : x ≠ r) : alw { s with allowed := s.allowed.filter (fun x => x.1 != r), opened := l } x = alw s x := by
  unfold alw
  dsimp only
  rw [List.filter_filter]
  congr 1
  apply List.filter_congr
  intro y _
  by_cases e : y.1 = x
  · simp [e, h]
  · simp [e]
def spDoOpen (K : PySem.W.Frag) : Sp := fun vs H Q _ => ∃ (d : Ad) (s : Wm08.State) (k n u r m : Nat) (l : Addr) (q : List Nat), vs = [.ref d.h, .int n, .int u, .int r, .int m, .ref l] ∧ HsAt K H d s ∧ Good s k ∧ k ≤ 60 ∧ SqL K H l (nats q) ∧ q.length ≤ 1000 ∧ Does K H d s n (.open_ u r m q) Q
theorem cl_do_open (T : TX K mg) : Cl P w K mg base CX0 "do_open" 26 ["house", "number", "user", "door", "ticket_number", "values"] (spDoOpen K) := by
  have c_is_asked_rightly : Cl P w K mg base CX0 "is_asked_rightly" 2 ["user", "door", "values"] (spAsked K) := cl_is_asked_rightly T
  have c_may_open : Cl P w K mg base CX0 "may_open" 25 ["house", "user", "door", "ticket_number", "values"] (spMayOpen K) := cl_may_open T
  refine cl_of (d := d_do_open) T.g_do_open T.u_do_open sc_do_open b_do_open (fun vs H Q E h => ?_) (fun cdv A outer s H vs Q E hr h => ⟨_, PSs.nox (pss_cons (ps_if (pt_not (pt_val (pe_c c_is_asked_rightly (hr.mono (by omega)) pass0 (pa_cons (pv 2) (pa_cons (pv 3) (pa_cons (pv 5) pa_nil)))))) (pss_one (ps_ret (pe_gi T.i_WRONG))) pss_nil)
    (pss_cons (ps_if (PW.pt (pw_and (pt_cmp (pc_neI (pv 4) pe_int)) (pw_and1 (pt_cmp (pc_isN (pe_dget1 (hu_of hr) (pe_fld (pv 0) rfl) (pv 4) ⟨rfl, rfl, rfl, rfl⟩)))))) (pss_one (ps_ret (pe_gi T.i_UNKNOWN))) pss_nil)
    (pss_cons (ps_if (pt_not (pt_val (pe_c c_may_open (hr.mono (by omega)) pass0 (pa_cons (pv 0) (pa_cons (pv 2) (pa_cons (pv 3) (pa_cons (pv 4) (pa_cons (pv 5) pa_nil)))))))) (pss_one (ps_ret (pe_gi T.i_MAY_NOT))) pss_nil)
    (pss_cons (ps_dput (hu_of hr) (pe_fld (pv 0) rfl) (pv 3) pe_dnewK rfl)
    (pss_one (ps_ret (pv 1))))))), ?_⟩)
  · obtain ⟨d, s, k, n, u, r, m, l, q, rfl, _⟩ := h
    rfl
  · obtain ⟨d, s, k, n, u, r, m, l, q, rfl, hs, g, hk, hl, hn, hD⟩ := h
    have no := hD.no
    have yes := hD.yes
    unfold Wm08.act at no yes
    dsimp only at no yes
    walk_at "rd"
    refine ⟨u, r, l, q, rfl, hl, hn, fun H1 s1 => ?_⟩
    walk_at "rd"
    cases c1 : askR u r q with
    | false =>
      rw [if_pos (askR_false.mp c1)] at no
      exact if_true_of rfl (no _ rfl H1 s1)
    | true =>
      obtain ⟨hu, hr', hq⟩ := askR_true c1
      have nf : ¬ (Wm01.isUser u = false ∨ Wm01.isRight r = false ∨ Wm08.isRequest q = false) := fun z => by rw [askR_false.mpr z] at c1; cases c1
      rw [if_neg nf] at no yes
      refine if_false_of rfl ?_
      have hs1 := hs.same s1
      have go : ∀ H2, Same H H2 → ¬ (m ≠ 0 ∧ (Wm08.ticket? s m).isNone = true) → spMayOpen K [V.ref d.h, V.int u, V.int r, V.int m, V.ref l] H2 (fun x H3 => ∃ c, x = V.bl c ∧ if (!c) = true then Q (.int (-6)) H3 else sDPut (tFld K (tVar 0) "allowed") (tVar 3) tDNewK { nx := tRet (tVar 1) { nx := fun x H' => Q V.non H', rt := Q }, rt := Q } [some (V.ref d.h), some (V.int n), some (V.int u), some (V.int r), some (V.int m), some (V.ref l)] H3) E0 := fun H2 s2 hm => by
        rw [if_neg hm] at no yes
        refine ⟨d, s, k, u, r, m, l, q, rfl, hs.same s2, g, hk, hu, hr', s2.seq hl, hq, fun H3 s3 => ⟨_, rfl, ?_⟩⟩
        cases c2 : Wm08.may s u r m q with
        | false =>
          rw [c2, if_pos rfl] at no
          exact if_true_of rfl (no _ rfl H3 (s2.trans s3))
        | true =>
          rw [c2, if_neg (by simp)] at yes
          refine if_false_of rfl ?_
          have s03 := s2.trans s3
          have hs3 := hs.same s03
          intro x hx
          have hs4 := hs3.same (same_upd (o := .dK []) hx)
          obtain ⟨n1, n2, n3⟩ := hs3.newI (t := { s with allowed := s.allowed.filter (fun x => x.1 != r), opened := s.opened ++ [n] }) hr' hx ⟨rfl, rfl, rfl, rfl⟩ alw_gone (fun x hx => alw_stay hx)
          refine ⟨_, rfl, d.h, _, d.hx, _, _, rfl, hs4.hh, T.c_House, T.n_House_allowed, hF_allowed _ _ _ _ _, _, rfl, d.a, _, rfl, dKD_set hr' hs4.al, _, rfl, ?_⟩
          refine yes _ rfl _ _ ((Kept.of s03).trans n2) n1 rfl rfl fun b hb => ?_
          rcases n3 b hb with z | z
          · exact .inl z
          · exact .inr (s03.free z)
      by_cases c3 : m = 0
      · refine if_false_of (by rw [c3]; rfl) ?_
        exact go H1 s1 fun z => z.1 c3
      · refine if_true_of (by simp [c3]) ?_
        obtain ⟨o, h1, h2, h3⟩ := hs1.ticket m
        refine ⟨_, rfl, d.h, _, d.hx, _, _, rfl, hs1.hh, T.c_House, T.n_House_tickets, hF_tickets _ _ _ _ _, d.t, rfl, h2, _, rfl, o, h1, ?_⟩
        rcases h3 with ⟨e1, rfl⟩ | ⟨t, ta, tc, tys, e1, rfl, ht⟩
        · rw [if_pos ⟨c3, by rw [e1]; rfl⟩] at no
          exact if_true_of (by decide) (no _ rfl H1 s1)
        · exact if_false_of (by rfl) (go H1 s1 fun z => by rw [e1] at z; exact absurd z.2 (by simp))
end
end Gh
set_option Elab.async false
set_option linter.all false
set_option maxRecDepth 100000
set_option maxHeartbeats 4000000
/-! More rules: enumerate(list, start=1), list.extend(tuple), list(reversed(list)). -/
namespace Gh
open PySem PySem.Spec PyProof.Rows L2
/-- the list at a as it stands at each turn, each item in a new pair, counted from 1 on -/
def IteS (K : PySem.W.Frag) (a : Addr) : It :=
  ⟨fun i H => ∃ (xs : List V) (x : V), SqL K H a xs ∧ xs[i]? = some x, fun i H v H' => ∃ T x, v = .ref T ∧ H T = none ∧ H' = upd H T (.tup [.int ((i + 1 : Nat) : Int), x]) ∧ ∀ xs, SqL K H a xs → xs[i]? = some x, fun i H => ∃ xs : List V, SqL K H a xs ∧ xs.length ≤ i⟩
theorem enum_endI {prog : Program} {w : World} {A : Around} {E : Value → Shared → Prop} {s : Shared} {e it l : Addr} {i : Nat} {c : Int} {items : Array Value} {old : Value} {Q : Option Value → Shared → Prop} (hh : A.handled = none)
    (he : IsEnum s.heap e it c old) (hit : s.heap.IsListIter it l i) (hl : s.heap.IsList l items) (hx : items[i]? = none)
    (hQ : ∀ h', Heap.ExtBut it s.heap h' → Q none { s with heap := h' }) : wpAny (model prog w) A (pyNext (.ref e)) Q E s := by
  have hT : s.TypeIs (.ref e) "enumerate" := ⟨_, he, rfl⟩
  unfold pyNext
  refine wpAny_bind (wpAny_attempt (wpAny_callSpecial?_slot (name := Str.ofString "__next__") hT PySem.F.slot_enumerate_next
    (wpAny_call_entry PySem.F.slot_enumerate_next hT PySem.F.entry_enumerate_next ?_ (PySem.F.args_enumerate_next_1 _))))
  show wpAny _ _ (field (.ref e) 2 >>= _) _ _ _
  refine wpAny_bind (wpAny_field he rfl (x := .ref it) rfl ?_)
  refine wpAny_bind (wpAny_nextOf_list_end hh hit hl hx fun h' x he' hx' => ?_)
  obtain ⟨o, ho, hc⟩ := hx'
  refine wpAny_bind (wpAny_isInstance (T := "StopIteration") (b := true) ⟨o, ho, hc⟩ isSubtype_stop ?_)
  exact wpAny_pure (hQ _ he')
theorem turn_enumS {P : Program} {w : World} {K : PySem.W.Frag} {elts : List Expr} {kk : Nat} {tpos : Pos} (a e it : Addr) :
    Turn P w K (.Tuple elts kk tpos) (IteS K a) [e, it] e (fun i h => (∃ old, IsEnum h e it ((i + 1 : Nat) : Int) old) ∧ h.IsListIter it a i ∧ e ≠ it) where
  mem := by simp
  obj := fun i h st b hb => by
    obtain ⟨⟨old, he⟩, ⟨o, ho, hc, hd⟩, _⟩ := st
    have e' : b = e ∨ b = it := by simpa using hb
    rcases e' with z | z
    · rw [z]; exact ⟨_, he, fun v q => nomatch q⟩
    · rw [z]; exact ⟨o, ho, fun v q => by rw [hd] at q; cases q⟩
  keep := fun i h h' st k => let ⟨⟨old, he⟩, hi, hne⟩ := st; ⟨⟨old, k e (by simp) _ he⟩, hi.at fun o q => k it (by simp) o q, hne⟩
  item := by
    intro X hP hw hK hc i pins s σ H E I hf st hg
    subst hP hw hK
    obtain ⟨⟨old, he⟩, hit, hne⟩ := st
    obtain ⟨xs, x, hq, hx⟩ := hg
    obtain ⟨its, rv, p, hz⟩ := I.list hq
    obtain ⟨u, hu, ru⟩ := rv.get hx
    have hel : e < s.heap.objs.size := Heap.lt_size he
    have hil : it < s.heap.objs.size := by obtain ⟨_, q, _⟩ := hit; exact Heap.lt_size q
    have hl0 := p.isList
    obtain ⟨ol, hol, hcl, _⟩ := id hl0
    have nae : a ≠ e := fun z => by
      rw [z, he] at hol; cases hol
      exact absurd hcl (by simp)
    have nai : a ≠ it := fun z => by
      obtain ⟨oi, hoi, hci, _⟩ := id hit
      rw [z, hoi] at hol; cases hol
      rw [hci] at hcl
      exact absurd hcl (by simp)
    refine wpAny_pyNext_enum_itemC (Draws.list (A := X.A.in1) (I.ok.hd hc) it a nai its.toArray) he ⟨hit, hl0⟩ (show i < its.toArray.size from ?hsz) hne (by simp [hne, Ne.symm nae]) fun x' h' tk hP ho hst' hT hsz hk => ?_
    · have := (List.getElem?_eq_some_iff.mp hu).1
      simpa using this
    have hit' := hst'.1
    have ex : x' = u := by
      have h1 : its[i]? = some x' := by simpa using hP
      rw [hu] at h1
      exact (Option.some.inj h1).symm
    subst ex
    refine ⟨_, rfl, wpAny_letOwnedTupleGo_enum (s := { s with heap := h', toks := tk + 1 }) ho fun h'' he' sb => ?_⟩
    have hT2 : h''.get? s.heap.objs.size = some { cls := .type "tuple", data := .seq #[.int ((i + 1 : Nat) : Int) tk, x'] } := (sb.2 _ (Nat.ne_of_gt hel)).trans hT
    have new : ObjOk X.prog X.w (upd H s.heap.objs.size (.tup [.int ((i + 1 : Nat) : Int), x])) h'' s.heap.objs.size (.tup [.int ((i + 1 : Nat) : Int), x]) :=
      ⟨by show 2 ≤ sizeLine; decide, [.int ((i + 1 : Nat) : Int) tk, x'], .cons ⟨_, rfl⟩ (.cons ru .nil), ⟨_, hT2, rfl, _, rfl⟩⟩
    have I1 : Inv X pins σ (upd H s.heap.objs.size (.tup [.int ((i + 1 : Nat) : Int), x])) { s with heap := h'', toks := tk + 1 } :=
      I.turnedNew (ch := [e, it]) (fun b ob hb q => (sb.2 b (fun z => hb (by simp [z]))).trans (hk b ob (fun z => hb (by simp [z])) (fun z => hb (by simp [z])) q)) hf (Nat.le_refl _) new
    refine ⟨.ref s.heap.objs.size, _, I1, rfl, ⟨_, x, rfl, I.hok.fresh (Nat.le_refl _), rfl, fun ys hy => by rw [I.list_inj hy hq]; exact hx⟩, ⟨⟨x', ?_⟩, hit'.at fun o q => (sb.2 it (Ne.symm hne)).trans q, hne⟩, fun b hb => ?_⟩
    · have e1 : ((i + 1 + 1 : Nat) : Int) = ((i + 1 : Nat) : Int) + 1 := by omega
      rw [e1]; exact he'
    · have hb' : b < s.heap.objs.size := by
        have e' : b = e ∨ b = it := by simpa using hb
        rcases e' with z | z
        · rw [z]; exact hel
        · rw [z]; exact hil
      rw [upd_ne (Nat.ne_of_lt hb')]
      exact (hf b hb).1
  done := by
    intro X hP hw hK hc i pins s σ H E I hf st hg
    subst hP hw hK
    obtain ⟨⟨old, he⟩, hit, hne⟩ := st
    obtain ⟨xs, hq, hx⟩ := hg
    obtain ⟨its, rv, p, hz⟩ := I.list hq
    obtain ⟨f0, f1, f2, f3, f4, f5⟩ := hf it (by simp)
    have hl := rv.length
    have hl0 := p.isList
    obtain ⟨ol, hol, hcl, _⟩ := id hl0
    have nai : a ≠ it := fun z => by
      obtain ⟨oi, hoi, hci, _⟩ := id hit
      rw [z, hoi] at hol; cases hol
      rw [hci] at hcl
      exact absurd hcl (by simp)
    exact enum_endI (I.ok.hd hc) he hit hl0 (by simp; omega) fun h' eb => ⟨rfl, I.turned (t' := s.toks) (fun b o hb q => eb b o hb q) f0 f1 f3 f4 f5⟩
  self := fun A i s Q E st h => let ⟨⟨_, he⟩, _⟩ := st; wpAny_pyIter_enum he h
theorem callWith_type_kw {M : Model} {A : Around} {E : Value → Shared → Prop} {s : Shared} {env : Env} {pos : Pos} {T : String} {e : Expr} {rest : List Expr} {kws : List Keyword} {Q : Value → Shared → Prop}
    (h : wpAny M A (spliced (backTo pos (starEach (e :: rest) env))) (fun vs s₁ => wpAny M A (evalAll ((backToKw pos (keywordEach kws env)).map (·.2)))
      (fun kvs s₂ => wpAny M A (call (.type T) vs (((backToKw pos (keywordEach kws env)).filterMap (·.1)).zip kvs)) Q E s₂) E s₁) E s)
    (he : backTo pos (starEach (e :: rest) env) = (false, eval e env) :: backTo pos (starEach rest env) := by rfl)
    (hplain : (backTo pos (starEach (e :: rest) env)).any (·.1) = false := by rfl)
    (hall : (backToKw pos (keywordEach kws env)).all (·.1.isSome) = true := by rfl)
    (hkw : (backToKw pos (keywordEach kws env)).any (·.1.isNone) = false := by rfl) :
    wpAny M A (callWith pos (.type T) [] (backTo pos (starEach (e :: rest) env)) (backToKw pos (keywordEach kws env))) Q E s := by
  unfold callWith
  refine wpAny_bind (wpAny_holding (wpAny_mono (Q := fun a s₁ => wpAny M A (call (.type T) a.pos a.kw) Q E s₁) ?_ (fun a s₁ h₁ => wpAny_bind (wpAny_standAt ?_)) fun _ _ x => x))
  · rw [he] at h ⊢
    exact evalArgs_kwB hall h
  · simp only [hplain, hkw, Bool.or_false]
    refine wpAny_bind (wpAny_pure ?_)
    exact wpAny_bind (wpAny_mono h₁ (fun r s₂ hr => wpAny_bind (wpAny_holding (wpAny_point (wpAny_pure hr)))) fun _ _ x => x)
section
variable {X : Cx}
def iEnumS (K : PySem.W.Frag) (ta : TA) : TI := fun σ H R => ta σ H fun vs H1 => ∃ a xs, vs = [.ref a] ∧ SqL K H1 a xs ∧ R (IteS K a) H1
theorem pi_enumS {e : Expr} {ta : TA} {p pos tpos kp cp : Pos} {j : Nat} {elts : List Expr} {kk : Nat} (hg : Gl X "enumerate") (hm : X.mg "enumerate" = none) (ha : PA X [e] ta)
    (he : backTo pos (starEach [e] X.env) = (false, eval e X.env) :: backTo pos (starEach [] X.env) := by rfl) (hpl : (backTo pos (starEach [e] X.env)).any (·.1) = false := by rfl) :
    PI X (.Tuple elts kk tpos) (.Call (.Name "enumerate" p) [e] [⟨some "start", .Constant (.int 1) j cp, kp⟩] pos) (iEnumS X.K ta) := by
  refine ⟨fun pins s σ H R I h => ?_⟩
  have hk : PK X [⟨some "start", .Constant (.int 1) j cp, kp⟩] (tCons (tC (.int 1)) tNil) := pk_cons pe_int pk_nil
  refine wpAny_Call_Name_kw (ld_blt I hg hm boot_enumerate ?_)
  refine callWith_type_kw (thn (ha.run pos pins s σ H _ I h) fun us s1 ⟨vs, H1, I1, r1, q1⟩ => thn (hk.run pos pins s1 σ H1 (fun vs' H' => vs' = [V.int 1] ∧ H' = H1) I1 ⟨rfl, rfl⟩) fun ws s2 ⟨zs, H2, I2, r2, q2⟩ => ?_) he hpl
  obtain ⟨a, xs, ex, hq, q⟩ := q1
  obtain ⟨rfl, rfl⟩ := q2
  subst ex
  cases r2 with
  | cons rz rr2 =>
  cases rr2
  obtain ⟨tz, rfl⟩ := rz
  cases r1 with
  | cons r rr =>
    cases rr
    cases r
    obtain ⟨its, rv, p', hz⟩ := I2.list hq
    refine enum_begins_start (t := tz) (begins_list a its.toArray) p'.isList (by decide) (by decide) fun h' he hit hsz hk => wpAny_pyIter_enum he ?_
    have I3 : Inv X pins σ H2 { s2 with heap := h' } := I2.kept (t' := s2.toks) hk
    refine ⟨s2.heap.objs.size + 1, [s2.heap.objs.size + 1, s2.heap.objs.size], _, _, H2, rfl, I3, turn_enumS a (s2.heap.objs.size + 1) s2.heap.objs.size, ⟨⟨.none, he⟩, ⟨_, hit, rfl, rfl⟩, Nat.succ_ne_self _⟩, fun b hb => ?_, q⟩
    have e' : b = s2.heap.objs.size + 1 ∨ b = s2.heap.objs.size := by simpa using hb
    have hle : s2.heap.objs.size ≤ b := by
      rcases e' with z | z
      · rw [z]; exact Nat.le_add_right _ _
      · rw [z]; exact Nat.le_refl _
    exact I2.fpOk hle (I2.hok.fresh hle)
end
/-! ### list.extend(tuple) -/
theorem meets_extT (l : Addr) (items : Array Value) (n : Nat) (b : Addr) (o : Obj) (items2 : Array Value) (n2 : Nat) (hc : o.cls = .type "tuple") (hd : o.data = .seq items2 n2) (hs0 : ¬(!items.isEmpty && Builtin.List.listTooLong (items.size + items2.size)) = true) (hs1 : items.size ≤ sizeLine) (hs2 : items.size + items2.size ≤ sizeLine + 1) :
    Meets (Builtin.«list.extend» ⟨[.ref l, .ref b], []⟩) (fun _ R s => s.heap.get? l = some { cls := .type "list", dict := none, data := .seq items n, slots := #[] } ∧ s.heap.get? b = some o ∧ R (.ok (.ret Value.none)) { s with heap := s.heap.update l (Obj.mapSeq fun x => x ++ items2) }) :=
  .of_wp fun prog w A R s h => by
    obtain ⟨hl, hb, h⟩ := h
    show wpAny _ _ (Builtin.List.listExtendWith (.ref l) (.ref b) .none) _ _ _
    unfold Builtin.List.listExtendWith
    refine wpAny_bind (wpAny_typeOf ⟨o, hb, hc⟩ ?_)
    have h1 : (Builtin.List.listSameRef (.ref l) (.ref b) || Value.type "tuple" == Value.type "list" || Value.type "tuple" == Value.type "tuple") = true := by simp
    simp only [h1, if_true]
    refine wpAny_bind ?_
    unfold Builtin.List.listItems
    refine wpAny_bind (wpAny_seqItems hb hd (wpAny_pure ?_))
    refine wpAny_bind ?_
    refine wpAny_bind (wpAny_seqItems hl rfl (wpAny_pure ?_))
    rw [if_neg hs0]
    have hz' : (items ++ items2).size ≤ sizeLine + 1 := by rw [Array.size_append]; exact hs2
    refine wpAny_bind ?_
    show wpAny _ A.in1 (updateSeq l (· ++ items2)) _ _ s
    exact wpAny_updateSeq hl rfl (hz := hs1) (_hz' := hz') (wpAny_pure ⟨_, rfl, h⟩)
section
variable {X : Cx}
def rExtendT (K : PySem.W.Frag) : V → List V → Hp → VK → Prop := fun x vs H Q => ∃ l b xs zs, x = .ref l ∧ vs = [.ref b] ∧ H l = some (.lst xs) ∧ SqT K H b zs ∧ xs.length + zs.length ≤ sizeLine ∧ Q .non (upd H l (.lst (xs ++ zs)))
theorem mt_extendT : MtM X "list.extend" (rExtendT X.K) := by
  intro pins s σ H x vs v us Q I rx rv h
  obtain ⟨l, b, xs, zs, rfl, rfl, hH, hB, hz, q⟩ := h
  cases rx
  obtain ⟨u, rfl, ru⟩ := rv.one
  cases ru
  obtain ⟨z, its, n, r, hl, e⟩ := I.lstM hH
  obtain ⟨its2, r2, ⟨o2, e2, hc2, n2, hd2⟩, z2⟩ := I.tuple hB
  have hl2 : its2.length = zs.length := r2.length.symm
  have hsz : its.toArray.size + its2.toArray.size ≤ sizeLine := by rw [List.size_toArray, List.size_toArray]; omega
  have hlong : ¬ (!its.toArray.isEmpty && Builtin.List.listTooLong (its.toArray.size + its2.toArray.size)) = true := by
    rw [notLongL hsz, Bool.and_false]
    exact Bool.false_ne_true
  refine call_meets PySem.F.slot_list_extend ⟨_, e, rfl⟩ PySem.F.entry_list_extend (PySem.F.args_list_extend_2 _ _)
    (meets_extT l its.toArray n b o2 its2.toArray n2 hc2 hd2 hlong (by rw [List.size_toArray]; omega) (by omega)) ⟨e, e2, ?_⟩
  refine ⟨.non, _, I.lset (its' := its ++ its2) hH e (by simp) (r.append r2) ?_, rfl, q⟩
  rw [List.length_append]
  omega
end
/-! ### list(reversed(list)) -/
section
variable {prog : Program} {w : World} {A : Around} {E : Value → Shared → Prop} {s : Shared}
theorem ext_rev {it l S : Addr} {c₀ : Nat} {res : Value} {items : Array Value} {R : Result → Shared → Prop} (hh : A.handled = none) (hit : s.heap.IsRevIter it l ((items.size : Int) - 1)) (hl : s.heap.IsList l items) (hne : l ≠ it) (hn : items.size ≤ sizeLine)
    (hS : s.heap.get? S = some { cls := .type "list", data := .seq #[] c₀ }) (hSi : S ≠ it) (hSl : S ≠ l)
    (hR : ∀ (h' : Heap) (tk : Nat) (acc : Array Value) (c' : Nat), (∀ b o, b ≠ it → b ≠ S → s.heap.get? b = some o → h'.get? b = some o) → h'.get? S = some { cls := .type "list", dict := none, data := .seq acc c', slots := #[] } → ItemsOf (fun i v => items[items.size - 1 - i]? = some v) acc items.size → R (.ok (.ret res)) { s with heap := h', toks := tk }) :
    wpAny (model prog w) A.in1 (Builtin.List.listExtendWith (.ref S) (.ref it) res)
      (fun fin s' => match fin with | .done f => R (.ok f) s' | .again c' => c'.quiet = true ∧ codeAny (model prog w) A c' R s') (fun e s' => R (.error e) s') s := by
  have W := (Walks.listRev (prog := prog) (w := w) (A := A.in1) hh it l hne items).toS
  have hSf : S ∉ [it, l] := by simp only [List.mem_cons, List.not_mem_nil, or_false, not_or]; exact ⟨hSi, hSl⟩
  have hT : s.TypeIs (.ref it) "list_reverseiterator" := hit.typeIs
  have h1 : Builtin.List.listSameRef (.ref S) (.ref it) = false := by simp [Builtin.List.listSameRef, hSi]
  unfold Builtin.List.listExtendWith
  refine wpAny_bind (wpAny_typeOf hT ?_)
  rw [if_neg (by rw [h1]; decide)]
  refine wpAny_bind (wpAny_pyIter_revIter hit ?_)
  refine wpAny_bind (wpAny_holding ?_)
  unfold Builtin.List.listLengthHint
  refine wpAny_bind (wpAny_specialOf hT RT.nolen_lri ?_)
  show wpAny _ A.in1 (specialOf (Value.ref it) (Str.ofString "__length_hint__") >>= _) _ _ _
  refine wpAny_bind (wpAny_specialOf hT RT.hint_lri ?_)
  generalize hid : ("list_reverseiterator.__length_hint__" : String) = id0
  wp_delta
  rw [show splitId id0 = some ("list_reverseiterator", "__length_hint__") from by subst hid; decide +kernel]
  subst hid
  refine wpAny_bind (wpAny_isInstance (b := true) hT (by rw [isSubtype_type]; kernel_rfl) ?_)
  refine wpAny_pure ?_
  rw [if_neg (by decide)]
  have e0 : ((items.size : Nat) : Int) - 1 - ((0 : Nat) : Int) = (items.size : Int) - 1 := by omega
  refine wpAny_pure ⟨plainId_quiet PySem.F.plain_extend_loop _, codeAny_extend_loopS W hn _ hSf _ items.size 0 _ _ _ rfl (Nat.zero_le _) ⟨Nat.zero_le _, by rw [e0]; exact hit, hl⟩ hS (ItemsOf.nil _) fun s' acc' c' hm hS' hacc => ?_⟩
  rw [Moved.eq_with hm]
  refine hR s'.heap s'.toks acc' c' (fun b o hb hbS e => hm.heap b o (fun hmem => ?_) e) hS' hacc
  rcases List.mem_cons.mp hmem with e' | hmem
  · exact hbS e'
  · exact hb (List.mem_singleton.mp hmem)
theorem call_list_rev {it l : Addr} {items : Array Value} {Q : Value → Shared → Prop} (hh : A.handled = none) (hit : s.heap.IsRevIter it l ((items.size : Int) - 1)) (hl : s.heap.IsList l items) (hne : l ≠ it) (hn : items.size ≤ sizeLine)
    (hQ : ∀ (h' : Heap) (tk : Nat) (acc : Array Value) (c' : Nat), (∀ b o, b ≠ it → s.heap.get? b = some o → h'.get? b = some o) → h'.get? s.heap.objs.size = some { cls := .type "list", dict := none, data := .seq acc c', slots := #[] } → ItemsOf (fun i v => items[items.size - 1 - i]? = some v) acc items.size →
      Q (.ref s.heap.objs.size) { s with heap := h', toks := tk }) :
    wpAny (model prog w) A (call (.type "list") [.ref it]) Q E s := by
  obtain ⟨oi, hoi, _⟩ := id hit
  obtain ⟨ol, hol, _⟩ := id hl
  have hSi : s.heap.objs.size ≠ it := Nat.ne_of_gt (Heap.lt_size hoi)
  have hSl : s.heap.objs.size ≠ l := Nat.ne_of_gt (Heap.lt_size hol)
  refine callType_codes (Q₁ := fun obj s₁ => obj = .ref s.heap.objs.size ∧ s₁ = { s with heap := s.heap.push { cls := .type "list", data := .seq #[] } }) PySem.F.called_list (PySem.F.typeCall_list_1 _) PySem.F.entry_list_init
    (code_list_new _ ⟨rfl, rfl⟩) fun obj s₁ h₁ => ?_
  obtain ⟨rfl, rfl⟩ := h₁
  have hS : (s.heap.push { cls := .type "list", data := .seq #[] }).get? s.heap.objs.size = some { cls := .type "list", data := .seq #[] } := Heap.get?_push_size _ rfl
  refine ⟨⟨_, hS, rfl⟩, PySem.F.args_list_init_2 _ _, ?_⟩
  show wpAny _ _ (do let old ← Builtin.List.listItems (.ref s.heap.objs.size); Builtin.List.listUpdate (.ref s.heap.objs.size) (fun _ => #[]); letGo old.toList.reverse; Builtin.List.listExtendWith (.ref s.heap.objs.size) (.ref it) .none) _ _ _
  refine wpAny_bind ?_
  unfold Builtin.List.listItems
  refine wpAny_bind (wpAny_seqItems hS rfl (wpAny_pure ?_))
  show wpAny _ _ (updateSeq s.heap.objs.size (fun _ => #[]) >>= fun _ => letGo (#[] : Array Value).toList.reverse >>= fun _ => Builtin.List.listExtendWith (.ref s.heap.objs.size) (.ref it) .none) _ _ _
  refine wpAny_bind (wpAny_updateSeq hS rfl ?_)
  have hS₂ := Heap.get?_update_self (Obj.mapSeq (fun _ => (#[] : Array Value))) hS rfl
  have oth : ∀ b o, b ≠ s.heap.objs.size → s.heap.get? b = some o → ((s.heap.push { cls := .type "list", data := .seq #[] }).update s.heap.objs.size (Obj.mapSeq (fun _ => (#[] : Array Value)))).get? b = some o :=
    fun b o hb e => (Heap.get?_update_other _ _ (Ne.symm hb)).trans (Heap.get?_push_of_some _ e)
  refine wpAny_bind (wpAny_letGo ?_)
  refine ext_rev (A := A.in1) (items := items) (l := l) hh (hit.at fun o e => oth _ o (Ne.symm hSi) e) (hl.at fun o e => oth _ o (Ne.symm hSl) e) hne hn hS₂ hSi hSl fun h' tk acc c' hk hS' hacc => ⟨rfl, hQ h' tk acc c' (fun b o hb e => ?_) hS' hacc⟩
  have hbS : b ≠ s.heap.objs.size := Nat.ne_of_lt (Heap.lt_size e)
  exact hk b o hb hbS (oth b o hbS e)
end
section
variable {X : Cx}
def tListRev (K : PySem.W.Frag) (te : TE) : TE := fun σ H Q => te σ H fun v H1 => ∃ (a : Addr) (xs : List V), v = .ref a ∧ SqL K H1 a xs ∧ ∀ q, H1 q = none → Q (.ref q) (upd H1 q (.lst xs.reverse))
theorem pe_listRev {e : Expr} {te : TE} {p p2 pos pos2 : Pos} (hc : X.calm = true) (hg : Gl X "list") (hm : X.mg "list" = none) (hg2 : Gl X "reversed") (hm2 : X.mg "reversed" = none) (he : PE X e te)
    (hs : starEach [e] X.env = (false, eval e X.env) :: starEach [] X.env := by rfl)
    (hs2 : starEach [.Call (.Name "reversed" p2) [e] [] pos2] X.env = (false, eval (.Call (.Name "reversed" p2) [e] [] pos2) X.env) :: starEach [] X.env := by rfl) :
    PE X (.Call (.Name "list" p) [.Call (.Name "reversed" p2) [e] [] pos2] [] pos) (tListRev X.K te) := by
  refine ⟨fun pins s σ H Q I h => ?_⟩
  refine Call_ (ld_blt I hg hm boot_list (PyProof.Rows.callWith_type1 (args_cons (Call_ (ld_blt I hg2 hm2 PyProof.Rows.boot_reversed (PyProof.Rows.callWith_type1 (args_cons (thn (he.run pins s σ H _ I h) fun u s1 ⟨v, H1, I1, r1, q1⟩ => args_nil ?_) hs) hs rfl))) hs2) hs2 rfl))
  obtain ⟨a, xs, ev, hq, q⟩ := q1
  subst ev
  obtain rfl : u = Value.ref a := r1
  obtain ⟨its, rv, p', hz⟩ := I1.list hq
  refine call_reversed_list p'.isList (args_nil ?_)
  have k0 : ∀ b o, s1.heap.get? b = some o → (s1.heap.push (revObj a ((its.toArray.size : Int) - 1))).get? b = some o := fun b o e => Heap.get?_push_of_some _ e
  have I2 : Inv X pins σ H1 { s1 with heap := s1.heap.push (revObj a ((its.toArray.size : Int) - 1)) } := I1.kept (t' := s1.toks) k0
  obtain ⟨f0, f1, f2, f3, f4, f5⟩ := I1.fpOk (H' := H1) (b := s1.heap.objs.size) (Nat.le_refl _) (I1.hok.fresh (Nat.le_refl _))
  have hl := p'.isList
  obtain ⟨ol, hol, _⟩ := id hl
  have hne : a ≠ s1.heap.objs.size := Nat.ne_of_lt (Heap.lt_size hol)
  have hn : its.toArray.size ≤ sizeLine := by rw [List.size_toArray, ← rv.length]; exact hz
  refine call_list_rev (s := { s1 with heap := s1.heap.push (revObj a ((its.toArray.size : Int) - 1)) }) (I1.ok.hd hc) ⟨_, Heap.get?_push_size _ rfl, rfl, rfl⟩ (hl.push _) hne hn fun h' tk acc c' hk hS hi => ?_
  have I3 := I2.turnedNew (t' := tk) (h' := h') (ch := [s1.heap.objs.size]) (T := (s1.heap.push (revObj a ((its.toArray.size : Int) - 1))).objs.size) (ob := .lst xs.reverse) (fun b o hb e => hk b o (by simpa using hb) e)
    (fun b hb => by rw [List.mem_singleton.mp hb]; exact I1.fpOk (Nat.le_refl _) (I1.hok.fresh (Nat.le_refl _))) (Nat.le_refl _)
    (show ObjOk X.prog X.w _ h' _ (.lst xs.reverse) from ⟨by rw [List.length_reverse]; exact hz, acc.toList, c', RT.vals_rev rv hi, by rw [Array.toArray_toList]; exact hS⟩)
  exact ⟨.ref (s1.heap.push (revObj a ((its.toArray.size : Int) - 1))).objs.size, _, I3, rfl, q _ (I2.hok.fresh (Nat.le_refl _))⟩
end
end Gh
set_option Elab.async false
set_option linter.all false
set_option maxRecDepth 100000
set_option maxHeartbeats 4000000
namespace Gh
open PySem PySem.Spec PyProof.Rows L2
local macro_rules | `(tactic| walk_at "rd") => `(tactic| simp only [tRet, tSeq, tAsg, gName, tDrop, tIfS, tTest, tB, tAnd, tOr, tNot, tAndV, tOrV, tNotV, tCmp, t2I, tAdd, tSub, tMul, tIsN, tNotN, tC, tVar, tCons, tNil, tCall, tOp, tUn, tCB, tNext, tRetN, tIf, tFld, wipe, tYes, HO.ins.injEq, and_assoc, L2.start, List.map_cons, List.map_nil, List.length_cons, List.length_nil, List.cons_append, List.nil_append, List.append_nil, List.set_cons_zero, List.set_cons_succ, List.replicate, Nat.reduceAdd, Nat.reduceSub, Nat.zero_add, Nat.sub_self, List.getElem?_cons_zero, List.getElem?_cons_succ, Option.some.injEq, V.int.injEq, V.bl.injEq, V.ref.injEq, V.str.injEq, List.cons.injEq, reduceCtorEq, and_true, true_and, and_false, false_and, exists_eq_left, exists_eq_left', exists_eq_right, exists_eq_right', exists_and_left, exists_const, exists_false, exists_eq, if_true, if_false, Bool.false_eq_true, Bool.true_eq_false, cxK, andV, orV, andT, orT, deq, dle, dlt, Bool.not_true, Bool.not_false, decide_true, decide_false, ite_true, ite_false])
local macro_rules | `(tactic| k_call_by "rd" ($a, $bs,*)) => do { let cs := bs.getElems; `(tactic| simp only [$a:term, $[$cs:term],*, tRet, tSeq, tAsg, gName, tDrop, tIfS, tTest, tB, tAnd, tOr, tNot, tAndV, tOrV, tNotV, tCmp, t2I, tAdd, tSub, tMul, tIsN, tNotN, tC, tVar, tCons, tNil, tCall, tOp, tUn, tCB, tNext, tRetN, tIf, tFld, wipe, tYes, HO.ins.injEq, and_assoc, L2.start, List.map_cons, List.map_nil, List.length_cons, List.length_nil, List.cons_append, List.nil_append, List.append_nil, List.set_cons_zero, List.set_cons_succ, List.replicate, Nat.reduceAdd, Nat.reduceSub, Nat.zero_add, Nat.sub_self, List.getElem?_cons_zero, List.getElem?_cons_succ, Option.some.injEq, V.int.injEq, V.bl.injEq, V.ref.injEq, V.str.injEq, List.cons.injEq, reduceCtorEq, and_true, true_and, and_false, false_and, exists_eq_left, exists_eq_left', exists_eq_right, exists_eq_right', exists_and_left, exists_const, exists_false, exists_eq, if_true, if_false, Bool.false_eq_true, Bool.true_eq_false, cxK, andV, orV, andT, orT, deq, dle, dlt, Bool.not_true, Bool.not_false, decide_true, decide_false, ite_true, ite_false]) }
section
variable {P : Program} {w : World} {K : PySem.W.Frag} {mg : Str → Option Value} {base : Heap}
/-! ### a new house -/
def firsts (i : Nat) (f : Nat → V) : List (Key × V) := (List.range i).map fun j => (.inl ((j + 1 : Nat) : Int), f (j + 1))
theorem firsts_put {f : Nat → V} {v : V} : ∀ {i : Nat}, i < 4 → f (i + 1) = v → putK (firsts i f) (.inl ((i + 1 : Nat) : Int)) v = firsts (i + 1) f
  | 0, _, e => by subst e; rfl
  | 1, _, e => by subst e; rfl
  | 2, _, e => by subst e; rfl
  | 3, _, e => by subst e; rfl
  | n + 4, h, _ => absurd h (by omega)
theorem firsts_congr {f g : Nat → V} {i : Nat} (h : ∀ r, 1 ≤ r → r ≤ i → f r = g r) : firsts i f = firsts i g := by
  unfold firsts
  apply List.map_congr_left
  intro j hj
  have := List.mem_range.mp hj
  rw [h (j + 1) (by omega) (by omega)]
theorem firsts_len {f : Nat → V} {i : Nat} (h : i ≤ 4) : (firsts i f).length < sizeLine := by
  unfold firsts
  rw [List.length_map, List.length_range]
  exact sz1000 (by omega)
theorem firsts_set {H : Hp} {a : Addr} {f g : Nat → V} {v : V} {i : Nat} {x : Int} (hx : x = ((i + 1 : Nat) : Int)) (hi : i < 4) (e : H a = some (.dK (firsts i f))) (hv : g (i + 1) = v) (hg : ∀ r, 1 ≤ r → r ≤ i → f r = g r) : DPut H a (.int x) v (upd H a (.dK (firsts (i + 1) g))) := by
  have := DPut.k (k := Sum.inl x) (v := v) e (firsts_len (by omega))
  rw [firsts_congr hg, hx, firsts_put hi hv] at this
  rw [hx]
  exact this
theorem quorum_empty (r : Nat) : Wm08.quorum Wm08.empty r = 0 := rfl
def spHouseInit (K : PySem.W.Frag) : Sp := fun vs H Q _ => ∃ (h dx : Addr), vs = [.ref h] ∧ H h = some (.ins (He.ga K "House") dx []) ∧
  ∀ H' d, d.h = h → d.n = [] → HsAt K H' d Wm08.empty → Kept [h] H H' → (∀ b ∈ d.M0, b = h ∨ H b = none) → Q .non H'
theorem il_House (T : TX K mg) : Il P w K mg base CX0 "House" (He.ga K "House") 1 ["self"] (spHouseInit K) := by
  refine il_of (d := d_House_init) T.g_House T.k_House T.u_House_init sc_House_init b_House_init (fun vs H Q E h => ?_) (fun cdv A outer s H vs Q E hr h => ⟨_, PSs.nox (pss_cons (ps_fld (pv 0) (pe_lst pa_nil) rfl)
    (pss_cons (ps_fld (pv 0) pe_dnewK rfl)
    (pss_cons (ps_fld (pv 0) pe_dnewK rfl)
    (pss_cons (ps_fld (pv 0) pe_dnewK rfl)
    (pss_cons (ps_fld (pv 0) pe_dnewK rfl)
    (pss_one (ps_for PassesOwn.never rfl (pi_range2 rfl T.f_range (pa_cons pe_int (pa_cons (pe_add (pe_gi T.i_MOST_DOOR) pe_int) pa_nil))) (pg_name (i := 1) sc_House_init.nd rfl (Or.inl rfl)) (pss_cons (ps_dput (hu_of hr) (pe_fld (pv 0) rfl) (pv 1) pe_non rfl)
    (pss_cons (ps_dput (hu_of hr) (pe_fld (pv 0) rfl) (pv 1) pe_int rfl)
    (pss_one (ps_dput (hu_of hr) (pe_fld (pv 0) rfl) (pv 1) pe_dnewK rfl))))))))))), ?_⟩)
  · obtain ⟨h, dx, rfl, _⟩ := h
    rfl
  · obtain ⟨h, dx, rfl, hh, hQ⟩ := h
    refine ⟨by decide, fun g hg => ⟨_, rfl, h, _, dx, [], rfl, ?_, T.c_House, T.n_House_grants, (by show 0 < 1000; decide), ?_⟩⟩
    · rw [upd_ne (ne_of_none hh hg)]; exact hh
    intro t ht
    have ng : h ≠ g := ne_of_none hh hg
    have nth : t ≠ h := fun z => by rw [z, upd_same] at ht; cases ht
    rw [upd_ne nth] at ht
    have ntg : t ≠ g := fun z => by rw [z, upd_same] at ht; cases ht
    rw [upd_ne ntg] at ht
    refine ⟨_, rfl, h, _, dx, _, rfl, Eq.trans (upd_ne (Ne.symm nth)) upd_same, T.c_House, T.n_House_tickets, (by show 1 < 1000; decide), ?_⟩
    intro p hp
    have nph : p ≠ h := fun z => by rw [z, upd_same] at hp; cases hp
    rw [upd_ne nph] at hp
    have npt : p ≠ t := fun z => by rw [z, upd_same] at hp; cases hp
    rw [upd_ne npt, upd_ne nph] at hp
    have npg : p ≠ g := fun z => by rw [z, upd_same] at hp; cases hp
    rw [upd_ne npg] at hp
    refine ⟨_, rfl, h, _, dx, _, rfl, Eq.trans (upd_ne (Ne.symm nph)) upd_same, T.c_House, T.n_House_policies, (by show 2 < 1000; decide), ?_⟩
    intro q hq
    have nqh : q ≠ h := fun z => by rw [z, upd_same] at hq; cases hq
    rw [upd_ne nqh] at hq
    have nqp : q ≠ p := fun z => by rw [z, upd_same] at hq; cases hq
    rw [upd_ne nqp, upd_ne nqh] at hq
    have nqt : q ≠ t := fun z => by rw [z, upd_same] at hq; cases hq
    rw [upd_ne nqt, upd_ne nqh] at hq
    have nqg : q ≠ g := fun z => by rw [z, upd_same] at hq; cases hq
    rw [upd_ne nqg] at hq
    refine ⟨_, rfl, h, _, dx, _, rfl, Eq.trans (upd_ne (Ne.symm nqh)) upd_same, T.c_House, T.n_House_quorums, (by show 3 < 1000; decide), ?_⟩
    intro a ha
    have nah : a ≠ h := fun z => by rw [z, upd_same] at ha; cases ha
    rw [upd_ne nah] at ha
    have naq : a ≠ q := fun z => by rw [z, upd_same] at ha; cases ha
    rw [upd_ne naq, upd_ne nah] at ha
    have nap : a ≠ p := fun z => by rw [z, upd_same] at ha; cases ha
    rw [upd_ne nap, upd_ne nah] at ha
    have nat : a ≠ t := fun z => by rw [z, upd_same] at ha; cases ha
    rw [upd_ne nat, upd_ne nah] at ha
    have nag : a ≠ g := fun z => by rw [z, upd_same] at ha; cases ha
    rw [upd_ne nag] at ha
    refine ⟨_, rfl, h, _, dx, _, rfl, Eq.trans (upd_ne (Ne.symm nah)) upd_same, T.c_House, T.n_House_allowed, (by show 4 < 1000; decide), ?_⟩
    generalize hH5 : upd _ h (HO.ins _ dx _) = H5
    have e_h : H5 h = some (.ins (He.ga K "House") dx (hF (.ref g) (.ref t) (.ref p) (.ref q) (.ref a))) := by rw [← hH5]; exact Eq.trans upd_same rfl
    have e_a : H5 a = some (.dK []) := by rw [← hH5, upd_ne nah]; exact upd_same
    have e_q : H5 q = some (.dK []) := by rw [← hH5, upd_ne nqh, upd_ne (Ne.symm naq), upd_ne nqh]; exact upd_same
    have e_p : H5 p = some (.dK []) := by rw [← hH5, upd_ne nph, upd_ne (Ne.symm nap), upd_ne nph, upd_ne (Ne.symm nqp), upd_ne nph]; exact upd_same
    have e_t : H5 t = some (.dK []) := by rw [← hH5, upd_ne nth, upd_ne (Ne.symm nat), upd_ne nth, upd_ne (Ne.symm nqt), upd_ne nth, upd_ne (Ne.symm npt), upd_ne nth]; exact upd_same
    have e_g : H5 g = some (.lst []) := by rw [← hH5, upd_ne (Ne.symm ng), upd_ne (Ne.symm nag), upd_ne (Ne.symm ng), upd_ne (Ne.symm nqg), upd_ne (Ne.symm ng), upd_ne (Ne.symm npg), upd_ne (Ne.symm ng), upd_ne (Ne.symm ntg), upd_ne (Ne.symm ng)]; exact upd_same
    have e_o : Kept [h] H H5 := fun b o e hb => by
      have hb : b ≠ h := by simpa using hb
      rw [← hH5, upd_ne hb, upd_ne (ne_of_none e ha), upd_ne hb, upd_ne (ne_of_none e hq), upd_ne hb, upd_ne (ne_of_none e hp), upd_ne hb, upd_ne (ne_of_none e ht), upd_ne hb, upd_ne (ne_of_none e hg)]
      exact e
    obtain ⟨Pv, hPv⟩ : ∃ Pv : Nat → L2.St → Hp → Prop, ∀ i σ H', Pv i σ H' ↔ ∃ (v : Option V) (f : Nat → Addr), σ = [some (.ref h), v] ∧ Kept [p, q, a] H5 H' ∧ H' p = some (.dK (firsts i fun _ => .non)) ∧ H' q = some (.dK (firsts i fun _ => .int 0)) ∧ H' a = some (.dK (firsts i fun r => .ref (f r))) ∧
      (∀ r, 1 ≤ r → r ≤ i → H' (f r) = some (.dK []) ∧ H5 (f r) = none) ∧ ∀ r r', 1 ≤ r → r < r' → r' ≤ i → f r ≠ f r' := ⟨_, fun _ _ _ => Iff.rfl⟩
    refine ⟨_, _, rfl, rfl, 1, 5, rfl, ⟨by decide, by decide, by decide, by decide⟩, for_range (lo := 1) (n := 4) Pv ((hPv _ _ _).mpr ⟨none, fun _ => 0, rfl, fun b o e _ => e, e_p, e_q, e_a, fun r h1 h2 => by omega, fun r r' h1 h2 h3 => by omega⟩) ?_ ?_⟩
    · intro i σ H' hi z
      obtain ⟨v, f, rfl, kp, hp', hq', ha', hf, hd⟩ := (hPv _ _ _).mp z
      have ei : ((1 : Int) + (i : Nat)) = ((i + 1 : Nat) : Int) := by omega
      have mem3 : ∀ b, b ≠ p → b ≠ q → b ≠ a → b ∉ [p, q, a] := fun b h1 h2 h3 => by simp [h1, h2, h3]
      have hh' := kp _ _ e_h (mem3 _ (Ne.symm nph) (Ne.symm nqh) (Ne.symm nah))
      refine ⟨_, rfl, h, _, dx, _, _, rfl, hh', T.c_House, T.n_House_policies, hF_policies _ _ _ _ _, _, rfl, p, _, rfl, firsts_set (g := fun _ => .non) ei hi hp' rfl (fun _ _ _ => rfl), ?_⟩
      refine ⟨_, rfl, h, _, dx, _, _, rfl, Eq.trans (upd_ne (Ne.symm nph)) hh', T.c_House, T.n_House_quorums, hF_quorums _ _ _ _ _, _, rfl, q, _, rfl, firsts_set (g := fun _ => .int 0) ei hi (Eq.trans (upd_ne nqp) hq') rfl (fun _ _ _ => rfl), ?_⟩
      intro n hn
      have nnq : n ≠ q := fun z => by rw [z, upd_same] at hn; cases hn
      rw [upd_ne nnq] at hn
      have nnp : n ≠ p := fun z => by rw [z, upd_same] at hn; cases hn
      rw [upd_ne nnp] at hn
      have nnh : n ≠ h := fun z => by rw [z, hh'] at hn; cases hn
      have nna : n ≠ a := fun z => by rw [z, ha'] at hn; cases hn
      have ha2 : upd (upd (upd H' p (.dK (firsts (i + 1) fun _ => .non))) q (.dK (firsts (i + 1) fun _ => .int 0))) n (.dK []) a = some (.dK (firsts i fun r => .ref (f r))) := by
        rw [upd_ne (Ne.symm nna), upd_ne naq, upd_ne nap]; exact ha'
      have hh3 : upd (upd (upd H' p (.dK (firsts (i + 1) fun _ => .non))) q (.dK (firsts (i + 1) fun _ => .int 0))) n (.dK []) h = some (.ins (He.ga K "House") dx (hF (.ref g) (.ref t) (.ref p) (.ref q) (.ref a))) := by
        rw [upd_ne (Ne.symm nnh), upd_ne (Ne.symm nqh), upd_ne (Ne.symm nph)]; exact hh'
      refine ⟨_, rfl, h, _, dx, _, _, rfl, hh3, T.c_House, T.n_House_allowed, hF_allowed _ _ _ _ _, _, rfl, a, _, rfl, firsts_set (g := fun r => .ref (if r = i + 1 then n else f r)) ei hi ha2 (by rw [if_pos rfl]) (fun r h1 h2 => by rw [if_neg (by omega)]), ?_⟩
      have old : ∀ b o, H' b = some o → b ≠ p → b ≠ q → b ≠ a → upd (upd (upd (upd H' p (.dK (firsts (i + 1) fun _ => .non))) q (.dK (firsts (i + 1) fun _ => .int 0))) n (.dK [])) a (.dK (firsts (i + 1) fun r => .ref (if r = i + 1 then n else f r))) b = some o := fun b o e h1 h2 h3 => by
        rw [upd_ne h3, upd_ne (ne_of_none e hn), upd_ne h2, upd_ne h1]; exact e
      refine (hPv _ _ _).mpr ⟨_, fun r => if r = i + 1 then n else f r, rfl, fun b o e hb => ?_, ?_, ?_, upd_same, fun r h1 h2 => ?_, fun r r' h1 h2 h3 => ?_⟩
      · have hb' : b ≠ p ∧ b ≠ q ∧ b ≠ a := by simpa [not_or] using hb
        exact old b o (kp b o e hb) hb'.1 hb'.2.1 hb'.2.2
      · rw [upd_ne (Ne.symm nap), upd_ne (Ne.symm nnp), upd_ne (Ne.symm nqp)]; exact upd_same
      · rw [upd_ne (Ne.symm naq), upd_ne (Ne.symm nnq)]; exact upd_same
      · by_cases z : r = i + 1
        · dsimp only
          rw [if_pos z]
          refine ⟨by rw [upd_ne nna]; exact upd_same, ?_⟩
          cases e5 : H5 n with
          | none => rfl
          | some o => rw [kp n o e5 (mem3 n nnp nnq nna)] at hn; cases hn
        · dsimp only
          rw [if_neg z]
          obtain ⟨f1, f2⟩ := hf r h1 (by omega)
          exact ⟨old _ _ f1 (fun z => by rw [z, e_p] at f2; cases f2) (fun z => by rw [z, e_q] at f2; cases f2) (fun z => by rw [z, e_a] at f2; cases f2), f2⟩
      · dsimp only
        have hr : r ≠ i + 1 := by omega
        rw [if_neg hr]
        obtain ⟨f1, f2⟩ := hf r h1 (by omega)
        by_cases z : r' = i + 1
        · rw [if_pos z]
          exact ne_of_none f1 hn
        · rw [if_neg z]
          exact hd r r' h1 h2 (by omega)
    · intro σ H' z
      obtain ⟨v, f, rfl, kp, hp', hq', ha', hf, hd⟩ := (hPv _ _ _).mp z
      have mem3 : ∀ b, b ≠ p → b ≠ q → b ≠ a → b ∉ [p, q, a] := fun b h1 h2 h3 => by simp [h1, h2, h3]
      have nf : ∀ r x o, 1 ≤ r → r ≤ 4 → H5 x = some o → x ≠ f r := fun r x o h1 h2 e z => by rw [z, (hf r h1 h2).2] at e; cases e
      have n12 := hd 1 2 (by decide) (by decide) (by decide)
      have n13 := hd 1 3 (by decide) (by decide) (by decide)
      have n14 := hd 1 4 (by decide) (by decide) (by decide)
      have n23 := hd 2 3 (by decide) (by decide) (by decide)
      have n24 := hd 2 4 (by decide) (by decide) (by decide)
      have n34 := hd 3 4 (by decide) (by decide) (by decide)
      refine hQ H' ⟨h, dx, g, t, p, q, a, f, []⟩ rfl rfl ⟨?_, (fun _ hb => nomatch hb), kp _ _ e_h (mem3 _ (Ne.symm nph) (Ne.symm nqh) (Ne.symm nah)), ⟨[], kp _ _ e_g (mem3 _ (Ne.symm npg) (Ne.symm nqg) (Ne.symm nag)), .nil⟩, ⟨[], kp _ _ e_t (mem3 _ (Ne.symm npt) (Ne.symm nqt) (Ne.symm nat)), .nil⟩, ⟨fun _ => .non, hp', fun _ _ => rfl⟩, hq', ha', fun r hr => ?_⟩ (fun b o e hb => ?_) (fun b hb => ?_)
      · have nf1 := fun x o => nf 1 x o (by decide) (by decide)
        have nf2 := fun x o => nf 2 x o (by decide) (by decide)
        have nf3 := fun x o => nf 3 x o (by decide) (by decide)
        have nf4 := fun x o => nf 4 x o (by decide) (by decide)
        show [h, g, t, p, q, a, f 1, f 2, f 3, f 4].Nodup
        simp only [List.nodup_cons, List.mem_cons, List.not_mem_nil, or_false, not_or, List.nodup_nil, and_true, not_false_eq_true]
        exact ⟨⟨ng, Ne.symm nth, Ne.symm nph, Ne.symm nqh, Ne.symm nah, nf1 _ _ e_h, nf2 _ _ e_h, nf3 _ _ e_h, nf4 _ _ e_h⟩, ⟨Ne.symm ntg, Ne.symm npg, Ne.symm nqg, Ne.symm nag, nf1 _ _ e_g, nf2 _ _ e_g, nf3 _ _ e_g, nf4 _ _ e_g⟩,
          ⟨Ne.symm npt, Ne.symm nqt, Ne.symm nat, nf1 _ _ e_t, nf2 _ _ e_t, nf3 _ _ e_t, nf4 _ _ e_t⟩, ⟨Ne.symm nqp, Ne.symm nap, nf1 _ _ e_p, nf2 _ _ e_p, nf3 _ _ e_p, nf4 _ _ e_p⟩, ⟨Ne.symm naq, nf1 _ _ e_q, nf2 _ _ e_q, nf3 _ _ e_q, nf4 _ _ e_q⟩,
          ⟨nf1 _ _ e_a, nf2 _ _ e_a, nf3 _ _ e_a, nf4 _ _ e_a⟩, ⟨n12, n13, n14⟩, ⟨n23, n24⟩, n34⟩
      · rcases door4 hr with e | e | e | e <;> subst e
        · exact (hf 1 (by decide) (by decide)).1
        · exact (hf 2 (by decide) (by decide)).1
        · exact (hf 3 (by decide) (by decide)).1
        · exact (hf 4 (by decide) (by decide)).1
      · refine kp b o (e_o b o e hb) (mem3 b (ne_of_none e hp) (ne_of_none e hq) (ne_of_none e ha))
      · have no5 : ∀ r, 1 ≤ r → r ≤ 4 → f r = h ∨ H (f r) = none := fun r h1 h2 => by
          right
          cases e : H (f r) with
          | none => rfl
          | some o =>
            have := (hf r h1 h2).2
            by_cases z : f r = h
            · rw [z, e_h] at this; cases this
            · rw [e_o _ _ e (by simpa using z)] at this; cases this
        unfold Ad.M0 at hb
        simp only [List.mem_cons, List.not_mem_nil, or_false] at hb
        rcases hb with e | e | e | e | e | e | e | e | e | e <;> subst e
        · exact .inl rfl
        · exact .inr hg
        · exact .inr ht
        · exact .inr hp
        · exact .inr hq
        · exact .inr ha
        · exact no5 1 (by decide) (by decide)
        · exact no5 2 (by decide) (by decide)
        · exact no5 3 (by decide) (by decide)
        · exact no5 4 (by decide) (by decide)
end
end Gh
set_option Elab.async false
set_option linter.all false
set_option maxRecDepth 100000
set_option maxHeartbeats 4000000
namespace Gh
open PySem PySem.Spec PyProof.Rows L2
local macro_rules | `(tactic| walk_at "rd") => `(tactic| simp only [tRet, tSeq, tAsg, gName, tDrop, tIfS, tTest, tB, tAnd, tOr, tNot, tAndV, tOrV, tNotV, tCmp, t2I, tAdd, tSub, tMul, tIsN, tNotN, tC, tVar, tCons, tNil, tCall, tOp, tUn, tCB, tNext, tRetN, tIf, tFld, wipe, tYes, HO.ins.injEq, and_assoc, L2.start, List.map_cons, List.map_nil, List.length_cons, List.length_nil, List.cons_append, List.nil_append, List.append_nil, List.set_cons_zero, List.set_cons_succ, List.replicate, Nat.reduceAdd, Nat.reduceSub, Nat.zero_add, Nat.sub_self, List.getElem?_cons_zero, List.getElem?_cons_succ, Option.some.injEq, V.int.injEq, V.bl.injEq, V.ref.injEq, V.str.injEq, List.cons.injEq, reduceCtorEq, and_true, true_and, and_false, false_and, exists_eq_left, exists_eq_left', exists_eq_right, exists_eq_right', exists_and_left, exists_const, exists_false, exists_eq, if_true, if_false, Bool.false_eq_true, Bool.true_eq_false, cxK, andV, orV, andT, orT, deq, dle, dlt, Bool.not_true, Bool.not_false, decide_true, decide_false, ite_true, ite_false])
local macro_rules | `(tactic| k_call_by "rd" ($a, $bs,*)) => do { let cs := bs.getElems; `(tactic| simp only [$a:term, $[$cs:term],*, tRet, tSeq, tAsg, gName, tDrop, tIfS, tTest, tB, tAnd, tOr, tNot, tAndV, tOrV, tNotV, tCmp, t2I, tAdd, tSub, tMul, tIsN, tNotN, tC, tVar, tCons, tNil, tCall, tOp, tUn, tCB, tNext, tRetN, tIf, tFld, wipe, tYes, HO.ins.injEq, and_assoc, L2.start, List.map_cons, List.map_nil, List.length_cons, List.length_nil, List.cons_append, List.nil_append, List.append_nil, List.set_cons_zero, List.set_cons_succ, List.replicate, Nat.reduceAdd, Nat.reduceSub, Nat.zero_add, Nat.sub_self, List.getElem?_cons_zero, List.getElem?_cons_succ, Option.some.injEq, V.int.injEq, V.bl.injEq, V.ref.injEq, V.str.injEq, List.cons.injEq, reduceCtorEq, and_true, true_and, and_false, false_and, exists_eq_left, exists_eq_left', exists_eq_right, exists_eq_right', exists_and_left, exists_const, exists_false, exists_eq, if_true, if_false, Bool.false_eq_true, Bool.true_eq_false, cxK, andV, orV, andT, orT, deq, dle, dlt, Bool.not_true, Bool.not_false, decide_true, decide_false, ite_true, ite_false]) }
section
variable {P : Program} {w : World} {K : PySem.W.Frag} {mg : Str → Option Value} {base : Heap}
/-! ### a call in the heap -/
def rowV (H : Hp) (xs : List V) : Option (List Nat) → Prop
  | none => xs = []
  | some l => ∃ b, xs = [.ref b] ∧ H b = some (.lst (nats l))
def CallAt (H : Hp) (v : V) (c : List Nat × Option (List Nat)) : Prop := ∃ a xs, v = .ref a ∧ H a = some (.lst (nats c.1 ++ xs)) ∧ rowV H xs c.2
theorem CallAt.mono {H H' : Hp} {v : V} {c : List Nat × Option (List Nat)} (s : Same H H') (h : CallAt H v c) : CallAt H' v c := by
  obtain ⟨a, xs, e, h1, h2⟩ := h
  refine ⟨a, xs, e, s _ _ h1, ?_⟩
  obtain ⟨ns, r⟩ := c
  cases r with
  | none => exact h2
  | some l =>
    obtain ⟨b, e2, h3⟩ := h2
    exact ⟨b, e2, s _ _ h3⟩
def evC : Wm08.Event → List Nat × Option (List Nat)
  | .grant a b r p => ([0, a, b, r, p], none)
  | .revoke a b r => ([1, a, b, r], none)
  | .over a b r => ([2, a, b, r], none)
  | .leave u => ([3, u], none)
  | .policy r l => ([4, r], some l)
  | .quorum r k => ([5, r, k], none)
  | .ticket a b r l => ([6, a, b, r], some l)
  | .narrow a n b l => ([7, a, n, b], some l)
  | .approve u r => ([8, u, r], none)
  | .open_ u r n q => ([9, u, r, n], some q)
def evFits : Wm08.Event → Prop
  | .policy _ l => l.length ≤ 220 ∧ ∀ n ∈ l, n < 2 ^ 60
  | .ticket _ _ _ l => l.length ≤ 30
  | .narrow _ _ _ l => l.length ≤ 30
  | .open_ _ _ _ q => q.length ≤ 1000
  | _ => True
def spDoCall (K : PySem.W.Frag) : Sp := fun vs H Q _ => ∃ (d : Ad) (s : Wm08.State) (k n : Nat) (v : V) (e : Wm08.Event), vs = [.ref d.h, .int n, v] ∧ HsAt K H d s ∧ Good s k ∧ k < n ∧ n ≤ 60 ∧ CallAt H v (evC e) ∧ evFits e ∧ Does K H d s n e Q
theorem cl_do_call (T : TX K mg) : Cl P w K mg base CX0 "do_call" 27 ["house", "number", "call"] (spDoCall K) := by
  have c_do_grant : Cl P w K mg base CX0 "do_grant" 3 ["house", "number", "giver", "taker", "right", "leave"] (spDoGrant K) := cl_do_grant T
  have c_do_revoke : Cl P w K mg base CX0 "do_revoke" 5 ["house", "number", "giver", "taker", "right"] (spDoRevoke K) := cl_do_revoke T
  have c_do_over : Cl P w K mg base CX0 "do_over" 5 ["house", "number", "giver", "taker", "right"] (spDoOver K) := cl_do_over T
  have c_do_leave : Cl P w K mg base CX0 "do_leave" 5 ["house", "number", "user"] (spDoLeave K) := cl_do_leave T
  have c_do_policy : Cl P w K mg base CX0 "do_policy" 19 ["house", "number", "door", "code"] (spDoPolicy K) := cl_do_policy T
  have c_do_quorum : Cl P w K mg base CX0 "do_quorum" 2 ["house", "number", "door", "quorum"] (spDoQuorum K) := cl_do_quorum T
  have c_do_ticket : Cl P w K mg base CX0 "do_ticket" 3 ["house", "number", "maker", "holder", "door", "row"] (spDoTicket K) := cl_do_ticket T
  have c_do_narrow : Cl P w K mg base CX0 "do_narrow" 3 ["house", "number", "user", "source", "holder", "row"] (spDoNarrow K) := cl_do_narrow T
  have c_do_allow : Cl P w K mg base CX0 "do_allow" 2 ["house", "number", "user", "door"] (spDoAllow K) := cl_do_allow T
  have c_do_open : Cl P w K mg base CX0 "do_open" 26 ["house", "number", "user", "door", "ticket_number", "values"] (spDoOpen K) := cl_do_open T
  refine cl_of (d := d_do_call) T.g_do_call T.u_do_call sc_do_call b_do_call (fun vs H Q E h => ?_) (fun cdv A outer s H vs Q E hr h => ⟨_, PSs.nox (pss_cons (ps_set (i := 3) sc_do_call.nd rfl (Or.inl rfl) (pe_ix ix_list (pv 2) pe_int (fun _ _ => rfl)))
    (pss_cons (ps_if (pt_cmp (pc_eqI (pv 3) (pe_gi T.i_GRANT))) (pss_one (ps_ret (pe_c c_do_grant (hr.mono (by omega)) pass0 (pa_cons (pv 0) (pa_cons (pv 1) (pa_cons (pe_ix ix_list (pv 2) pe_int (fun _ _ => rfl)) (pa_cons (pe_ix ix_list (pv 2) pe_int (fun _ _ => rfl)) (pa_cons (pe_ix ix_list (pv 2) pe_int (fun _ _ => rfl)) (pa_cons (pe_ix ix_list (pv 2) pe_int (fun _ _ => rfl)) pa_nil))))))))) pss_nil)
    (pss_cons (ps_if (pt_cmp (pc_eqI (pv 3) (pe_gi T.i_REVOKE))) (pss_one (ps_ret (pe_c c_do_revoke (hr.mono (by omega)) pass0 (pa_cons (pv 0) (pa_cons (pv 1) (pa_cons (pe_ix ix_list (pv 2) pe_int (fun _ _ => rfl)) (pa_cons (pe_ix ix_list (pv 2) pe_int (fun _ _ => rfl)) (pa_cons (pe_ix ix_list (pv 2) pe_int (fun _ _ => rfl)) pa_nil)))))))) pss_nil)
    (pss_cons (ps_if (pt_cmp (pc_eqI (pv 3) (pe_gi T.i_OVER))) (pss_one (ps_ret (pe_c c_do_over (hr.mono (by omega)) pass0 (pa_cons (pv 0) (pa_cons (pv 1) (pa_cons (pe_ix ix_list (pv 2) pe_int (fun _ _ => rfl)) (pa_cons (pe_ix ix_list (pv 2) pe_int (fun _ _ => rfl)) (pa_cons (pe_ix ix_list (pv 2) pe_int (fun _ _ => rfl)) pa_nil)))))))) pss_nil)
    (pss_cons (ps_if (pt_cmp (pc_eqI (pv 3) (pe_gi T.i_LEAVE))) (pss_one (ps_ret (pe_c c_do_leave (hr.mono (by omega)) pass0 (pa_cons (pv 0) (pa_cons (pv 1) (pa_cons (pe_ix ix_list (pv 2) pe_int (fun _ _ => rfl)) pa_nil)))))) pss_nil)
    (pss_cons (ps_if (pt_cmp (pc_eqI (pv 3) (pe_gi T.i_POLICY))) (pss_one (ps_ret (pe_c c_do_policy (hr.mono (by omega)) pass0 (pa_cons (pv 0) (pa_cons (pv 1) (pa_cons (pe_ix ix_list (pv 2) pe_int (fun _ _ => rfl)) (pa_cons (pe_ix ix_list (pv 2) pe_int (fun _ _ => rfl)) pa_nil))))))) pss_nil)
    (pss_cons (ps_if (pt_cmp (pc_eqI (pv 3) (pe_gi T.i_QUORUM))) (pss_one (ps_ret (pe_c c_do_quorum (hr.mono (by omega)) pass0 (pa_cons (pv 0) (pa_cons (pv 1) (pa_cons (pe_ix ix_list (pv 2) pe_int (fun _ _ => rfl)) (pa_cons (pe_ix ix_list (pv 2) pe_int (fun _ _ => rfl)) pa_nil))))))) pss_nil)
    (pss_cons (ps_if (pt_cmp (pc_eqI (pv 3) (pe_gi T.i_TICKET))) (pss_one (ps_ret (pe_c c_do_ticket (hr.mono (by omega)) pass0 (pa_cons (pv 0) (pa_cons (pv 1) (pa_cons (pe_ix ix_list (pv 2) pe_int (fun _ _ => rfl)) (pa_cons (pe_ix ix_list (pv 2) pe_int (fun _ _ => rfl)) (pa_cons (pe_ix ix_list (pv 2) pe_int (fun _ _ => rfl)) (pa_cons (pe_ix ix_list (pv 2) pe_int (fun _ _ => rfl)) pa_nil))))))))) pss_nil)
    (pss_cons (ps_if (pt_cmp (pc_eqI (pv 3) (pe_gi T.i_NARROW))) (pss_one (ps_ret (pe_c c_do_narrow (hr.mono (by omega)) pass0 (pa_cons (pv 0) (pa_cons (pv 1) (pa_cons (pe_ix ix_list (pv 2) pe_int (fun _ _ => rfl)) (pa_cons (pe_ix ix_list (pv 2) pe_int (fun _ _ => rfl)) (pa_cons (pe_ix ix_list (pv 2) pe_int (fun _ _ => rfl)) (pa_cons (pe_ix ix_list (pv 2) pe_int (fun _ _ => rfl)) pa_nil))))))))) pss_nil)
    (pss_cons (ps_if (pt_cmp (pc_eqI (pv 3) (pe_gi T.i_ALLOW))) (pss_one (ps_ret (pe_c c_do_allow (hr.mono (by omega)) pass0 (pa_cons (pv 0) (pa_cons (pv 1) (pa_cons (pe_ix ix_list (pv 2) pe_int (fun _ _ => rfl)) (pa_cons (pe_ix ix_list (pv 2) pe_int (fun _ _ => rfl)) pa_nil))))))) pss_nil)
    (pss_one (ps_ret (pe_c c_do_open (hr.mono (by omega)) pass0 (pa_cons (pv 0) (pa_cons (pv 1) (pa_cons (pe_ix ix_list (pv 2) pe_int (fun _ _ => rfl)) (pa_cons (pe_ix ix_list (pv 2) pe_int (fun _ _ => rfl)) (pa_cons (pe_ix ix_list (pv 2) pe_int (fun _ _ => rfl)) (pa_cons (pe_ix ix_list (pv 2) pe_int (fun _ _ => rfl)) pa_nil))))))))))))))))))), ?_⟩)
  · obtain ⟨d, s, k, n, v, e, rfl, _⟩ := h
    rfl
  · obtain ⟨d, s, k, n, v, e, rfl, hs, g, hk, h60, hc, hf, hD⟩ := h
    obtain ⟨c, xs, rfl, hc, hrow⟩ := hc
    have k60 : k ≤ 60 := by omega
    have hC : SqL K H c _ := SqL.of hc
    cases e with
    | grant a b r p =>
      have hx : xs = [] := hrow
      subst hx
      refine ⟨_, rfl, ixL hC rfl ?_⟩
      walk_at "rd"
      refine if_true_of (by decide) (ixL hC rfl (ixL hC rfl (ixL hC rfl (ixL hC rfl ?_))))
      exact ⟨d, s, k, n, a, b, r, p, rfl, hs, g, k60, hD⟩
    | revoke a b r =>
      have hx : xs = [] := hrow
      subst hx
      refine ⟨_, rfl, ixL hC rfl ?_⟩
      walk_at "rd"
      refine if_false_of (by decide) (if_true_of (by decide) (ixL hC rfl (ixL hC rfl (ixL hC rfl ?_))))
      exact ⟨d, s, k, n, a, b, r, rfl, hs, g, k60, hD⟩
    | over a b r =>
      have hx : xs = [] := hrow
      subst hx
      refine ⟨_, rfl, ixL hC rfl ?_⟩
      walk_at "rd"
      refine if_false_of (by decide) (if_false_of (by decide) (if_true_of (by decide) (ixL hC rfl (ixL hC rfl (ixL hC rfl ?_)))))
      exact ⟨d, s, k, n, a, b, r, rfl, hs, g, k60, hD⟩
    | leave u =>
      have hx : xs = [] := hrow
      subst hx
      refine ⟨_, rfl, ixL hC rfl ?_⟩
      walk_at "rd"
      refine if_false_of (by decide) (if_false_of (by decide) (if_false_of (by decide) (if_true_of (by decide) (ixL hC rfl ?_))))
      exact ⟨d, s, k, n, u, rfl, hs, g, k60, hD⟩
    | policy r l =>
      obtain ⟨b, rfl, hb⟩ := hrow
      refine ⟨_, rfl, ixL hC rfl ?_⟩
      walk_at "rd"
      refine if_false_of (by decide) (if_false_of (by decide) (if_false_of (by decide) (if_false_of (by decide) (if_true_of (by decide) (ixL hC rfl (ixL hC rfl ?_))))))
      exact ⟨d, s, k, n, r, b, l, rfl, hs, g, k60, hb, by have := hf.1; omega, hf.2, hD⟩
    | quorum r q =>
      have hx : xs = [] := hrow
      subst hx
      refine ⟨_, rfl, ixL hC rfl ?_⟩
      walk_at "rd"
      refine if_false_of (by decide) (if_false_of (by decide) (if_false_of (by decide) (if_false_of (by decide) (if_false_of (by decide) (if_true_of (by decide) (ixL hC rfl (ixL hC rfl ?_)))))))
      exact ⟨d, s, n, r, q, rfl, hs, hD⟩
    | ticket a b r l =>
      obtain ⟨lb, rfl, hb⟩ := hrow
      refine ⟨_, rfl, ixL hC rfl ?_⟩
      walk_at "rd"
      refine if_false_of (by decide) (if_false_of (by decide) (if_false_of (by decide) (if_false_of (by decide) (if_false_of (by decide) (if_false_of (by decide) (if_true_of (by decide) (ixL hC rfl (ixL hC rfl (ixL hC rfl (ixL hC rfl ?_))))))))))
      exact ⟨d, s, k, n, a, b, r, lb, l, rfl, hs, g, hk, h60, SqL.of hb, hf, hD⟩
    | narrow a m b l =>
      obtain ⟨lb, rfl, hb⟩ := hrow
      refine ⟨_, rfl, ixL hC rfl ?_⟩
      walk_at "rd"
      refine if_false_of (by decide) (if_false_of (by decide) (if_false_of (by decide) (if_false_of (by decide) (if_false_of (by decide) (if_false_of (by decide) (if_false_of (by decide) (if_true_of (by decide) (ixL hC rfl (ixL hC rfl (ixL hC rfl (ixL hC rfl ?_)))))))))))
      exact ⟨d, s, k, n, a, m, b, lb, l, rfl, hs, g, hk, h60, SqL.of hb, hf, hD⟩
    | approve u r =>
      have hx : xs = [] := hrow
      subst hx
      refine ⟨_, rfl, ixL hC rfl ?_⟩
      walk_at "rd"
      refine if_false_of (by decide) (if_false_of (by decide) (if_false_of (by decide) (if_false_of (by decide) (if_false_of (by decide) (if_false_of (by decide) (if_false_of (by decide) (if_false_of (by decide) (if_true_of (by decide) (ixL hC rfl (ixL hC rfl ?_))))))))))
      exact ⟨d, s, k, n, u, r, rfl, hs, g, k60, hD⟩
    | open_ u r m q =>
      obtain ⟨lb, rfl, hb⟩ := hrow
      refine ⟨_, rfl, ixL hC rfl ?_⟩
      walk_at "rd"
      refine if_false_of (by decide) (if_false_of (by decide) (if_false_of (by decide) (if_false_of (by decide) (if_false_of (by decide) (if_false_of (by decide) (if_false_of (by decide) (if_false_of (by decide) (if_false_of (by decide) (ixL hC rfl (ixL hC rfl (ixL hC rfl (ixL hC rfl ?_))))))))))))
      exact ⟨d, s, k, n, u, r, m, lb, q, rfl, hs, g, k60, SqL.of hb, hf, hD⟩
end
end Gh
set_option Elab.async false
set_option linter.all false
set_option maxRecDepth 100000
set_option maxHeartbeats 4000000
namespace Gh
open PySem PySem.Spec PyProof.Rows L2
local macro_rules | `(tactic| walk_at "rd") => `(tactic| simp only [tRet, tSeq, tAsg, gName, tDrop, tIfS, tTest, tB, tAnd, tOr, tNot, tAndV, tOrV, tNotV, tCmp, t2I, tAdd, tSub, tMul, tIsN, tNotN, tC, tVar, tCons, tNil, tCall, tOp, tUn, tCB, tNext, tRetN, tIf, tFld, wipe, tYes, HO.ins.injEq, and_assoc, L2.start, List.map_cons, List.map_nil, List.length_cons, List.length_nil, List.cons_append, List.nil_append, List.append_nil, List.set_cons_zero, List.set_cons_succ, List.replicate, Nat.reduceAdd, Nat.reduceSub, Nat.zero_add, Nat.sub_self, List.getElem?_cons_zero, List.getElem?_cons_succ, Option.some.injEq, V.int.injEq, V.bl.injEq, V.ref.injEq, V.str.injEq, List.cons.injEq, reduceCtorEq, and_true, true_and, and_false, false_and, exists_eq_left, exists_eq_left', exists_eq_right, exists_eq_right', exists_and_left, exists_const, exists_false, exists_eq, if_true, if_false, Bool.false_eq_true, Bool.true_eq_false, cxK, andV, orV, andT, orT, deq, dle, dlt, Bool.not_true, Bool.not_false, decide_true, decide_false, ite_true, ite_false])
local macro_rules | `(tactic| k_call_by "rd" ($a, $bs,*)) => do { let cs := bs.getElems; `(tactic| simp only [$a:term, $[$cs:term],*, tRet, tSeq, tAsg, gName, tDrop, tIfS, tTest, tB, tAnd, tOr, tNot, tAndV, tOrV, tNotV, tCmp, t2I, tAdd, tSub, tMul, tIsN, tNotN, tC, tVar, tCons, tNil, tCall, tOp, tUn, tCB, tNext, tRetN, tIf, tFld, wipe, tYes, HO.ins.injEq, and_assoc, L2.start, List.map_cons, List.map_nil, List.length_cons, List.length_nil, List.cons_append, List.nil_append, List.append_nil, List.set_cons_zero, List.set_cons_succ, List.replicate, Nat.reduceAdd, Nat.reduceSub, Nat.zero_add, Nat.sub_self, List.getElem?_cons_zero, List.getElem?_cons_succ, Option.some.injEq, V.int.injEq, V.bl.injEq, V.ref.injEq, V.str.injEq, List.cons.injEq, reduceCtorEq, and_true, true_and, and_false, false_and, exists_eq_left, exists_eq_left', exists_eq_right, exists_eq_right', exists_and_left, exists_const, exists_false, exists_eq, if_true, if_false, Bool.false_eq_true, Bool.true_eq_false, cxK, andV, orV, andT, orT, deq, dle, dlt, Bool.not_true, Bool.not_false, decide_true, decide_false, ite_true, ite_false]) }
section
variable {P : Program} {w : World} {K : PySem.W.Frag} {mg : Str → Option Value} {base : Heap}
/-! ### the log -/
def CallE (H : Hp) (v : V) (x : Nat × Wm08.Event) : Prop := CallAt H v (evC x.2)
theorem calls_mono {H H' : Hp} {ls : List V} {l : Wm08.Log} (s : Same H H') (h : Paired (CallE H) ls l) : Paired (CallE H') ls l := pr_imp h fun _ _ z => CallAt.mono s z
structure LogAt (K : PySem.W.Frag) (H : Hp) (L : Addr) (ls : List V) (l : Wm08.Log) : Prop where
  sq : SqL K H L ls
  cs : Paired (CallE H) ls l
  num : Numbered l
  len : l.length ≤ 60
  fits : ∀ x ∈ l, evFits x.2
theorem LogAt.mono {H H' : Hp} {L : Addr} {ls : List V} {l : Wm08.Log} (s : Same H H') (h : LogAt K H L ls l) : LogAt K H' L ls l := ⟨s.seq h.sq, calls_mono s h.cs, h.num, h.len, h.fits⟩
theorem walk_enumS {a : Addr} {xs : List V} : Walk (IteS K a) xs.length (fun H => SqL K H a xs) (fun i H v H' => ∃ T x, v = .ref T ∧ H T = none ∧ H' = upd H T (.tup [.int ((i + 1 : Nat) : Int), x]) ∧ xs[i]? = some x) := by
  refine ⟨fun i _ hi q => ⟨xs, xs[i], q, by simp [hi]⟩, fun _ q => ⟨xs, q, Nat.le_refl _⟩, fun i H v H' _ q y => ?_⟩
  obtain ⟨T, x, h1, h2, h3, h4⟩ := y
  exact ⟨T, x, h1, h2, h3, h4 xs q⟩
theorem cut_take {xs : List V} {m : Nat} : cutV xs none (some (m : Int)) = xs.take m := by
  unfold cutV
  rw [HT.sIx_none, HT.sIx_nat, Nat.sub_zero, List.drop_zero]
  by_cases h : m ≤ xs.length
  · rw [Nat.min_eq_left h]
  · rw [Nat.min_eq_right (by omega), List.take_length, List.take_of_length_le (by omega)]
theorem pr_take {α β : Type} {F : α → β → Prop} : ∀ {l : List α} {m : List β} (n : Nat), Paired F l m → Paired F (l.take n) (m.take n)
  | _, _, 0, _ => by simp only [List.take_zero]; exact .nil
  | _, _, n + 1, .nil => .nil
  | a :: l, b :: m, n + 1, .cons r t => .cons r (pr_take n t)
/-- a new house's places stay apart from what was there -/
theorem apart {H H' : Hp} {M M' : List Addr} (h : ∀ b ∈ M, H b = none) (s : Same H H') (h' : ∀ b ∈ M', b ∈ M ∨ H' b = none) : ∀ b ∈ M', H b = none := fun b hb => by
  rcases h' b hb with z | z
  · exact h b z
  · exact s.free z
theorem Kept.fresh {H H1 H2 : Hp} {M : List Addr} (k : Kept M H1 H2) (h : ∀ b ∈ M, H b = none) (s : Same H H1) : Same H H2 := fun b o e => k b o (s b o e) fun m => by rw [h b m] at e; cases e
theorem out_of {H : Hp} {M M' : List Addr} {x : Addr} {o : HO} (hx : x ∉ M) (e : H x = some o) (h : ∀ b ∈ M', b ∈ M ∨ H b = none) : x ∉ M' := fun m => by
  rcases h x m with z | z
  · exact hx z
  · rw [z] at e; cases e
theorem stateOf_more {l : Wm08.Log} {i : Nat} {x : Nat × Wm08.Event} (h : l[i]? = some x) : Wm08.stateOf (l.take (i + 1)) = match Wm08.act (Wm08.stateOf (l.take i)) x.1 x.2 with
    | .inl _ => Wm08.stateOf (l.take i)
    | .inr t => t := by
  have e := (congrArg (Wm08.replay Wm08.empty) (take_more h)).trans (replay_app (l.take i) Wm08.empty x)
  refine e.trans ?_
  show _ = match Wm08.act (Wm08.replay Wm08.empty (l.take i)) x.1 x.2 with
    | .inl _ => Wm08.replay Wm08.empty (l.take i)
    | .inr t => t
  cases Wm08.act (Wm08.replay Wm08.empty (l.take i)) x.1 x.2 <;> rfl
/-! ### the house at a moment -/
def spHouseAt (K : PySem.W.Frag) : Sp := fun vs H Q _ => ∃ (L : Addr) (ls : List V) (l : Wm08.Log) (m : Nat), vs = [.ref L, .int m] ∧ LogAt K H L ls l ∧ m ≤ l.length ∧
  ∀ H' d, Same H H' → HsAt K H' d (Wm08.stateOf (l.take m)) → Good (Wm08.stateOf (l.take m)) m → Q (.ref d.h) H'
theorem cl_house_at (T : TX K mg) : Cl P w K mg base CX0 "house_at" 28 ["log", "moment"] (spHouseAt K) := by
  have c_House : Il P w K mg base CX0 "House" (He.ga K "House") 1 ["self"] (spHouseInit K) := il_House T
  have c_do_call : Cl P w K mg base CX0 "do_call" 27 ["house", "number", "call"] (spDoCall K) := cl_do_call T
  refine cl_of (d := d_house_at) T.g_house_at T.u_house_at sc_house_at b_house_at (fun vs H Q E h => ?_) (fun cdv A outer s H vs Q E hr h => ⟨_, PSs.nox (pss_cons (ps_set (i := 2) sc_house_at.nd rfl (Or.inl rfl) (pe_i0 c_House (hr.mono (by omega)) pass0))
    (pss_cons (ps_for PassesOwn.never rfl (pi_enumS rfl T.f_enumerate (pa_cons (pe_slice sl_list (pv 0) po_none (po_some (pv 1))) pa_nil)) (pg_tup rfl (pgs_cons (pg_name (i := 3) sc_house_at.nd rfl (Or.inl rfl)) (pgs_cons (pg_name (i := 4) sc_house_at.nd rfl (Or.inl rfl)) pgs_nil))) (pss_one (ps_expr (pe_c c_do_call (hr.mono (by omega)) pass0 (pa_cons (pv 2) (pa_cons (pv 3) (pa_cons (pv 4) pa_nil)))))))
    (pss_one (ps_ret (pv 2))))), ?_⟩)
  · obtain ⟨L, ls, l, m, rfl, _⟩ := h
    rfl
  · obtain ⟨L, ls, l, m, rfl, hL, hm, hQ⟩ := h
    intro x dx nx nd ne
    refine ⟨x, dx, rfl, upd_same, fun H1 d0 e0 en0 hs0 k0 f0 => ⟨rfl, ?_⟩⟩
    subst e0
    have s1 : Same H H1 := made_same nx nd k0
    have ap0 : ∀ b ∈ d0.M0, H b = none := fun b hb => by
      rcases f0 b hb with z | z
      · rw [z]; exact nx
      · have nb : b ≠ d0.h := fun y => by rw [y, upd_same] at z; cases z
        rw [upd_ne nb] at z
        have nb2 : b ≠ dx := fun y => by rw [y, upd_same] at z; cases z
        rw [upd_ne nb2] at z
        exact z
    refine ⟨_, rfl, _, rfl, _, rfl, L, ls, rfl, s1.seq hL.sq, fun sl hsl => ?_⟩
    rw [show cutV ls none (some (m : Int)) = ls.take m from cut_take]
    have s2 : Same H1 (upd H1 sl (.lst (ls.take m))) := same_upd hsl
    obtain ⟨Pv, hPv⟩ : ∃ Pv : Nat → L2.St → Hp → Prop, ∀ i σ H', Pv i σ H' ↔ ∃ v1 v2 d, σ = [some (.ref L), some (.int m), some (.ref d.h), v1, v2] ∧ Same H H' ∧ HsAt K H' d (Wm08.stateOf ((l.take m).take i)) ∧ Good (Wm08.stateOf ((l.take m).take i)) i ∧ (∀ b ∈ d.M0, H b = none) ∧ sl ∉ d.M0 ∧ H' sl = some (.lst (ls.take m)) := ⟨_, fun _ _ _ => Iff.rfl⟩
    have hl1 : (ls.take m).length = m := by rw [List.length_take, pr_len hL.cs]; omega
    refine ⟨sl, ls.take m, rfl, SqL.of upd_same, for_it walk_enumS Pv ((hPv _ _ _).mpr ⟨none, none, d0, rfl, s1.trans s2, hs0.same s2, good_empty, ap0, fun z => hs0.fresh hsl (d0.sub z), upd_same⟩) (fun i σ H' _ z => by obtain ⟨_, _, _, _, _, _, _, _, _, e⟩ := (hPv _ _ _).mp z; exact SqL.of e) ?_ ?_⟩
    · rintro i v σ H' H'' hi z ⟨tp, c, rfl, htp, rfl, hc⟩
      obtain ⟨v1, v2, d, rfl, s', hs, g, ap, hsd, hsl'⟩ := (hPv _ _ _).mp z
      obtain ⟨ev, hev, hce⟩ := pr_get (pr_take m hL.cs) hc
      have him : i < m := by rw [hl1] at hi; exact hi
      have hev0 : l[i]? = some ev := by rw [List.getElem?_take] at hev; rw [if_pos him] at hev; exact hev
      have hnum : ev.1 = i + 1 := hL.num i ev hev0
      have hfit : evFits ev.2 := hL.fits ev (List.mem_of_getElem? hev0)
      have h60 := hL.len
      have s3 : Same H' (upd H' tp (.tup [.int ((i + 1 : Nat) : Int), c])) := same_upd htp
      refine ⟨tp, _, rfl, SqT.of upd_same, rfl, _, _, rfl, _, _, rfl, rfl, ?_⟩
      refine ⟨_, rfl, _, rfl, _, rfl, d, _, i, i + 1, c, ev.2, rfl, hs.same s3, g, Nat.lt_succ_self _, by omega, hce.mono (s'.trans s3), hfit, ⟨fun y ha H2 s4 => ?_, fun t ha H2 d' kp hs' e' en' f' => ?_⟩⟩
      · have e : Wm08.stateOf ((l.take m).take (i + 1)) = Wm08.stateOf ((l.take m).take i) := by rw [stateOf_more hev, hnum, ha]
        refine (hPv _ _ _).mpr ⟨_, _, d, rfl, s'.trans (s3.trans s4), ?_, ?_, ap, hsd, s4 _ _ (s3 _ _ hsl')⟩
        · rw [e]; exact hs.same (s3.trans s4)
        · rw [e]; exact g.mono (Nat.le_succ _)
      · have e : Wm08.stateOf ((l.take m).take (i + 1)) = t := by rw [stateOf_more hev, hnum, ha]
        refine (hPv _ _ _).mpr ⟨_, _, d', by rw [e']; rfl, kp.fresh ap (s'.trans s3), ?_, ?_, apart ap (s'.trans s3) f', out_of hsd (s3 _ _ hsl') f', kp _ _ (s3 _ _ hsl') hsd⟩
        · rw [e]; exact hs'
        · rw [e]; exact good_act g (Nat.lt_succ_self _) ha
    · intro σ H' z
      obtain ⟨v1, v2, d, rfl, s', hs, g, ap, hsd, hsl'⟩ := (hPv _ _ _).mp z
      rw [hl1, List.take_take, Nat.min_self] at hs g
      exact ⟨_, rfl, hQ H' d s' hs g⟩
/-! ### openings -/
theorem opens_more {l : Wm08.Log} {i : Nat} {x : Nat × Wm08.Event} (h : l[i]? = some x) : opensOf (l.take (i + 1)) = opensOf (l.take i) ++ if isOpen x.2 = true then [x.1] else [] := by
  unfold opensOf
  rw [filter_more h, List.map_append]
  split <;> simp
theorem evC_open (e : Wm08.Event) : ∃ k ns, (evC e).1 = k :: ns ∧ (k == 9) = isOpen e := by
  cases e <;> exact ⟨_, _, rfl, rfl⟩
def spOpeningsIn (K : PySem.W.Frag) : Sp := fun vs H Q _ => ∃ (L : Addr) (ls : List V) (l : Wm08.Log), vs = [.ref L] ∧ LogAt K H L ls l ∧
  ∀ H' p, Same H H' → H p = none → H' p = some (.lst (nats (opensOf l))) → Q (.ref p) H'
theorem opens_len (l : Wm08.Log) : (opensOf l).length ≤ l.length := by
  unfold opensOf
  rw [List.length_map]
  exact List.length_filter_le _ _
theorem call_kind {H : Hp} {v : V} {e : Wm08.Event} (h : CallAt H v (evC e)) : ∃ a xs k, v = .ref a ∧ H a = some (.lst xs) ∧ atI xs 0 = some (V.int (k : Nat)) ∧ (k == 9) = isOpen e := by
  obtain ⟨a, xs, e1, h1, _⟩ := h
  obtain ⟨k, ns, e2, e3⟩ := evC_open e
  refine ⟨a, _, k, e1, h1, ?_, e3⟩
  rw [e2]
  exact atI_nat (j := 0) rfl
theorem deq9 (n : Nat) : decide ((n : Int) = 9) = (n == 9) := deq n 9
theorem cl_openings_in (T : TX K mg) : Cl P w K mg base CX0 "openings_in" 1 ["log"] (spOpeningsIn K) := by
  refine cl_of (d := d_openings_in) T.g_openings_in T.u_openings_in sc_openings_in b_openings_in (fun vs H Q E h => ?_) (fun cdv A outer s H vs Q E hr h => ⟨_, PSs.nox (pss_one (ps_ret (pe_lc (own := [("number", 1), ("call", 2)]) (g := gTup K 2 (gCons (gName 1) (gCons (gName 2) gNil))) (tt := tB (tEqI (tOp (rIxL K) (tVar 2) (tC (.int (0)))) (tC (.int (9))))) (te := tVar 1) rfl sc_openings_in.nd (pi_enumS rfl T.f_enumerate (pa_cons (pv 0) pa_nil)) (blkOk_by (N := N_openings_in) (sc := defScope s_openings_in) (by decide +kernel)) (fun _ _ _ _ _ => pg_tup rfl (pgs_cons (pg_name (i := 1) sc_openings_in.nd rfl (Or.inl rfl)) (pgs_cons (pg_name (i := 2) sc_openings_in.nd rfl (Or.inl rfl)) pgs_nil))) (fun _ _ _ _ _ => (pts_one (pt_cmp (pc_eqI (pe_ix ix_list (pv 2) pe_int (fun _ _ => rfl)) (pe_gi T.i_OPENING))))) (fun _ _ _ _ _ => (pv 1))))), ?_⟩)
  · obtain ⟨L, ls, l, rfl, _⟩ := h
    rfl
  · obtain ⟨L, ls, l, rfl, hL, hQ⟩ := h
    refine ⟨_, rfl, L, ls, rfl, hL.sq, fun D hD => ?_⟩
    refine lc_it walk_enumS (fun i H' => Same H H' ∧ H' D = some (.lst (nats (opensOf (l.take i))))) ⟨same_upd hD, upd_same⟩ (fun i H' _ z => z.1.seq hL.sq) ?_ ?_
    · rintro i v H' H'' hi ⟨s', hd⟩ ⟨tp, c, rfl, htp, rfl, hc⟩
      obtain ⟨ev, hev, hce⟩ := pr_get hL.cs hc
      have hnum : ev.1 = i + 1 := hL.num i ev hev
      have s3 : Same H' (upd H' tp (.tup [.int ((i + 1 : Nat) : Int), c])) := same_upd htp
      obtain ⟨ca, cx, k, rfl, hca, hk, ho⟩ := call_kind (hce.mono (s'.trans s3))
      refine ⟨tp, _, rfl, SqT.of upd_same, rfl, _, _, rfl, _, _, rfl, rfl, rfl, ?_⟩
      refine ⟨_, rfl, ca, _, _, _, rfl, rfl, SqL.of hca, hk, _, _, rfl, rfl, _, rfl, ?_⟩
      have step := opens_more hev
      show if decide ((k : Int) = 9) = true then _ else _
      rw [deq9, ho]
      have h60 := hL.len
      have hol := opens_len (l.take i)
      rw [List.length_take] at hol
      cases c1 : isOpen ev.2 with
      | false =>
        rw [c1, if_neg Bool.false_ne_true, List.append_nil] at step
        refine if_false_of rfl ⟨s'.trans s3, ?_⟩
        rw [step]
        exact s3 _ _ hd
      | true =>
        rw [c1, if_pos rfl, hnum] at step
        refine if_true_of rfl ⟨_, rfl, _, s3 _ _ hd, ?_, same_upd2 (s'.trans s3) hD, ?_⟩
        · rw [nats_len]; exact sz1000 (by omega)
        · rw [step, upd_same]
          unfold nats
          rw [List.map_append]
          rfl
    · rintro H' ⟨s', hd⟩
      have e : l.take ls.length = l := by rw [pr_len hL.cs, List.take_length]
      rw [e] at hd
      exact hQ H' D s' hD hd
end
end Gh
set_option Elab.async false
set_option linter.all false
set_option maxRecDepth 100000
set_option maxHeartbeats 4000000
namespace Gh
open PySem PySem.Spec PyProof.Rows L2
local macro_rules | `(tactic| walk_at "rd") => `(tactic| simp only [tRet, tSeq, tAsg, gName, tDrop, tIfS, tTest, tB, tAnd, tOr, tNot, tAndV, tOrV, tNotV, tCmp, t2I, tAdd, tSub, tMul, tIsN, tNotN, tC, tVar, tCons, tNil, tCall, tOp, tUn, tCB, tNext, tRetN, tIf, tFld, wipe, tYes, HO.ins.injEq, and_assoc, L2.start, List.map_cons, List.map_nil, List.length_cons, List.length_nil, List.cons_append, List.nil_append, List.append_nil, List.set_cons_zero, List.set_cons_succ, List.replicate, Nat.reduceAdd, Nat.reduceSub, Nat.zero_add, Nat.sub_self, List.getElem?_cons_zero, List.getElem?_cons_succ, Option.some.injEq, V.int.injEq, V.bl.injEq, V.ref.injEq, V.str.injEq, List.cons.injEq, reduceCtorEq, and_true, true_and, and_false, false_and, exists_eq_left, exists_eq_left', exists_eq_right, exists_eq_right', exists_and_left, exists_const, exists_false, exists_eq, if_true, if_false, Bool.false_eq_true, Bool.true_eq_false, cxK, andV, orV, andT, orT, deq, dle, dlt, Bool.not_true, Bool.not_false, decide_true, decide_false, ite_true, ite_false])
local macro_rules | `(tactic| k_call_by "rd" ($a, $bs,*)) => do { let cs := bs.getElems; `(tactic| simp only [$a:term, $[$cs:term],*, tRet, tSeq, tAsg, gName, tDrop, tIfS, tTest, tB, tAnd, tOr, tNot, tAndV, tOrV, tNotV, tCmp, t2I, tAdd, tSub, tMul, tIsN, tNotN, tC, tVar, tCons, tNil, tCall, tOp, tUn, tCB, tNext, tRetN, tIf, tFld, wipe, tYes, HO.ins.injEq, and_assoc, L2.start, List.map_cons, List.map_nil, List.length_cons, List.length_nil, List.cons_append, List.nil_append, List.append_nil, List.set_cons_zero, List.set_cons_succ, List.replicate, Nat.reduceAdd, Nat.reduceSub, Nat.zero_add, Nat.sub_self, List.getElem?_cons_zero, List.getElem?_cons_succ, Option.some.injEq, V.int.injEq, V.bl.injEq, V.ref.injEq, V.str.injEq, List.cons.injEq, reduceCtorEq, and_true, true_and, and_false, false_and, exists_eq_left, exists_eq_left', exists_eq_right, exists_eq_right', exists_and_left, exists_const, exists_false, exists_eq, if_true, if_false, Bool.false_eq_true, Bool.true_eq_false, cxK, andV, orV, andT, orT, deq, dle, dlt, Bool.not_true, Bool.not_false, decide_true, decide_false, ite_true, ite_false]) }
section
variable {P : Program} {w : World} {K : PySem.W.Frag} {mg : Str → Option Value} {base : Heap}
theorem without_more {l : Wm08.Log} {i n : Nat} {x : Nat × Wm08.Event} (h : l[i]? = some x) : Wm08.without (l.take (i + 1)) n = Wm08.without (l.take i) n ++ if (x.1 != n) = true then [x] else [] := filter_more h
def doneOf (l : Wm08.Log) (n : Nat) : List Nat := (replayE Wm08.empty (Wm08.without l n)).map (·.1)
theorem done_len (l : Wm08.Log) (n : Nat) : (doneOf l n).length ≤ l.length := by
  unfold doneOf
  rw [List.length_map]
  refine Nat.le_trans (replayE_len _ _) ?_
  unfold Wm08.without
  exact List.length_filter_le _ _
where
  replayE_len : ∀ (l : Wm08.Log) (s : Wm08.State), (replayE s l).length ≤ l.length
    | [], s => Nat.le_refl _
    | x :: l, s => by
      unfold replayE
      split
      · have := replayE_len l s; rw [List.length_cons]; omega
      · rename_i t _; have := replayE_len l t; rw [List.length_cons, List.length_cons]; omega
theorem done_skip {l : Wm08.Log} {i n : Nat} {x : Nat × Wm08.Event} (h : l[i]? = some x) (hn : x.1 = n) : Wm08.stateOf (Wm08.without (l.take (i + 1)) n) = Wm08.stateOf (Wm08.without (l.take i) n) ∧ doneOf (l.take (i + 1)) n = doneOf (l.take i) n := by
  have e := without_more (n := n) h
  rw [if_neg (by simp [hn]), List.append_nil] at e
  unfold doneOf
  rw [e]
  exact ⟨rfl, rfl⟩
theorem done_no {l : Wm08.Log} {i n : Nat} {x : Nat × Wm08.Event} {y : Int} (h : l[i]? = some x) (hn : x.1 ≠ n) (ha : Wm08.act (Wm08.stateOf (Wm08.without (l.take i) n)) x.1 x.2 = .inl y) : Wm08.stateOf (Wm08.without (l.take (i + 1)) n) = Wm08.stateOf (Wm08.without (l.take i) n) ∧ doneOf (l.take (i + 1)) n = doneOf (l.take i) n := by
  have e := without_more (n := n) h
  rw [if_pos (by simp [hn])] at e
  unfold Wm08.stateOf at ha ⊢
  unfold doneOf
  rw [e, replay_app, replayE_app, ha]
  exact ⟨rfl, rfl⟩
theorem done_yes {l : Wm08.Log} {i n : Nat} {x : Nat × Wm08.Event} {t : Wm08.State} (h : l[i]? = some x) (hn : x.1 ≠ n) (ha : Wm08.act (Wm08.stateOf (Wm08.without (l.take i) n)) x.1 x.2 = .inr t) : Wm08.stateOf (Wm08.without (l.take (i + 1)) n) = t ∧ doneOf (l.take (i + 1)) n = doneOf (l.take i) n ++ [x.1] := by
  have e := without_more (n := n) h
  rw [if_pos (by simp [hn])] at e
  unfold Wm08.stateOf at ha ⊢
  unfold doneOf
  rw [e, replay_app, replayE_app, ha]
  dsimp only
  rw [List.map_append]
  exact ⟨rfl, rfl⟩
def spDoneWithout (K : PySem.W.Frag) : Sp := fun vs H Q _ => ∃ (L : Addr) (ls : List V) (l : Wm08.Log) (n : Nat), vs = [.ref L, .int n] ∧ LogAt K H L ls l ∧ ∀ H' p, Same H H' → H p = none → H' p = some (.lst (nats (doneOf l n))) → Q (.ref p) H'
theorem cl_done_without (T : TX K mg) : Cl P w K mg base CX0 "done_without" 28 ["log", "left_out"] (spDoneWithout K) := by
  have c_House : Il P w K mg base CX0 "House" (He.ga K "House") 1 ["self"] (spHouseInit K) := il_House T
  have c_do_call : Cl P w K mg base CX0 "do_call" 27 ["house", "number", "call"] (spDoCall K) := cl_do_call T
  refine cl_of (d := d_done_without) T.g_done_without T.u_done_without sc_done_without b_done_without (fun vs H Q E h => ?_) (fun cdv A outer s H vs Q E hr h => ⟨_, PSs.nox (pss_cons (ps_set (i := 2) sc_done_without.nd rfl (Or.inl rfl) (pe_i0 c_House (hr.mono (by omega)) pass0))
    (pss_cons (ps_set (i := 3) sc_done_without.nd rfl (Or.inl rfl) (pe_lst pa_nil))
    (pss_cons (ps_for PassesOwn.never rfl (pi_enumS rfl T.f_enumerate (pa_cons (pv 0) pa_nil)) (pg_tup rfl (pgs_cons (pg_name (i := 4) sc_done_without.nd rfl (Or.inl rfl)) (pgs_cons (pg_name (i := 5) sc_done_without.nd rfl (Or.inl rfl)) pgs_nil))) (pss_one (ps_if (PW.pt (pw_and (pt_cmp (pc_neI (pv 4) (pv 1))) (pw_and1 (pt_cmp (pc_eqI (pe_c c_do_call (hr.mono (by omega)) pass0 (pa_cons (pv 2) (pa_cons (pv 4) (pa_cons (pv 5) pa_nil)))) (pv 4)))))) (pss_one (ps_expr (pe_bm PySem.F.plainAttrs_list PySem.F.slot_list_append PySem.F.type_list_append mt_append (pv 3) (pa_cons (pv 4) pa_nil)))) pss_nil)))
    (pss_one (ps_ret (pv 3)))))), ?_⟩)
  · obtain ⟨L, ls, l, n, rfl, _⟩ := h
    rfl
  · obtain ⟨L, ls, l, n, rfl, hL, hQ⟩ := h
    intro x dx nx nd ne
    refine ⟨x, dx, rfl, upd_same, fun H1 d0 e0 en0 hs0 k0 f0 => ⟨rfl, ?_⟩⟩
    subst e0
    have s1 : Same H H1 := made_same nx nd k0
    have ap0 : ∀ b ∈ d0.M0, H b = none := fun b hb => by
      rcases f0 b hb with z | z
      · rw [z]; exact nx
      · have nb : b ≠ d0.h := fun y => by rw [y, upd_same] at z; cases z
        rw [upd_ne nb] at z
        have nb2 : b ≠ dx := fun y => by rw [y, upd_same] at z; cases z
        rw [upd_ne nb2] at z
        exact z
    refine ⟨by decide, fun D hD => ?_⟩
    have hD0 : H D = none := s1.free hD
    have s2 : Same H1 (upd H1 D (.lst [])) := same_upd hD
    have h60 := hL.len
    obtain ⟨Pv, hPv⟩ : ∃ Pv : Nat → L2.St → Hp → Prop, ∀ i σ H', Pv i σ H' ↔ ∃ v1 v2 d, σ = [some (.ref L), some (.int n), some (.ref d.h), some (.ref D), v1, v2] ∧ Same H H' ∧ HsAt K H' d (Wm08.stateOf (Wm08.without (l.take i) n)) ∧ Good (Wm08.stateOf (Wm08.without (l.take i) n)) i ∧ (∀ b ∈ d.M0, H b = none) ∧ d.n = [D] ∧ H' D = some (.lst (nats (doneOf (l.take i) n))) := ⟨_, fun _ _ _ => Iff.rfl⟩
    refine ⟨_, rfl, L, ls, rfl, (s1.trans s2).seq hL.sq, for_it walk_enumS Pv ((hPv _ _ _).mpr ⟨none, none, { d0 with n := [D] }, rfl, s1.trans s2, by have := hs0.addN s2 hD upd_same (.inl ⟨_, rfl⟩); rw [en0] at this; exact this, good_empty, ap0, rfl, upd_same⟩) (fun i σ H' _ z => by obtain ⟨_, _, _, _, s', _⟩ := (hPv _ _ _).mp z; exact s'.seq hL.sq) ?_ ?_⟩
    · rintro i v σ H' H'' hi z ⟨tp, c, rfl, htp, rfl, hc⟩
      obtain ⟨v1, v2, d, rfl, s', hs, g, ap, hDd, hD'⟩ := (hPv _ _ _).mp z
      obtain ⟨ev, hev, hce⟩ := pr_get hL.cs hc
      have hil : i < l.length := (List.getElem?_eq_some_iff.mp hev).1
      have hnum : ev.1 = i + 1 := hL.num i ev hev
      have hfit : evFits ev.2 := hL.fits ev (List.mem_of_getElem? hev)
      have s3 : Same H' (upd H' tp (.tup [.int ((i + 1 : Nat) : Int), c])) := same_upd htp
      have hDM : D ∉ d.M0 := (hs.ap D (by rw [hDd]; exact List.mem_cons_self)).1
      have dl := done_len (l.take i) n
      rw [List.length_take] at dl
      refine ⟨tp, _, rfl, SqT.of upd_same, rfl, _, _, rfl, _, _, rfl, rfl, ?_⟩
      walk_at "rd"
      by_cases c1 : i + 1 = n
      · refine if_false_of (by rw [c1]; simp) ?_
        obtain ⟨e1, e2⟩ := done_skip (n := n) hev (by omega)
        refine (hPv _ _ _).mpr ⟨_, _, d, rfl, s'.trans s3, ?_, ?_, ap, hDd, ?_⟩
        · rw [e1]; exact hs.same s3
        · rw [e1]; exact g.mono (Nat.le_succ _)
        · rw [e2]; exact s3 _ _ hD'
      · have hne : ev.1 ≠ n := by omega
        refine if_true_of (by simp; omega) ?_
        refine ⟨d, _, i, i + 1, c, ev.2, rfl, hs.same s3, g, Nat.lt_succ_self _, by omega, hce.mono (s'.trans s3), hfit, ⟨fun y ha H2 s4 => ?_, fun t ha H2 d' kp hs' e' en' f' => ?_⟩⟩
        · have hneg := act_neg ha
          rw [← hnum] at ha
          obtain ⟨e1, e2⟩ := done_no hev hne ha
          refine ⟨_, rfl, if_false_of (decide_eq_false (by omega)) ?_⟩
          refine (hPv _ _ _).mpr ⟨_, _, d, rfl, s'.trans (s3.trans s4), ?_, ?_, ap, hDd, ?_⟩
          · rw [e1]; exact hs.same (s3.trans s4)
          · rw [e1]; exact g.mono (Nat.le_succ _)
          · rw [e2]; exact s4 _ _ (s3 _ _ hD')
        · have ga := good_act g (Nat.lt_succ_self _) ha
          rw [← hnum] at ha
          obtain ⟨e1, e2⟩ := done_yes hev hne ha
          refine ⟨_, rfl, if_true_of (decide_eq_true rfl) ?_⟩
          have hD2 := kp _ _ (s3 _ _ hD') hDM
          have enD : d'.n = [D] := by rw [en', hDd]
          refine ⟨_, rfl, .inl ⟨rfl, _, SqL.of hD2⟩, _, rfl, D, _, _, rfl, rfl, hD2, ?_, ?_⟩
          · rw [nats_len]; exact sz1000 (by omega)
          · refine (hPv _ _ _).mpr ⟨_, _, d', by rw [e'], same_upd2 (kp.fresh ap (s'.trans s3)) hD0, ?_, ?_, apart ap (s'.trans s3) f', enD, ?_⟩
            · rw [e1]
              refine hs'.out (kept_upd (by rw [enD]; exact List.mem_cons_self)) fun b hb => ?_
              rw [enD] at hb
              rw [List.mem_singleton.mp hb]
              exact ⟨_, upd_same, .inl ⟨_, rfl⟩⟩
            · rw [e1]; exact ga
            · rw [upd_same, e2, hnum]
              unfold nats
              rw [List.map_append]
              rfl
    · intro σ H' z
      obtain ⟨v1, v2, d, rfl, s', hs, g, ap, hsd, hsl'⟩ := (hPv _ _ _).mp z
      have e : l.take ls.length = l := by rw [pr_len hL.cs, List.take_length]
      rw [e] at hsl'
      exact ⟨_, rfl, hQ H' D s' hD0 hsl'⟩
def spHangingOn (K : PySem.W.Frag) : Sp := fun vs H Q _ => ∃ (L : Addr) (ls : List V) (h : Wm08.House) (n : Nat), vs = [.ref L, .int n] ∧ LogAt K H L ls h.log ∧ HOk h ∧ ∀ H' p, Same H H' → H p = none → H' p = some (.lst (nats (Wm08.hang h.log n))) → Q (.ref p) H'
theorem inV_contains (a : Nat) (ds : List Nat) : inV (.int a) (nats ds) = ds.contains a := by
  rw [inV_nats, Bool.eq_iff_iff, List.any_eq_true, List.contains_iff_mem]
  constructor
  · rintro ⟨x, hx, e⟩
    have : x = a := by simpa using e
    rw [← this]; exact hx
  · intro hx
    exact ⟨a, hx, by simp⟩
theorem nats_flat (ds : List Nat) : (nats ds).all flatV = true := by
  rw [List.all_eq_true]
  intro x hx
  obtain ⟨n, _, e⟩ := List.mem_map.mp hx
  rw [← e]; rfl
theorem cl_hanging_on (T : TX K mg) : Cl P w K mg base CX0 "hanging_on" 29 ["log", "left_out"] (spHangingOn K) := by
  have c_done_without : Cl P w K mg base CX0 "done_without" 28 ["log", "left_out"] (spDoneWithout K) := cl_done_without T
  have c_openings_in : Cl P w K mg base CX0 "openings_in" 1 ["log"] (spOpeningsIn K) := cl_openings_in T
  refine cl_of (d := d_hanging_on) T.g_hanging_on T.u_hanging_on sc_hanging_on b_hanging_on (fun vs H Q E h => ?_) (fun cdv A outer s H vs Q E hr h => ⟨_, PSs.nox (pss_cons (ps_set (i := 2) sc_hanging_on.nd rfl (Or.inr rfl) (pe_c c_done_without (hr.mono (by omega)) pass0 (pa_cons (pv 0) (pa_cons (pv 1) pa_nil))))
    (pss_one (ps_ret (pe_lc (own := [("number", 3)]) (g := gName 3) (tt := tTest (tOp (rIn K true) (tVar 3) (tVar 2))) (te := tVar 3) rfl sc_hanging_on.nd (pi_list (pe_c c_openings_in (hr.mono (by omega)) pass0 (pa_cons (pv 0) pa_nil))) (blkOk_by (N := N_hanging_on) (sc := defScope s_hanging_on) (by decide +kernel)) (fun _ _ _ _ _ => pg_name (i := 3) sc_hanging_on.nd rfl (Or.inl rfl)) (fun _ _ _ _ _ => (pts_one (pt_cmpR op_notIn_seq (pv 3) (pv 2) rfl))) (fun _ _ _ _ _ => (pv 3)))))), ?_⟩)
  · obtain ⟨L, ls, h, n, rfl, _⟩ := h
    rfl
  · obtain ⟨L, ls, h, n, rfl, hL, hh, hQ⟩ := h
    refine ⟨_, rfl, _, rfl, L, ls, h.log, n, rfl, hL, fun H1 p s1 hp hy => ?_⟩
    refine ⟨_, rfl, L, ls, h.log, rfl, hL.mono s1, fun H2 q s2 hq hy2 => ?_⟩
    refine ⟨q, rfl, ⟨_, SqL.of hy2⟩, fun D hD => ?_⟩
    have h60 := hL.len
    have ol := opens_len h.log
    refine lc_rows (R := fun v (n : Nat) => v = V.int (n : Int)) (S := fun v (n : Nat) => v = V.int (n : Int)) (SqL.of hy2) (pr_of_map _) (by rw [nats_len]; omega) (fun m => !(doneOf h.log n).contains m) hD (fun x => rfl) ?_ ?_ ?_
    · rintro x m hm rfl H' s' R hR
      refine ⟨_, rfl, _, rfl, p, _, rfl, .inl (SqL.of (s' _ _ (s2 _ _ hy))), rfl, nats_flat _, _, rfl, ?_⟩
      show R (!inV (.int m) (nats (doneOf h.log n))) H'
      rw [inV_contains]
      exact hR _ (Same.refl _)
    · rintro x m hm rfl _ H' s' R hR
      exact ⟨_, rfl, hR _ _ rfl (Same.refl _)⟩
    · intro zs H3 hzs s3 hd
      refine hQ H3 D (s1.trans (s2.trans s3)) ((s1.trans s2).free hD) ?_
      rw [hd, hang_eq hh, pr_map hzs]
      rfl
end
end Gh
set_option Elab.async false
set_option linter.all false
set_option maxRecDepth 100000
set_option maxHeartbeats 4000000
namespace Gh
open PySem PySem.Spec PyProof.Rows L2
local macro_rules | `(tactic| walk_at "rd") => `(tactic| simp only [tRet, tSeq, tAsg, gName, tDrop, tIfS, tTest, tB, tAnd, tOr, tNot, tAndV, tOrV, tNotV, tCmp, t2I, tAdd, tSub, tMul, tIsN, tNotN, tC, tVar, tCons, tNil, tCall, tOp, tUn, tCB, tNext, tRetN, tIf, tFld, wipe, tYes, HO.ins.injEq, and_assoc, L2.start, List.map_cons, List.map_nil, List.length_cons, List.length_nil, List.cons_append, List.nil_append, List.append_nil, List.set_cons_zero, List.set_cons_succ, List.replicate, Nat.reduceAdd, Nat.reduceSub, Nat.zero_add, Nat.sub_self, List.getElem?_cons_zero, List.getElem?_cons_succ, Option.some.injEq, V.int.injEq, V.bl.injEq, V.ref.injEq, V.str.injEq, List.cons.injEq, reduceCtorEq, and_true, true_and, and_false, false_and, exists_eq_left, exists_eq_left', exists_eq_right, exists_eq_right', exists_and_left, exists_const, exists_false, exists_eq, if_true, if_false, Bool.false_eq_true, Bool.true_eq_false, cxK, andV, orV, andT, orT, deq, dle, dlt, Bool.not_true, Bool.not_false, decide_true, decide_false, ite_true, ite_false])
local macro_rules | `(tactic| k_call_by "rd" ($a, $bs,*)) => do { let cs := bs.getElems; `(tactic| simp only [$a:term, $[$cs:term],*, tRet, tSeq, tAsg, gName, tDrop, tIfS, tTest, tB, tAnd, tOr, tNot, tAndV, tOrV, tNotV, tCmp, t2I, tAdd, tSub, tMul, tIsN, tNotN, tC, tVar, tCons, tNil, tCall, tOp, tUn, tCB, tNext, tRetN, tIf, tFld, wipe, tYes, HO.ins.injEq, and_assoc, L2.start, List.map_cons, List.map_nil, List.length_cons, List.length_nil, List.cons_append, List.nil_append, List.append_nil, List.set_cons_zero, List.set_cons_succ, List.replicate, Nat.reduceAdd, Nat.reduceSub, Nat.zero_add, Nat.sub_self, List.getElem?_cons_zero, List.getElem?_cons_succ, Option.some.injEq, V.int.injEq, V.bl.injEq, V.ref.injEq, V.str.injEq, List.cons.injEq, reduceCtorEq, and_true, true_and, and_false, false_and, exists_eq_left, exists_eq_left', exists_eq_right, exists_eq_right', exists_and_left, exists_const, exists_false, exists_eq, if_true, if_false, Bool.false_eq_true, Bool.true_eq_false, cxK, andV, orV, andT, orT, deq, dle, dlt, Bool.not_true, Bool.not_false, decide_true, decide_false, ite_true, ite_false]) }
section
variable {P : Program} {w : World} {K : PySem.W.Frag} {mg : Str → Option Value} {base : Heap}
/-! ### chains -/
def firstP (u r : Nat) (p : Bool) (g : Wm01.Grant) : Bool := g.taker == u && (g.right == r && (!p || g.pass))
theorem leave_ge (p b : Bool) : decide (leaveV p ≤ leaveV b) = (!p || b) := by cases p <;> cases b <;> decide
def spFirstTo (K : PySem.W.Frag) : Sp := fun vs H Q _ => ∃ (l : Addr) (xs : List V) (gs : List Wm01.Grant) (u r : Nat) (p : Bool), vs = [.ref l, .int u, .int r, .int (leaveV p)] ∧ SqL K H l xs ∧ Paired (GrV K H) xs gs ∧
  ∃ g, Wm01.firstTo gs u r p = some g ∧ ∀ v, GrV K H v g → Q v H
theorem cl_first_to (T : TX K mg) : Cl P w K mg base CX0 "first_to" 1 ["grants", "user", "right", "leave"] (spFirstTo K) := by
  refine cl_of (d := d_first_to) T.g_first_to T.u_first_to sc_first_to b_first_to (fun vs H Q E h => ?_) (fun cdv A outer s H vs Q E hr h => ⟨_, PSs.nox (pss_cons (ps_for PassesOwn.never rfl (pi_list (pv 0)) (pg_name (i := 4) sc_first_to.nd rfl (Or.inl rfl)) (pss_one (ps_if (PW.pt (pw_and (pt_cmp (pc_eqI (pe_fld (pv 4) rfl) (pv 1))) (pw_and (pt_cmp (pc_eqI (pe_fld (pv 4) rfl) (pv 2))) (pw_and1 (pt_cmp (pc_ge (pe_fld (pv 4) rfl) (pv 3))))))) (pss_one (ps_ret (pv 4))) pss_nil)))
    (pss_one (ps_ret pe_non))), ?_⟩)
  · obtain ⟨l, xs, gs, u, r, p, rfl, _⟩ := h
    rfl
  · obtain ⟨l, xs, gs, u, r, p, rfl, hS, hp, g0, hf, hQ⟩ := h
    obtain ⟨Pv, hPv⟩ : ∃ Pv : Nat → L2.St → Hp → Prop, ∀ i σ H', Pv i σ H' ↔ ∃ v, σ = [some (.ref l), some (.int u), some (.int r), some (.int (leaveV p)), v] ∧ H' = H ∧ (gs.take i).any (firstP u r p) = false := ⟨_, fun _ _ _ => Iff.rfl⟩
    refine ⟨_, rfl, l, rfl, ⟨_, hS⟩, for_list (K := K) (a := l) (xs := xs) Pv ((hPv _ _ _).mpr ⟨none, rfl, rfl, rfl⟩) (fun i σ H' _ z => by obtain ⟨_, _, rfl, _⟩ := (hPv _ _ _).mp z; exact hS) ?_ ?_⟩
    · intro i x σ H' hi z
      obtain ⟨v, rfl, rfl, hno⟩ := (hPv _ _ _).mp z
      obtain ⟨g, hg, a, rfl, dx, ha⟩ := pr_get hp hi
      have yes : firstP u r p g = true → Q (.ref a) H' := fun hy => by
        refine hQ _ ?_
        have e : gs.find? (firstP u r p) = some g := by
          have h1 : (gs.take i ++ gs.drop i).find? (firstP u r p) = some g := by
            rw [List.find?_append, List.find?_eq_none.mpr (by simpa [List.any_eq_false] using hno)]
            have : gs.drop i = g :: gs.drop (i + 1) := by
              have hlt := (List.getElem?_eq_some_iff.mp hg)
              obtain ⟨hl, e⟩ := hlt
              rw [← e]
              exact List.drop_eq_getElem_cons hl
            rw [this, List.find?_cons_of_pos hy]
            rfl
          rw [List.take_append_drop] at h1
          exact h1
        have e2 : some g0 = some g := hf.symm.trans e
        rw [Option.some.inj e2]
        exact ⟨a, rfl, dx, ha⟩
      have no : firstP u r p g = false → Pv (i + 1) [some (.ref l), some (.int u), some (.int r), some (.int (leaveV p)), some (.ref a)] H' := fun hn =>
        (hPv _ _ _).mpr ⟨some (.ref a), rfl, rfl, by rw [take_more hg, List.any_append, hno]; simp [hn]⟩
      unfold firstP at yes no
      k_call_by "rd" (ha, T.c_Grant, T.n_Grant_right, gF_right, T.n_Grant_taker, gF_taker, T.n_Grant_leave, gF_leave, leave_ge)
      cases c1 : g.taker == u with
      | false => exact if_false_of rfl (no (by rw [c1]; rfl))
      | true =>
        refine if_true_of rfl ?_
        cases c2 : g.right == r with
        | false => exact if_false_of rfl (no (by rw [c1, c2]; rfl))
        | true =>
          refine if_true_of rfl ?_
          cases c3 : (!p || g.pass) with
          | false => exact if_false_of rfl (no (by rw [c1, c2, c3]; rfl))
          | true => exact if_true_of rfl (yes (by rw [c1, c2, c3]; rfl))
    · intro σ H' z
      obtain ⟨v, rfl, rfl, hno⟩ := (hPv _ _ _).mp z
      exfalso
      have e : gs.take xs.length = gs := by rw [pr_len hp, List.take_length]
      rw [e] at hno
      have h1 := List.mem_of_find?_eq_some hf
      have h2 := List.find?_some hf
      exact (List.any_eq_false.mp hno) g0 h1 h2
def spChainTo (K : PySem.W.Frag) : Sp := fun vs H Q _ => ∃ (l : Addr) (xs : List V) (gs : List Wm01.Grant) (u r : Nat), vs = [.ref l, .int u, .int r] ∧ SqL K H l xs ∧ Paired (GrV K H) xs gs ∧ gs.length ≤ 1000 ∧ Stands gs ∧ (gs.any fun g => g.taker == u && g.right == r) = true ∧
  ∀ H' p ys cs, Same H H' → H p = none → H' p = some (.lst ys) → Paired (GrV K H') ys cs → cs.map (·.num) = Wm01.chain gs u r → cs.length ≤ 1000 → Q (.ref p) H'
theorem pr_rev {α β : Type} {F : α → β → Prop} : ∀ {l : List α} {m : List β}, Paired F l m → Paired F l.reverse m.reverse
  | _, _, .nil => .nil
  | a :: l, b :: m, .cons r t => by
    rw [List.reverse_cons, List.reverse_cons]
    exact pr_app (pr_rev t) (.cons r .nil)
theorem cl_chain_to (T : TX K mg) : Cl P w K mg base CX0 "chain_to" 2 ["grants", "user", "right"] (spChainTo K) := by
  have c_first_to : Cl P w K mg base CX0 "first_to" 1 ["grants", "user", "right", "leave"] (spFirstTo K) := cl_first_to T
  refine cl_of (d := d_chain_to) T.g_chain_to T.u_chain_to sc_chain_to b_chain_to (fun vs H Q E h => ?_) (fun cdv A outer s H vs Q E hr h => ⟨_, PSs.nox (pss_cons (ps_set (i := 3) sc_chain_to.nd rfl (Or.inl rfl) (pe_c c_first_to (hr.mono (by omega)) pass0 (pa_cons (pv 0) (pa_cons (pv 1) (pa_cons (pv 2) (pa_cons pe_int pa_nil))))))
    (pss_cons (ps_set (i := 4) sc_chain_to.nd rfl (Or.inl rfl) (pe_lst (pa_cons (pv 3) pa_nil)))
    (pss_cons (ps_while PassesOwn.never (pt_cmp (pc_neI (pe_fld (pv 3) rfl) (pe_gi T.i_HOUSE))) (pss_cons (ps_set (i := 3) sc_chain_to.nd rfl (Or.inl rfl) (pe_c c_first_to (hr.mono (by omega)) pass0 (pa_cons (pv 0) (pa_cons (pe_fld (pv 3) rfl) (pa_cons (pv 2) (pa_cons pe_int pa_nil))))))
    (pss_one (ps_expr (pe_bm PySem.F.plainAttrs_list PySem.F.slot_list_append PySem.F.type_list_append mt_append (pv 4) (pa_cons (pv 3) pa_nil))))))
    (pss_one (ps_ret (pe_listRev rfl rfl T.f_list rfl T.f_reversed (pv 4))))))), ?_⟩)
  · obtain ⟨l, xs, gs, u, r, rfl, _⟩ := h
    rfl
  · obtain ⟨l, xs, gs, u, r, rfl, hS, hp, hn, hst, hany, hQ⟩ := h
    obtain ⟨i0, g0, hf0, hi0, hc0⟩ := chn_first hany
    have hl0 : i0 < gs.length := (List.getElem?_eq_some_iff.mp hi0).1
    walk_at "rd"
    refine ⟨l, xs, gs, u, r, false, rfl, hS, hp, g0, hf0, fun v hv => ?_⟩
    refine ⟨_, rfl, (by show 1 ≤ sizeLine; decide), fun k hk => ?_⟩
    obtain ⟨W, hW⟩ : ∃ W : Nat → L2.St → Hp → Prop, ∀ m σ H', W m σ H' ↔ ∃ pre i g a ys, m = i ∧ σ = [some (.ref l), some (.int u), some (.int r), some (.ref a), some (.ref k)] ∧ Chn gs u r pre i g ∧ GrAt K H' a g ∧ Same H H' ∧ H' k = some (.lst ys) ∧ Paired (GrV K H') ys (pre ++ [g]) ∧ (pre ++ [g]).length + i ≤ gs.length := ⟨_, fun _ _ _ => Iff.rfl⟩
    refine ⟨W, ?_, ?_⟩
    · obtain ⟨a, rfl, dx, ha⟩ := hv
      have ha' := same_upd (o := .lst [.ref a]) hk _ _ ha
      exact ⟨i0, (hW _ _ _).mpr ⟨[], i0, g0, a, [.ref a], rfl, rfl, hc0, ⟨dx, ha'⟩, same_upd hk, upd_same, .cons ⟨a, rfl, dx, ha'⟩ .nil, by show 1 + i0 ≤ gs.length; omega⟩⟩
    · intro m σ H' z
      obtain ⟨pre, i, g, a, ys, rfl, rfl, hc, ha, s', hk', hys, hlen⟩ := (hW _ _ _).mp z
      obtain ⟨dx, ha⟩ := ha
      k_call_by "rd" (ha, T.c_Grant, T.n_Grant_giver, gF_giver)
      by_cases z : g.giver = 0
      · refine if_false_of (by rw [z]; decide) ?_
        have ec := chn_end hc z
        refine ⟨_, rfl, k, ys, rfl, SqL.of hk', fun q hq => ?_⟩
        refine hQ _ q ys.reverse (pre ++ [g]).reverse (s'.trans (same_upd hq)) (s'.free hq) upd_same (grs_mono (same_upd hq) (pr_rev hys)) ?_ ?_
        · rw [List.map_reverse]; exact ec.symm
        · rw [List.length_reverse]; omega
      · refine if_true_of (by
          have : ¬ ((g.giver : Nat) : Int) = 0 := by omega
          simp [z]) ?_
        obtain ⟨j, h, h1, h2, h3, h4⟩ := chn_next hst hc z
        obtain ⟨N, hN⟩ : ∃ N : L2.St → Hp → Prop, ∀ σ' H2, N σ' H2 ↔ ∃ a2 ys2, σ' = [some (.ref l), some (.int u), some (.int r), some (.ref a2), some (.ref k)] ∧ GrAt K H2 a2 h ∧ Same H H2 ∧ H2 k = some (.lst ys2) ∧ Paired (GrV K H2) ys2 ((pre ++ [g]) ++ [h]) := ⟨_, fun _ _ => Iff.rfl⟩
        refine ⟨N, fun σ' H2 z => ?_, ?_⟩
        · obtain ⟨a2, ys2, e1, e2, e3, e4, e5⟩ := (hN _ _).mp z
          refine ⟨j, h3, (hW _ _ _).mpr ⟨pre ++ [g], j, h, a2, ys2, rfl, e1, h4, e2, e3, e4, e5, ?_⟩⟩
          rw [List.length_append, List.length_singleton]; omega
        · refine ⟨l, xs, gs, g.giver, r, true, rfl, s'.seq hS, grs_mono s' hp, h, h1, fun v hv => ?_⟩
          have hv2 := hv.updL (o := .lst (ys ++ [v])) hk'
          obtain ⟨a2, rfl, dx2, ha2⟩ := hv2
          refine ⟨_, rfl, .inl ⟨rfl, _, SqL.of hk'⟩, _, rfl, k, ys, _, rfl, rfl, hk', ?_, ?_⟩
          · rw [pr_len hys]; exact sz1000 (by omega)
          · exact (hN _ _).mpr ⟨a2, ys ++ [.ref a2], rfl, ⟨dx2, ha2⟩, same_upd2 s' hk, upd_same, pr_app (pr_imp hys fun _ _ z => z.updL hk') (.cons ⟨a2, rfl, dx2, ha2⟩ .nil)⟩
/-! ### tickets that somebody has -/
def spHeldBy (K : PySem.W.Frag) : Sp := fun vs H Q _ => ∃ (dt : Addr) (ts : List (Key × V)) (l : List Wm08.Tick) (u : Nat), vs = [.ref dt, .int u] ∧ H dt = some (.dK ts) ∧ Paired (TkE K (less H [dt])) ts l ∧ l.length ≤ 1000 ∧
  ∀ H' p ys, Same H H' → H p = none → H' p = some (.lst ys) → Paired (TkV K H') ys (l.filter fun t => t.holder == u) → Q (.ref p) H'
theorem cl_held_by (T : TX K mg) : Cl P w K mg base CX0 "held_by" 1 ["tickets", "user"] (spHeldBy K) := by
  refine cl_of (d := d_held_by) T.g_held_by T.u_held_by sc_held_by b_held_by (fun vs H Q E h => ?_) (fun cdv A outer s H vs Q E hr h => ⟨_, PSs.nox (pss_one (ps_ret (pe_lock (pe_lc (own := [("ticket", 2)]) (g := gName 2) (tt := tB (tEqI (tFld K (tVar 2) "holder") (tVar 1))) (te := tVar 2) rfl sc_held_by.nd (pi_values (pv 0)) (blkOk_by (N := N_held_by) (sc := defScope s_held_by) (by decide +kernel)) (fun _ _ _ _ _ => pg_name (i := 2) sc_held_by.nd rfl (Or.inl rfl)) (fun _ _ _ _ _ => (pts_one (pt_cmp (pc_eqI (pe_fld (pv 2) rfl) (pv 1))))) (fun _ _ _ _ _ => (pv 2)))))), ?_⟩)
  · obtain ⟨dt, ts, l, u, rfl, _⟩ := h
    rfl
  · obtain ⟨dt, ts, l, u, rfl, hd, hts, hn, hQ⟩ := h
    have hlen : ts.length ≤ 1000 := by rw [pr_len hts]; exact hn
    have lsame : ∀ o, Same (less H [dt]) (upd H dt o) := fun o b x e => by
      obtain ⟨h1, h2⟩ := of_less e
      rw [upd_ne (by simpa using h1)]; exact h2
    refine ⟨dt, .dK ts, hd, trivial, fun od => ?_⟩
    refine ⟨_, rfl, dt, od, ts, rfl, upd_same, fun D hD => ?_⟩
    have nD : D ≠ dt := fun z => by rw [z, upd_same] at hD; cases hD
    have hD0 : H D = none := by rw [upd_ne nD] at hD; exact hD
    refine lc_it walk_values (fun i H' => Same (upd H dt (.frz od (.dK ts))) H' ∧ ∃ ys, H' D = some (.lst ys) ∧ Paired (TkV K (less H [dt])) ys ((l.take i).filter fun t => t.holder == u)) ⟨same_upd hD, [], upd_same, .nil⟩ (fun i H' _ z => z.1 _ _ upd_same) ?_ ?_
    · rintro i x H' H'' hi ⟨s', ys, hy, hys⟩ ⟨rfl, kk, hx⟩
      obtain ⟨t, ht, hk, hv⟩ := pr_get hts hx
      obtain ⟨a, c, zs, ex, ⟨dx, ha⟩, _, _⟩ := id hv
      have ex : x = .ref a := ex
      subst ex
      have ha' := s' _ _ (lsame _ _ _ ha)
      have hl : ys.length ≤ i := by
        rw [pr_len hys]
        exact Nat.le_trans (List.length_filter_le _ _) (by rw [List.length_take]; omega)
      refine ⟨rfl, ?_⟩
      k_call_by "rd" (ha', T.c_Ticket, T.n_Ticket_holder, tF_holder)
      cases c1 : t.holder == u with
      | false =>
        refine if_false_of rfl ⟨s', ys, hy, ?_⟩
        rw [filter_more ht, c1, if_neg Bool.false_ne_true, List.append_nil]
        exact hys
      | true =>
        refine if_true_of rfl ?_
        refine ⟨ys, hy, sz1000 (by omega), same_upd2 s' hD, ys ++ [.ref a], upd_same, ?_⟩
        rw [filter_more ht, c1, if_pos rfl]
        exact pr_app hys (.cons hv .nil)
    · rintro H' ⟨s', ys, hy, hys⟩
      have e : l.take ts.length = l := by rw [pr_len hts, List.take_length]
      rw [e] at hys
      refine ⟨s' _ _ upd_same, hQ _ D ys (fun b o e => ?_) hD0 (by rw [upd_ne nD]; exact hy) (pr_imp hys fun _ _ z => z.mono fun b o e => ?_)⟩
      · by_cases z : b = dt
        · subst z
          rw [upd_same, ← hd]; exact e
        · rw [upd_ne z]
          exact s' _ _ (by rw [upd_ne z]; exact e)
      · obtain ⟨h1, h2⟩ := of_less e
        have z : b ≠ dt := by simpa using h1
        rw [upd_ne z]
        exact s' _ _ (by rw [upd_ne z]; exact h2)
end
end Gh
set_option Elab.async false
set_option linter.all false
set_option maxRecDepth 100000
set_option maxHeartbeats 4000000
namespace Gh
open PySem PySem.Spec PyProof.Rows L2
local macro_rules | `(tactic| walk_at "rd") => `(tactic| simp only [tRet, tSeq, tAsg, gName, tDrop, tIfS, tTest, tB, tAnd, tOr, tNot, tAndV, tOrV, tNotV, tCmp, t2I, tAdd, tSub, tMul, tIsN, tNotN, tC, tVar, tCons, tNil, tCall, tOp, tUn, tCB, tNext, tRetN, tIf, tFld, wipe, tYes, HO.ins.injEq, and_assoc, L2.start, List.map_cons, List.map_nil, List.length_cons, List.length_nil, List.cons_append, List.nil_append, List.append_nil, List.set_cons_zero, List.set_cons_succ, List.replicate, Nat.reduceAdd, Nat.reduceSub, Nat.zero_add, Nat.sub_self, List.getElem?_cons_zero, List.getElem?_cons_succ, Option.some.injEq, V.int.injEq, V.bl.injEq, V.ref.injEq, V.str.injEq, List.cons.injEq, reduceCtorEq, and_true, true_and, and_false, false_and, exists_eq_left, exists_eq_left', exists_eq_right, exists_eq_right', exists_and_left, exists_const, exists_false, exists_eq, if_true, if_false, Bool.false_eq_true, Bool.true_eq_false, cxK, andV, orV, andT, orT, deq, dle, dlt, Bool.not_true, Bool.not_false, decide_true, decide_false, ite_true, ite_false])
local macro_rules | `(tactic| k_call_by "rd" ($a, $bs,*)) => do { let cs := bs.getElems; `(tactic| simp only [$a:term, $[$cs:term],*, tRet, tSeq, tAsg, gName, tDrop, tIfS, tTest, tB, tAnd, tOr, tNot, tAndV, tOrV, tNotV, tCmp, t2I, tAdd, tSub, tMul, tIsN, tNotN, tC, tVar, tCons, tNil, tCall, tOp, tUn, tCB, tNext, tRetN, tIf, tFld, wipe, tYes, HO.ins.injEq, and_assoc, L2.start, List.map_cons, List.map_nil, List.length_cons, List.length_nil, List.cons_append, List.nil_append, List.append_nil, List.set_cons_zero, List.set_cons_succ, List.replicate, Nat.reduceAdd, Nat.reduceSub, Nat.zero_add, Nat.sub_self, List.getElem?_cons_zero, List.getElem?_cons_succ, Option.some.injEq, V.int.injEq, V.bl.injEq, V.ref.injEq, V.str.injEq, List.cons.injEq, reduceCtorEq, and_true, true_and, and_false, false_and, exists_eq_left, exists_eq_left', exists_eq_right, exists_eq_right', exists_and_left, exists_const, exists_false, exists_eq, if_true, if_false, Bool.false_eq_true, Bool.true_eq_false, cxK, andV, orV, andT, orT, deq, dle, dlt, Bool.not_true, Bool.not_false, decide_true, decide_false, ite_true, ite_false]) }
section
variable {P : Program} {w : World} {K : PySem.W.Frag} {mg : Str → Option Value} {base : Heap}
/-! ### what is told -/
def Tells (H : Hp) (ans : List Int) (Q : VK) : Prop := ∀ H' p, Same H H' → H p = none → H' p = some (.lst (ans.map V.int)) → Q (.ref p) H'
theorem Tells.later {H H1 : Hp} {ans : List Int} {Q : VK} (h : Tells H ans Q) (s : Same H H1) : Tells H1 ans Q := fun H' p s' hp e => h H' p (s.trans s') (s.free hp) e
theorem ints_nats (l : List Nat) : (Wm08.ints l).map V.int = nats l := by
  unfold Wm08.ints nats
  rw [List.map_map]
  rfl
theorem Tells.one {H : Hp} {x : Int} {Q : VK} (h : Tells H [x] Q) : tLst (tCons (tC (.int x)) tNil) [] H Q := ⟨by show 1 ≤ sizeLine; decide, fun p hp => h _ p (same_upd hp) hp upd_same⟩
def spCounted : Sp := fun vs H Q _ => ∃ (l : Addr) (ns : List Nat), vs = [.ref l] ∧ H l = some (.lst (nats ns)) ∧ ns.length ≤ 1000 ∧ Tells H (Wm08.told ns) Q
theorem cl_counted (T : TX K mg) : Cl P w K mg base CX0 "counted" 1 ["numbers"] spCounted := by
  refine cl_of (d := d_counted) T.g_counted T.u_counted sc_counted b_counted (fun vs H Q E h => ?_) (fun cdv A outer s H vs Q E hr h => ⟨_, PSs.nox (pss_one (ps_ret (pe_op op_cat (pe_lst (pa_cons (pe_callB cr_lenS (by rfl) T.f_len PySem.boot_len (pa_cons (pv 0) pa_nil)) pa_nil)) (pv 0)))), ?_⟩)
  · obtain ⟨l, ns, rfl, _⟩ := h
    rfl
  · obtain ⟨l, ns, rfl, hl, hn, hQ⟩ := h
    refine ⟨_, rfl, l, _, rfl, .inl (SqL.of hl), by show 1 ≤ sizeLine; decide, fun p hp => ?_⟩
    have s1 := same_upd (o := .lst [.int ((nats ns).length : Nat)]) hp
    refine ⟨_, rfl, p, l, _, _, rfl, rfl, upd_same, s1 _ _ hl, ?_, fun q hq => ?_⟩
    · rw [nats_len]; exact Nat.le_of_lt (sz1000 (by show 1 + ns.length ≤ 100000; omega))
    · refine hQ _ q (s1.trans (same_upd hq)) (s1.free hq) ?_
      rw [upd_same]
      unfold Wm08.told
      rw [ints_nats, nats_len]
      rfl
def spTellMay (K : PySem.W.Frag) : Sp := fun vs H Q _ => ∃ (d : Ad) (s : Wm08.State) (k u r n : Nat) (l : Addr) (q : List Nat), vs = [.ref d.h, .int u, .int r, .int n, .ref l] ∧ HsAt K H d s ∧ Good s k ∧ k ≤ 60 ∧ SqL K H l (nats q) ∧ q.length ≤ 1000 ∧ Tells H (Wm08.asked s u r n q) Q
theorem flag_if (b : Bool) : (if b = true then (1 : Int) else 0) = ((Wm08.flag b : Nat) : Int) := by cases b <;> rfl
theorem cl_tell_may (T : TX K mg) : Cl P w K mg base CX0 "tell_may" 26 ["house", "user", "door", "ticket_number", "values"] (spTellMay K) := by
  have c_is_asked_rightly : Cl P w K mg base CX0 "is_asked_rightly" 2 ["user", "door", "values"] (spAsked K) := cl_is_asked_rightly T
  have c_may_open : Cl P w K mg base CX0 "may_open" 25 ["house", "user", "door", "ticket_number", "values"] (spMayOpen K) := cl_may_open T
  have c_has_entry : Cl P w K mg base CX0 "has_entry" 4 ["house", "user", "door", "ticket_number", "values"] (spHasEntry K) := cl_has_entry T
  have c_permits : Cl P w K mg base CX0 "permits" 24 ["house", "door", "values"] (spPermits K) := cl_permits T
  have c_allowers : Cl P w K mg base CX0 "allowers" 2 ["house", "user", "door"] (spAllowers K) := cl_allowers T
  refine cl_of (d := d_tell_may) T.g_tell_may T.u_tell_may sc_tell_may b_tell_may (fun vs H Q E h => ?_) (fun cdv A outer s H vs Q E hr h => ⟨_, PSs.nox (pss_cons (ps_if (pt_not (pt_val (pe_c c_is_asked_rightly (hr.mono (by omega)) pass0 (pa_cons (pv 1) (pa_cons (pv 2) (pa_cons (pv 4) pa_nil)))))) (pss_one (ps_ret (pe_lst (pa_cons (pe_gi T.i_WRONG) pa_nil)))) pss_nil)
    (pss_one (ps_ret (pe_lst (pa_cons (pe_callTy call_int1 (by rfl) T.f_int (by decide +kernel) (pa_cons (pe_c c_may_open (hr.mono (by omega)) pass0 (pa_cons (pv 0) (pa_cons (pv 1) (pa_cons (pv 2) (pa_cons (pv 3) (pa_cons (pv 4) pa_nil)))))) pa_nil)) (pa_cons (pe_callTy call_int1 (by rfl) T.f_int (by decide +kernel) (pa_cons (pe_c c_has_entry (hr.mono (by omega)) pass0 (pa_cons (pv 0) (pa_cons (pv 1) (pa_cons (pv 2) (pa_cons (pv 3) (pa_cons (pv 4) pa_nil)))))) pa_nil)) (pa_cons (pe_callTy call_int1 (by rfl) T.f_int (by decide +kernel) (pa_cons (pe_c c_permits (hr.mono (by omega)) pass0 (pa_cons (pv 0) (pa_cons (pv 2) (pa_cons (pv 4) pa_nil)))) pa_nil)) (pa_cons (pe_callB cr_lenS (by rfl) T.f_len PySem.boot_len (pa_cons (pe_c c_allowers (hr.mono (by omega)) pass0 (pa_cons (pv 0) (pa_cons (pv 1) (pa_cons (pv 2) pa_nil)))) pa_nil)) pa_nil)))))))), ?_⟩)
  · obtain ⟨d, s, k, u, r, n, l, q, rfl, _⟩ := h
    rfl
  · obtain ⟨d, s, k, u, r, n, l, q, rfl, hs, g, hk, hl, hn, hQ⟩ := h
    unfold Wm08.asked at hQ
    walk_at "rd"
    refine ⟨u, r, l, q, rfl, hl, hn, fun H1 s1 => ?_⟩
    walk_at "rd"
    cases c1 : askR u r q with
    | false =>
      rw [if_pos (askR_false.mp c1)] at hQ
      exact if_true_of rfl ⟨by show 1 ≤ sizeLine; decide, fun p hp => hQ _ p (s1.trans (same_upd hp)) (s1.free hp) upd_same⟩
    | true =>
      obtain ⟨hu, hr', hq⟩ := askR_true c1
      have nf : ¬ (Wm01.isUser u = false ∨ Wm01.isRight r = false ∨ Wm08.isRequest q = false) := fun z => by rw [askR_false.mpr z] at c1; cases c1
      rw [if_neg nf] at hQ
      refine if_false_of rfl ?_
      refine ⟨_, rfl, _, rfl, _, rfl, _, rfl, _, rfl, d, s, k, u, r, n, l, q, rfl, hs.same s1, g, hk, hu, hr', s1.seq hl, hq, fun H2 s2 => .inr ⟨_, rfl, ?_⟩⟩
      have s02 := s1.trans s2
      refine ⟨_, rfl, _, rfl, _, rfl, _, rfl, _, rfl, d, s, k, u, r, n, l, q, rfl, hs.same s02, g, hk, hu, s02.seq hl, hq, fun H3 s3 => .inr ⟨_, rfl, ?_⟩⟩
      have s03 := s02.trans s3
      refine ⟨_, rfl, _, rfl, _, rfl, d, s, r, l, q, rfl, hs.same s03, hr', s03.seq hl, hq, fun H4 s4 => .inr ⟨_, rfl, ?_⟩⟩
      have s04 := s03.trans s4
      refine ⟨_, rfl, _, rfl, _, rfl, d, s, k, u, r, rfl, hs.same s04, g, hk, hr', fun H5 p s5 hp hy => ⟨p, _, rfl, .inl (SqL.of hy), by show 4 ≤ sizeLine; decide, fun o ho => ?_⟩⟩
      have s05 := s04.trans s5
      refine hQ _ o (s05.trans (same_upd ho)) (s05.free ho) ?_
      rw [upd_same, flag_if, flag_if, flag_if, nats_len]
      rfl
def spTellWas (K : PySem.W.Frag) : Sp := fun vs H Q _ => ∃ (L : Addr) (ls : List V) (lg : Wm08.Log) (m u r n : Nat) (l : Addr) (q : List Nat), vs = [.ref L, .int m, .int u, .int r, .int n, .ref l] ∧ LogAt K H L ls lg ∧ SqL K H l (nats q) ∧ q.length ≤ 1000 ∧ Tells H (if lg.length < m then [-2] else Wm08.asked (Wm08.stateOf (lg.take m)) u r n q) Q
theorem cl_tell_was (T : TX K mg) : Cl P w K mg base CX0 "tell_was" 29 ["log", "moment", "user", "door", "ticket_number", "values"] (spTellWas K) := by
  have c_tell_may : Cl P w K mg base CX0 "tell_may" 26 ["house", "user", "door", "ticket_number", "values"] (spTellMay K) := cl_tell_may T
  have c_house_at : Cl P w K mg base CX0 "house_at" 28 ["log", "moment"] (spHouseAt K) := cl_house_at T
  refine cl_of (d := d_tell_was) T.g_tell_was T.u_tell_was sc_tell_was b_tell_was (fun vs H Q E h => ?_) (fun cdv A outer s H vs Q E hr h => ⟨_, PSs.nox (pss_cons (ps_if (pt_cmp (pc_gt (pv 1) (pe_callB cr_lenS (by rfl) T.f_len PySem.boot_len (pa_cons (pv 0) pa_nil)))) (pss_one (ps_ret (pe_lst (pa_cons (pe_gi T.i_UNKNOWN) pa_nil)))) pss_nil)
    (pss_one (ps_ret (pe_c c_tell_may (hr.mono (by omega)) pass0 (pa_cons (pe_c c_house_at (hr.mono (by omega)) pass0 (pa_cons (pv 0) (pa_cons (pv 1) pa_nil))) (pa_cons (pv 2) (pa_cons (pv 3) (pa_cons (pv 4) (pa_cons (pv 5) pa_nil))))))))), ?_⟩)
  · obtain ⟨L, ls, lg, m, u, r, n, l, q, rfl, _⟩ := h
    rfl
  · obtain ⟨L, ls, lg, m, u, r, n, l, q, rfl, hL, hl, hn, hQ⟩ := h
    walk_at "rd"
    refine lenS hL.sq ?_
    rw [pr_len hL.cs]
    walk_at "rd"
    by_cases c : lg.length < m
    · rw [if_pos c] at hQ
      exact if_true_of (decide_eq_true (by omega)) ⟨by show 1 ≤ sizeLine; decide, fun p hp => hQ _ p (same_upd hp) hp upd_same⟩
    · rw [if_neg c] at hQ
      refine if_false_of (decide_eq_false (by omega)) ?_
      have h60 := hL.len
      refine ⟨L, ls, lg, m, rfl, hL, by omega, fun H1 d s1 hs g => ?_⟩
      exact ⟨d, _, m, u, r, n, l, q, rfl, hs, g, by omega, s1.seq hl, hn, hQ.later s1⟩
def spTellHang (K : PySem.W.Frag) : Sp := fun vs H Q _ => ∃ (L : Addr) (ls : List V) (h : Wm08.House) (n : Nat), vs = [.ref L, .int n] ∧ LogAt K H L ls h.log ∧ HOk h ∧ Tells H (if n = 0 ∨ h.log.length < n then [-2] else Wm08.told (Wm08.hang h.log n)) Q
theorem cl_tell_hang (T : TX K mg) : Cl P w K mg base CX0 "tell_hang" 30 ["log", "number"] (spTellHang K) := by
  have c_hanging_on : Cl P w K mg base CX0 "hanging_on" 29 ["log", "left_out"] (spHangingOn K) := cl_hanging_on T
  have c_counted : Cl P w K mg base CX0 "counted" 1 ["numbers"] spCounted := cl_counted T
  refine cl_of (d := d_tell_hang) T.g_tell_hang T.u_tell_hang sc_tell_hang b_tell_hang (fun vs H Q E h => ?_) (fun cdv A outer s H vs Q E hr h => ⟨_, PSs.nox (pss_cons (ps_if (PW.pt (pw_or (pt_cmp (pc_eqI (pv 1) pe_int)) (pw_or1 (pt_cmp (pc_gt (pv 1) (pe_callB cr_lenS (by rfl) T.f_len PySem.boot_len (pa_cons (pv 0) pa_nil))))))) (pss_one (ps_ret (pe_lst (pa_cons (pe_gi T.i_UNKNOWN) pa_nil)))) pss_nil)
    (pss_one (ps_ret (pe_c c_counted (hr.mono (by omega)) pass0 (pa_cons (pe_c c_hanging_on (hr.mono (by omega)) pass0 (pa_cons (pv 0) (pa_cons (pv 1) pa_nil))) pa_nil))))), ?_⟩)
  · obtain ⟨L, ls, h, n, rfl, _⟩ := h
    rfl
  · obtain ⟨L, ls, h, n, rfl, hL, hh, hQ⟩ := h
    have one : Tells H [-2] Q → tRet (tLst (tCons (tC (.int (-2))) tNil)) { nx := fun _ H' => Q .non H', rt := Q } [some (V.ref L), some (V.int n)] H := fun z => ⟨by show 1 ≤ sizeLine; decide, fun p hp => z _ p (same_upd hp) hp upd_same⟩
    have h60 := hL.len
    walk_at "rd"
    by_cases c0 : n = 0
    · rw [if_pos (.inl c0)] at hQ
      exact if_true_of (by rw [c0]; rfl) (one hQ)
    · refine if_false_of (decide_eq_false (by omega)) (lenS hL.sq ?_)
      rw [pr_len hL.cs]
      walk_at "rd"
      by_cases c : h.log.length < n
      · rw [if_pos (.inr c)] at hQ
        exact if_true_of (decide_eq_true (by omega)) (one hQ)
      · rw [if_neg (by rintro (z | z) <;> contradiction)] at hQ
        refine if_false_of (decide_eq_false (by omega)) ?_
        refine ⟨L, ls, h, n, rfl, hL, hh, fun H1 p s1 hp hy => ?_⟩
        refine ⟨p, _, rfl, hy, ?_, hQ.later s1⟩
        rw [hang_eq hh]
        exact Nat.le_trans (List.length_filter_le _ _) (Nat.le_trans (opens_len _) (by omega))
def spTellOpened (K : PySem.W.Frag) : Sp := fun vs H Q _ => ∃ (L : Addr) (ls : List V) (h : Wm08.House), vs = [.ref L] ∧ LogAt K H L ls h.log ∧ HOk h ∧ Tells H (Wm08.told h.state.opened) Q
theorem cl_tell_opened (T : TX K mg) : Cl P w K mg base CX0 "tell_opened" 2 ["log"] (spTellOpened K) := by
  have c_openings_in : Cl P w K mg base CX0 "openings_in" 1 ["log"] (spOpeningsIn K) := cl_openings_in T
  have c_counted : Cl P w K mg base CX0 "counted" 1 ["numbers"] spCounted := cl_counted T
  refine cl_of (d := d_tell_opened) T.g_tell_opened T.u_tell_opened sc_tell_opened b_tell_opened (fun vs H Q E h => ?_) (fun cdv A outer s H vs Q E hr h => ⟨_, PSs.nox (pss_one (ps_ret (pe_c c_counted (hr.mono (by omega)) pass0 (pa_cons (pe_c c_openings_in (hr.mono (by omega)) pass0 (pa_cons (pv 0) pa_nil)) pa_nil)))), ?_⟩)
  · obtain ⟨L, ls, h, rfl, _⟩ := h
    rfl
  · obtain ⟨L, ls, h, rfl, hL, hh, hQ⟩ := h
    have h60 := hL.len
    rw [opened_eq hh] at hQ
    refine ⟨_, rfl, L, ls, h.log, rfl, hL, fun H1 p s1 hp hy => ⟨p, _, rfl, hy, Nat.le_trans (opens_len _) (by omega), hQ.later s1⟩⟩
def spTellAllowers (K : PySem.W.Frag) : Sp := fun vs H Q _ => ∃ (d : Ad) (s : Wm08.State) (k u r : Nat), vs = [.ref d.h, .int u, .int r] ∧ HsAt K H d s ∧ Good s k ∧ k ≤ 60 ∧ Tells H (if Wm01.isUser u = false ∨ Wm01.isRight r = false then [-1] else Wm08.told (Wm08.allowers s u r)) Q
theorem allow_len (s : Wm08.State) (u r : Nat) : (Wm08.allowers s u r).length ≤ 12 := by
  unfold Wm08.allowers
  exact Nat.le_trans (List.length_filter_le _ _) (by simp)
theorem cl_tell_allowers (T : TX K mg) : Cl P w K mg base CX0 "tell_allowers" 3 ["house", "user", "door"] (spTellAllowers K) := by
  have c_is_user : Cl P w K mg base CX0 "is_user" 1 ["number"] spIsUser := cl_is_user T
  have c_is_door : Cl P w K mg base CX0 "is_door" 1 ["number"] spIsDoor := cl_is_door T
  have c_allowers : Cl P w K mg base CX0 "allowers" 2 ["house", "user", "door"] (spAllowers K) := cl_allowers T
  have c_counted : Cl P w K mg base CX0 "counted" 1 ["numbers"] spCounted := cl_counted T
  refine cl_of (d := d_tell_allowers) T.g_tell_allowers T.u_tell_allowers sc_tell_allowers b_tell_allowers (fun vs H Q E h => ?_) (fun cdv A outer s H vs Q E hr h => ⟨_, PSs.nox (pss_cons (ps_if (pt_not (PW.pt (pw_and (pt_val (pe_c c_is_user (hr.mono (by omega)) pass0 (pa_cons (pv 1) pa_nil))) (pw_and1 (pt_val (pe_c c_is_door (hr.mono (by omega)) pass0 (pa_cons (pv 2) pa_nil))))))) (pss_one (ps_ret (pe_lst (pa_cons (pe_gi T.i_WRONG) pa_nil)))) pss_nil)
    (pss_one (ps_ret (pe_c c_counted (hr.mono (by omega)) pass0 (pa_cons (pe_c c_allowers (hr.mono (by omega)) pass0 (pa_cons (pv 0) (pa_cons (pv 1) (pa_cons (pv 2) pa_nil)))) pa_nil))))), ?_⟩)
  · obtain ⟨d, s, k, u, r, rfl, _⟩ := h
    rfl
  · obtain ⟨d, s, k, u, r, rfl, hs, g, hk, hQ⟩ := h
    have one : Tells H [-1] Q → tLst (tCons (tC (.int (-1))) tNil) [some (V.ref d.h), some (V.int u), some (V.int r)] H Q := fun z => ⟨by show 1 ≤ sizeLine; decide, fun p hp => z _ p (same_upd hp) hp upd_same⟩
    walk_at "rd"
    refine ⟨u, rfl, ?_⟩
    walk_at "rd"
    cases c1 : Wm01.isUser u with
    | false =>
      rw [if_pos (.inl c1)] at hQ
      exact if_false_of rfl (one hQ)
    | true =>
      refine if_true_of rfl ⟨r, rfl, ?_⟩
      walk_at "rd"
      cases c2 : Wm01.isRight r with
      | false =>
        rw [if_pos (.inr c2)] at hQ
        exact if_true_of rfl (one hQ)
      | true =>
        rw [c1, c2, if_neg (by simp)] at hQ
        refine if_false_of rfl ?_
        refine ⟨d, s, k, u, r, rfl, hs, g, hk, c2, fun H1 p s1 hp hy => ⟨p, _, rfl, hy, by have := allow_len s u r; omega, hQ.later s1⟩⟩
def spTellChain (K : PySem.W.Frag) : Sp := fun vs H Q _ => ∃ (d : Ad) (s : Wm08.State) (k u r : Nat), vs = [.ref d.h, .int u, .int r] ∧ HsAt K H d s ∧ Good s k ∧ k ≤ 60 ∧ Tells H (if Wm01.isUser u = false ∨ Wm01.isRight r = false then [-1] else if Wm01.has s.grants u r = 0 then [-3] else Wm08.told (Wm01.chain s.grants u r)) Q
theorem share_any {l : List Wm01.Grant} {u r : Nat} (h : share l u r ≠ 0) : (l.any fun g => g.taker == u && g.right == r) = true := by
  unfold share at h
  by_cases c : (l.any fun g => g.taker == u && (g.right == r && g.pass)) = true
  · obtain ⟨g, hg, e⟩ := List.any_eq_true.mp c
    simp only [Bool.and_eq_true] at e
    exact List.any_eq_true.mpr ⟨g, hg, by simp only [Bool.and_eq_true]; exact ⟨e.1, e.2.1⟩⟩
  · rw [if_neg c] at h
    by_cases d : (l.any fun g => g.taker == u && g.right == r) = true
    · exact d
    · rw [if_neg d] at h
      exact absurd rfl h
theorem cl_tell_chain (T : TX K mg) : Cl P w K mg base CX0 "tell_chain" 3 ["house", "user", "right"] (spTellChain K) := by
  have c_is_user : Cl P w K mg base CX0 "is_user" 1 ["number"] spIsUser := cl_is_user T
  have c_is_door : Cl P w K mg base CX0 "is_door" 1 ["number"] spIsDoor := cl_is_door T
  have c_share : Cl P w K mg base CX0 "share" 1 ["grants", "user", "right"] (spShare K) := cl_share T
  have c_chain_to : Cl P w K mg base CX0 "chain_to" 2 ["grants", "user", "right"] (spChainTo K) := cl_chain_to T
  have c_counted : Cl P w K mg base CX0 "counted" 1 ["numbers"] spCounted := cl_counted T
  refine cl_of (d := d_tell_chain) T.g_tell_chain T.u_tell_chain sc_tell_chain b_tell_chain (fun vs H Q E h => ?_) (fun cdv A outer s H vs Q E hr h => ⟨_, PSs.nox (pss_cons (ps_if (pt_not (PW.pt (pw_and (pt_val (pe_c c_is_user (hr.mono (by omega)) pass0 (pa_cons (pv 1) pa_nil))) (pw_and1 (pt_val (pe_c c_is_door (hr.mono (by omega)) pass0 (pa_cons (pv 2) pa_nil))))))) (pss_one (ps_ret (pe_lst (pa_cons (pe_gi T.i_WRONG) pa_nil)))) pss_nil)
    (pss_cons (ps_if (pt_cmp (pc_eqI (pe_c c_share (hr.mono (by omega)) pass0 (pa_cons (pe_fld (pv 0) rfl) (pa_cons (pv 1) (pa_cons (pv 2) pa_nil)))) pe_int)) (pss_one (ps_ret (pe_lst (pa_cons (pe_gi T.i_NO_GRANT) pa_nil)))) pss_nil)
    (pss_one (ps_ret (pe_c c_counted (hr.mono (by omega)) pass0 (pa_cons (pe_lc (own := [("grant", 3)]) (g := gName 3) (tt := tYes) (te := tFld K (tVar 3) "number") rfl sc_tell_chain.nd (pi_list (pe_c c_chain_to (hr.mono (by omega)) pass0 (pa_cons (pe_fld (pv 0) rfl) (pa_cons (pv 1) (pa_cons (pv 2) pa_nil))))) (blkOk_by (N := N_tell_chain) (sc := defScope s_tell_chain) (by decide +kernel)) (fun _ _ _ _ _ => pg_name (i := 3) sc_tell_chain.nd rfl (Or.inl rfl)) (fun _ _ _ _ _ => pts_nil) (fun _ _ _ _ _ => (pe_fld (pv 3) rfl))) pa_nil)))))), ?_⟩)
  · obtain ⟨d, s, k, u, r, rfl, _⟩ := h
    rfl
  · obtain ⟨d, s, k, u, r, rfl, hs, g, hk, hQ⟩ := h
    have one : ∀ {H x}, Tells H [x] Q → tLst (tCons (tC (.int x)) tNil) [some (V.ref d.h), some (V.int u), some (V.int r), none] H Q := fun z => ⟨by show 1 ≤ sizeLine; decide, fun p hp => z _ p (same_upd hp) hp upd_same⟩
    walk_at "rd"
    refine ⟨u, rfl, ?_⟩
    walk_at "rd"
    cases c1 : Wm01.isUser u with
    | false =>
      rw [if_pos (.inl c1)] at hQ
      exact if_false_of rfl (one hQ)
    | true =>
      refine if_true_of rfl ⟨r, rfl, ?_⟩
      walk_at "rd"
      cases c2 : Wm01.isRight r with
      | false =>
        rw [if_pos (.inr c2)] at hQ
        exact if_true_of rfl (one hQ)
      | true =>
        rw [c1, c2, if_neg (by simp), share_has (user_ne c1)] at hQ
        refine if_false_of rfl ?_
        have hh := hs.hh
        obtain ⟨xs, g1, g2, g3⟩ := hs.grants g hk
        k_call_by "rd" (hh, T.c_House, T.n_House_grants, hF_grants)
        refine ⟨d.g, xs, _, u, r, rfl, g1, g2, g3, fun H1 s1 => ?_⟩
        walk_at "rd"
        by_cases c3 : share s.grants u r = 0
        · rw [if_pos c3] at hQ
          exact if_true_of (by rw [c3]; rfl) (one (hQ.later s1))
        · rw [if_neg c3] at hQ
          refine if_false_of (decide_eq_false (by omega)) ?_
          have hs1 := hs.same s1
          obtain ⟨xs1, g1, g2, g3⟩ := hs1.grants g hk
          refine ⟨_, rfl, d.h, _, d.hx, _, _, rfl, hs1.hh, T.c_House, T.n_House_grants, hF_grants _ _ _ _ _, _, rfl, _, rfl, d.g, xs1, _, u, r, rfl, g1, g2, g3, g.st, share_any c3, fun H2 p ys cs s2 hp hy hys hcs hlen => ?_⟩
          refine ⟨p, rfl, ⟨_, SqL.of hy⟩, fun D hD => ?_⟩
          refine lc_rows (R := GrV K H2) (S := fun y c => y = V.int (c.num : Nat)) (SqL.of hy) hys (by rw [pr_len hys]; omega) (fun _ => true) hD (fun x => rfl) ?_ ?_ ?_
          · rintro x c _ hx H' s' R hR
            exact hR _ (Same.refl _)
          · rintro x c _ ⟨a, rfl, dx, ha⟩ _ H' s' R hR
            have ha' := s' _ _ ha
            k_call_by "rd" (ha', T.c_Grant, T.n_Grant_number, gF_number)
            exact hR _ _ rfl (Same.refl _)
          · intro zs H3 hzs s3 hd
            have e := pr_map hzs
            rw [List.filter_eq_self.mpr (fun _ _ => rfl)] at e
            have e2 : zs = nats (Wm01.chain s.grants u r) := by
              rw [← hcs, e]
              unfold nats
              rw [List.map_map]
              rfl
            rw [e2] at hd
            refine ⟨D, _, rfl, hd, ?_, hQ.later (s1.trans (s2.trans s3))⟩
            rw [← hcs, List.length_map]; exact hlen
end
end Gh
set_option Elab.async false
set_option linter.all false
set_option maxRecDepth 100000
set_option maxHeartbeats 4000000
namespace Gh
open PySem PySem.Spec PyProof.Rows L2
local macro_rules | `(tactic| walk_at "rd") => `(tactic| simp only [tRet, tSeq, tAsg, gName, tDrop, tIfS, tTest, tB, tAnd, tOr, tNot, tAndV, tOrV, tNotV, tCmp, t2I, tAdd, tSub, tMul, tIsN, tNotN, tC, tVar, tCons, tNil, tCall, tOp, tUn, tCB, tNext, tRetN, tIf, tFld, wipe, tYes, HO.ins.injEq, and_assoc, L2.start, List.map_cons, List.map_nil, List.length_cons, List.length_nil, List.cons_append, List.nil_append, List.append_nil, List.set_cons_zero, List.set_cons_succ, List.replicate, Nat.reduceAdd, Nat.reduceSub, Nat.zero_add, Nat.sub_self, List.getElem?_cons_zero, List.getElem?_cons_succ, Option.some.injEq, V.int.injEq, V.bl.injEq, V.ref.injEq, V.str.injEq, List.cons.injEq, reduceCtorEq, and_true, true_and, and_false, false_and, exists_eq_left, exists_eq_left', exists_eq_right, exists_eq_right', exists_and_left, exists_const, exists_false, exists_eq, if_true, if_false, Bool.false_eq_true, Bool.true_eq_false, cxK, andV, orV, andT, orT, deq, dle, dlt, Bool.not_true, Bool.not_false, decide_true, decide_false, ite_true, ite_false])
local macro_rules | `(tactic| k_call_by "rd" ($a, $bs,*)) => do { let cs := bs.getElems; `(tactic| simp only [$a:term, $[$cs:term],*, tRet, tSeq, tAsg, gName, tDrop, tIfS, tTest, tB, tAnd, tOr, tNot, tAndV, tOrV, tNotV, tCmp, t2I, tAdd, tSub, tMul, tIsN, tNotN, tC, tVar, tCons, tNil, tCall, tOp, tUn, tCB, tNext, tRetN, tIf, tFld, wipe, tYes, HO.ins.injEq, and_assoc, L2.start, List.map_cons, List.map_nil, List.length_cons, List.length_nil, List.cons_append, List.nil_append, List.append_nil, List.set_cons_zero, List.set_cons_succ, List.replicate, Nat.reduceAdd, Nat.reduceSub, Nat.zero_add, Nat.sub_self, List.getElem?_cons_zero, List.getElem?_cons_succ, Option.some.injEq, V.int.injEq, V.bl.injEq, V.ref.injEq, V.str.injEq, List.cons.injEq, reduceCtorEq, and_true, true_and, and_false, false_and, exists_eq_left, exists_eq_left', exists_eq_right, exists_eq_right', exists_and_left, exists_const, exists_false, exists_eq, if_true, if_false, Bool.false_eq_true, Bool.true_eq_false, cxK, andV, orV, andT, orT, deq, dle, dlt, Bool.not_true, Bool.not_false, decide_true, decide_false, ite_true, ite_false]) }
theorem flat_more {α : Type} {f : α → List Nat} {l : List α} {i : Nat} {x : α} (h : l[i]? = some x) : (l.take (i + 1)).flatMap f = (l.take i).flatMap f ++ f x := by
  rw [take_more h, List.flatMap_append]
  simp
theorem flat_len {α : Type} {f : α → List Nat} {c : Nat} : ∀ (l : List α), (∀ x ∈ l, (f x).length ≤ c) → (l.flatMap f).length ≤ c * l.length
  | [], _ => Nat.zero_le _
  | x :: l, h => by
    have h1 := h x List.mem_cons_self
    have h2 := flat_len l fun y hy => h y (List.mem_cons_of_mem _ hy)
    rw [List.flatMap_cons, List.length_append, List.length_cons, Nat.mul_succ]
    omega
theorem nats_app (l m : List Nat) : nats (l ++ m) = nats l ++ nats m := by unfold nats; rw [List.map_append]
section
variable {P : Program} {w : World} {K : PySem.W.Frag} {mg : Str → Option Value} {base : Heap}
def growG (g : Wm01.Grant) : List Nat := [g.num, g.giver, g.taker, Wm08.flag g.pass]
theorem leave_flag (b : Bool) : leaveV b = ((Wm08.flag b : Nat) : Int) := by cases b <;> rfl
def spTellGrants (K : PySem.W.Frag) : Sp := fun vs H Q _ => ∃ (d : Ad) (s : Wm08.State) (k r : Nat), vs = [.ref d.h, .int r] ∧ HsAt K H d s ∧ Good s k ∧ k ≤ 60 ∧
  Tells H (if Wm01.isRight r = false then [-1] else ((s.grants.filter fun g => g.right == r).length : Int) :: Wm08.ints ((s.grants.filter fun g => g.right == r).flatMap fun g => [g.num, g.giver, g.taker, Wm08.flag g.pass])) Q
theorem cl_tell_grants (T : TX K mg) : Cl P w K mg base CX0 "tell_grants" 2 ["house", "right"] (spTellGrants K) := by
  have c_is_door : Cl P w K mg base CX0 "is_door" 1 ["number"] spIsDoor := cl_is_door T
  have c_of_right : Cl P w K mg base CX0 "of_right" 1 ["grants", "right"] (spOfRight K) := cl_of_right T
  refine cl_of (d := d_tell_grants) T.g_tell_grants T.u_tell_grants sc_tell_grants b_tell_grants (fun vs H Q E h => ?_) (fun cdv A outer s H vs Q E hr h => ⟨_, PSs.nox (pss_cons (ps_if (pt_not (pt_val (pe_c c_is_door (hr.mono (by omega)) pass0 (pa_cons (pv 1) pa_nil)))) (pss_one (ps_ret (pe_lst (pa_cons (pe_gi T.i_WRONG) pa_nil)))) pss_nil)
    (pss_cons (ps_set (i := 2) sc_tell_grants.nd rfl (Or.inl rfl) (pe_c c_of_right (hr.mono (by omega)) pass0 (pa_cons (pe_fld (pv 0) rfl) (pa_cons (pv 1) pa_nil))))
    (pss_cons (ps_set (i := 3) sc_tell_grants.nd rfl (Or.inl rfl) (pe_lst (pa_cons (pe_callB cr_lenS (by rfl) T.f_len PySem.boot_len (pa_cons (pv 2) pa_nil)) pa_nil)))
    (pss_cons (ps_for PassesOwn.never rfl (pi_list (pv 2)) (pg_name (i := 4) sc_tell_grants.nd rfl (Or.inl rfl)) (pss_one (ps_expr (pe_bm PySem.F.plainAttrs_list PySem.F.slot_list_extend PySem.F.type_list_extend mt_extend (pv 3) (pa_cons (pe_lst (pa_cons (pe_fld (pv 4) rfl) (pa_cons (pe_fld (pv 4) rfl) (pa_cons (pe_fld (pv 4) rfl) (pa_cons (pe_fld (pv 4) rfl) pa_nil))))) pa_nil)))))
    (pss_one (ps_ret (pv 3))))))), ?_⟩)
  · obtain ⟨d, s, k, r, rfl, _⟩ := h
    rfl
  · obtain ⟨d, s, k, r, rfl, hs, g, hk, hQ⟩ := h
    walk_at "rd"
    refine ⟨r, rfl, ?_⟩
    walk_at "rd"
    cases c2 : Wm01.isRight r with
    | false =>
      rw [if_pos c2] at hQ
      exact if_true_of rfl ⟨by show 1 ≤ sizeLine; decide, fun p hp => hQ _ p (same_upd hp) hp upd_same⟩
    | true =>
      rw [c2, if_neg (by simp)] at hQ
      refine if_false_of rfl ?_
      have hh := hs.hh
      obtain ⟨xs, g1, g2, g3⟩ := hs.grants g hk
      have gl := g.gl
      k_call_by "rd" (hh, T.c_House, T.n_House_grants, hF_grants)
      refine ⟨d.g, xs, _, r, rfl, g1, g2, g3, fun H1 p ys s1 hp hy hys => ?_⟩
      generalize hfs : (s.grants.filter fun g => g.right == r) = fs at hQ hys
      have fl : fs.length ≤ 60 := by rw [← hfs]; exact Nat.le_trans (List.length_filter_le _ _) (by omega)
      refine ⟨_, rfl, p, _, rfl, .inl (SqL.of hy), by show 1 ≤ sizeLine; decide, fun q hq => ?_⟩
      obtain ⟨Pv, hPv⟩ : ∃ Pv : Nat → L2.St → Hp → Prop, ∀ i σ H', Pv i σ H' ↔ ∃ v, σ = [some (.ref d.h), some (.int r), some (.ref p), some (.ref q), v] ∧ Same H1 H' ∧ H' q = some (.lst (nats (fs.length :: (fs.take i).flatMap growG))) := ⟨_, fun _ _ _ => Iff.rfl⟩
      have e0 : upd H1 q (.lst [V.int (ys.length : Nat)]) q = some (.lst (nats (fs.length :: (fs.take 0).flatMap growG))) := by rw [upd_same, pr_len hys]; rfl
      refine ⟨_, rfl, p, rfl, ⟨_, SqL.of (same_upd hq _ _ hy)⟩, for_list (K := K) (a := p) (xs := ys) Pv ((hPv _ _ _).mpr ⟨none, rfl, same_upd hq, e0⟩) (fun i σ H' _ z => by obtain ⟨_, _, s', _⟩ := (hPv _ _ _).mp z; exact SqL.of (s' _ _ hy)) ?_ ?_⟩
      · intro i x σ H' hi z
        obtain ⟨v, rfl, s', hq'⟩ := (hPv _ _ _).mp z
        obtain ⟨gg, hg, a, rfl, dx, ha⟩ := pr_get hys hi
        have ha' := s' _ _ ha
        have lb : (nats (fs.length :: (fs.take i).flatMap growG)).length ≤ 241 := by
          rw [nats_len, List.length_cons]
          have := flat_len (f := growG) (c := 4) (fs.take i) (fun _ _ => Nat.le_refl _)
          rw [List.length_take] at this
          omega
        refine ⟨_, rfl, .inl ⟨rfl, _, SqL.of hq'⟩, ?_⟩
        refine ⟨_, rfl, a, _, dx, _, _, rfl, ha', T.c_Grant, T.n_Grant_number, gF_number _, _, rfl, a, _, dx, _, _, rfl, ha', T.c_Grant, T.n_Grant_giver, gF_giver _, _, rfl, a, _, dx, _, _, rfl, ha', T.c_Grant, T.n_Grant_taker, gF_taker _, _, rfl, a, _, dx, _, _, rfl, ha', T.c_Grant, T.n_Grant_leave, gF_leave _, by show 4 ≤ sizeLine; decide, fun b hb => ?_⟩
        have nbq : q ≠ b := ne_of_none hq' hb
        refine ⟨q, b, _, _, rfl, rfl, by rw [upd_ne nbq]; exact hq', upd_same, Nat.le_of_lt (sz1000 (by show (nats _).length + 4 ≤ 100000; omega)), ?_⟩
        refine (hPv _ _ _).mpr ⟨_, rfl, same_upd2 (s'.trans (same_upd hb)) hq, ?_⟩
        rw [upd_same, flat_more hg, leave_flag, ← List.cons_append, nats_app]
        rfl
      · intro σ H' z
        obtain ⟨v, rfl, s', hq'⟩ := (hPv _ _ _).mp z
        have e : fs.take ys.length = fs := by rw [pr_len hys, List.take_length]
        rw [e] at hq'
        refine ⟨_, rfl, hQ H' q (s1.trans s') (s1.free hq) ?_⟩
        rw [hq']
        show some (HO.lst (V.int _ :: nats _)) = some (HO.lst (V.int _ :: List.map _ (Wm08.ints _)))
        rw [ints_nats]
        rfl
/-! ### a ticket's row -/
def tRow (s : Wm08.State) (t : Wm08.Tick) : List Nat := [t.num, t.issuer, t.right, t.parent, Wm08.flag (decide (0 < share s.grants t.issuer t.right)), t.caveats.length] ++ t.caveats.flatMap Wm06.caveatRow
theorem row_three {c : Wm06.Caveat} (h : CavOk c) : nats (Wm06.caveatRow c) = threeV (cavT c) := by
  cases c with
  | needs d => exact absurd h (by unfold CavOk okThree cavT; simp)
  | _ => rfl
theorem crow_len (c : Wm06.Caveat) : (Wm06.caveatRow c).length ≤ 3 := by cases c <;> simp [Wm06.caveatRow]
def spTicketRow (K : PySem.W.Frag) : Sp := fun vs H Q _ => ∃ (d : Ad) (s : Wm08.State) (k : Nat) (a c : Addr) (ys : List V) (t : Wm08.Tick), vs = [.ref d.h, .ref a] ∧ HsAt K H d s ∧ Good s k ∧ k ≤ 60 ∧ TkAt K H a c ys t ∧ t.caveats.length ≤ 8 ∧
  ∀ H' p, Same H H' → H p = none → H' p = some (.lst (nats (tRow s t))) → Q (.ref p) H'
theorem cl_ticket_row (T : TX K mg) : Cl P w K mg base CX0 "ticket_row" 3 ["house", "ticket"] (spTicketRow K) := by
  have c_maker_has_right : Cl P w K mg base CX0 "maker_has_right" 2 ["house", "ticket"] (spMakerHas K) := cl_maker_has_right T
  refine cl_of (d := d_ticket_row) T.g_ticket_row T.u_ticket_row sc_ticket_row b_ticket_row (fun vs H Q E h => ?_) (fun cdv A outer s H vs Q E hr h => ⟨_, PSs.nox (pss_cons (ps_set (i := 2) sc_ticket_row.nd rfl (Or.inl rfl) (pe_lst (pa_cons (pe_fld (pv 1) rfl) (pa_cons (pe_fld (pv 1) rfl) (pa_cons (pe_fld (pv 1) rfl) (pa_cons (pe_fld (pv 1) rfl) (pa_cons (pe_callTy call_int1 (by rfl) T.f_int (by decide +kernel) (pa_cons (pe_c c_maker_has_right (hr.mono (by omega)) pass0 (pa_cons (pv 0) (pa_cons (pv 1) pa_nil))) pa_nil)) pa_nil)))))))
    (pss_cons (ps_expr (pe_bm PySem.F.plainAttrs_list PySem.F.slot_list_append PySem.F.type_list_append mt_append (pv 2) (pa_cons (pe_callB cr_lenS (by rfl) T.f_len PySem.boot_len (pa_cons (pe_fld (pv 1) rfl) pa_nil)) pa_nil)))
    (pss_cons (ps_for PassesOwn.never rfl (pi_list (pe_fld (pv 1) rfl)) (pg_name (i := 3) sc_ticket_row.nd rfl (Or.inl rfl)) (pss_one (ps_expr (pe_bm PySem.F.plainAttrs_list PySem.F.slot_list_extend PySem.F.type_list_extend mt_extendT (pv 2) (pa_cons (pv 3) pa_nil)))))
    (pss_one (ps_ret (pv 2)))))), ?_⟩)
  · obtain ⟨d, s, k, a, c, ys, t, rfl, _⟩ := h
    rfl
  · obtain ⟨d, s, k, a, c, ys, t, rfl, hs, g, hk, ht, h8, hQ⟩ := h
    obtain ⟨⟨dx, ha⟩, hc, hcv⟩ := id ht
    refine ⟨_, rfl, a, _, dx, _, _, rfl, ha, T.c_Ticket, T.n_Ticket_number, tF_number _ _ _ _ _ _, _, rfl, a, _, dx, _, _, rfl, ha, T.c_Ticket, T.n_Ticket_maker, tF_maker _ _ _ _ _ _, _, rfl, a, _, dx, _, _, rfl, ha, T.c_Ticket, T.n_Ticket_door, tF_door _ _ _ _ _ _, _, rfl, a, _, dx, _, _, rfl, ha, T.c_Ticket, T.n_Ticket_source, tF_source _ _ _ _ _ _, ?_⟩
    refine ⟨_, rfl, _, rfl, d, s, k, a, c, ys, t, rfl, hs, g, hk, ht, fun H1 s1 => .inr ⟨_, rfl, by show 5 ≤ sizeLine; decide, fun q hq => ?_⟩⟩
    have hqH : H q = none := s1.free hq
    have s2 : Same H1 (upd H1 q (.lst [V.int t.num, V.int t.issuer, V.int t.right, V.int t.parent, V.int (if decide (0 < share s.grants t.issuer t.right) = true then 1 else 0)])) := same_upd hq
    have ha2 := s2 _ _ (s1 _ _ ha)
    have hc2 := s2 _ _ (s1 _ _ hc)
    refine ⟨_, rfl, .inl ⟨rfl, _, SqL.of upd_same⟩, _, rfl, a, _, dx, _, _, rfl, ha2, T.c_Ticket, T.n_Ticket_caveats, tF_caveats _ _ _ _ _ _, c, _, rfl, .inl (SqL.of hc2), q, _, _, rfl, rfl, upd_same, sz1000 (by show 5 ≤ 100000; decide), ?_⟩
    obtain ⟨Pv, hPv⟩ : ∃ Pv : Nat → L2.St → Hp → Prop, ∀ i σ H', Pv i σ H' ↔ ∃ v, σ = [some (.ref d.h), some (.ref a), some (.ref q), v] ∧ Same H H' ∧ H' q = some (.lst (nats ([t.num, t.issuer, t.right, t.parent, Wm08.flag (decide (0 < share s.grants t.issuer t.right)), t.caveats.length] ++ (t.caveats.take i).flatMap Wm06.caveatRow))) := ⟨_, fun _ _ _ => Iff.rfl⟩
    have s3 : Same H (upd (upd H1 q (.lst [V.int t.num, V.int t.issuer, V.int t.right, V.int t.parent, V.int (if decide (0 < share s.grants t.issuer t.right) = true then 1 else 0)])) q (.lst ([V.int t.num, V.int t.issuer, V.int t.right, V.int t.parent, V.int (if decide (0 < share s.grants t.issuer t.right) = true then 1 else 0)] ++ [V.int (ys.length : Nat)]))) := same_upd2 (s1.trans s2) hqH
    have hc3 := s3 _ _ hc
    refine ⟨_, rfl, a, _, dx, _, _, rfl, s3 _ _ ha, T.c_Ticket, T.n_Ticket_caveats, tF_caveats _ _ _ _ _ _, c, rfl, ⟨_, SqL.of hc3⟩, for_list (K := K) (a := c) (xs := ys) Pv ((hPv _ _ _).mpr ⟨none, rfl, s3, ?_⟩) (fun i σ H' _ z => by obtain ⟨_, _, s', _⟩ := (hPv _ _ _).mp z; exact SqL.of (s' _ _ hc)) ?_ ?_⟩
    · rw [upd_same, flag_if, pr_len hcv]
      rfl
    · intro i x σ H' hi z
      obtain ⟨v, rfl, s', hq'⟩ := (hPv _ _ _).mp z
      obtain ⟨cc, hcc, hth, hok⟩ := pr_get hcv hi
      obtain ⟨b, rfl, hb⟩ := hth
      have lb : (nats ([t.num, t.issuer, t.right, t.parent, Wm08.flag (decide (0 < share s.grants t.issuer t.right)), t.caveats.length] ++ (t.caveats.take i).flatMap Wm06.caveatRow)).length ≤ 100 := by
        rw [nats_len, List.length_append]
        have := flat_len (f := Wm06.caveatRow) (c := 3) (t.caveats.take i) (fun x _ => crow_len x)
        rw [List.length_take] at this
        show 6 + _ ≤ 100
        omega
      refine ⟨_, rfl, .inl ⟨rfl, _, SqL.of hq'⟩, _, rfl, q, b, _, _, rfl, rfl, hq', SqT.of (s' _ _ hb), Nat.le_of_lt (sz1000 (by show (nats _).length + 3 ≤ 100000; omega)), ?_⟩
      refine (hPv _ _ _).mpr ⟨_, rfl, same_upd2 s' hqH, ?_⟩
      rw [upd_same, flat_more hcc, ← List.append_assoc, nats_app, nats_app, nats_app, row_three hok]
    · intro σ H' z
      obtain ⟨v, rfl, s', hq'⟩ := (hPv _ _ _).mp z
      have e : t.caveats.take ys.length = t.caveats := by rw [pr_len hcv, List.take_length]
      rw [e] at hq'
      exact ⟨_, rfl, hQ H' q s' hqH hq'⟩
theorem trow_len {s : Wm08.State} {t : Wm08.Tick} (h : t.caveats.length ≤ 8) : (tRow s t).length ≤ 30 := by
  unfold tRow
  rw [List.length_append]
  have := flat_len (f := Wm06.caveatRow) (c := 3) t.caveats (fun x _ => crow_len x)
  show 6 + _ ≤ 30
  omega
theorem less_sub {H : Hp} {M M' : List Addr} (h : ∀ b ∈ M', b ∈ M) : Same (less H M) (less H M') := fun b o e => by
  obtain ⟨h1, h2⟩ := of_less e
  exact less_at (fun m => h1 (h b m)) h2
def spTellTickets (K : PySem.W.Frag) : Sp := fun vs H Q _ => ∃ (d : Ad) (s : Wm08.State) (k u : Nat), vs = [.ref d.h, .int u] ∧ HsAt K H d s ∧ Good s k ∧ k ≤ 60 ∧
  Tells H (if Wm01.isUser u = false then [-1] else
    ((s.tickets.filter fun t => t.holder == u).length : Int) :: Wm08.ints ((s.tickets.filter fun t => t.holder == u).flatMap fun t => [t.num, t.issuer, t.right, t.parent, Wm08.flag (decide (0 < Wm01.has s.grants t.issuer t.right)), t.caveats.length] ++ t.caveats.flatMap Wm06.caveatRow)) Q
theorem flat_congr {α : Type} {f g : α → List Nat} : ∀ {l : List α}, (∀ x ∈ l, f x = g x) → l.flatMap f = l.flatMap g
  | [], _ => rfl
  | x :: l, h => by
    rw [List.flatMap_cons, List.flatMap_cons, h x List.mem_cons_self, flat_congr fun y hy => h y (List.mem_cons_of_mem _ hy)]
theorem cl_tell_tickets (T : TX K mg) : Cl P w K mg base CX0 "tell_tickets" 4 ["house", "user"] (spTellTickets K) := by
  have c_is_user : Cl P w K mg base CX0 "is_user" 1 ["number"] spIsUser := cl_is_user T
  have c_held_by : Cl P w K mg base CX0 "held_by" 1 ["tickets", "user"] (spHeldBy K) := cl_held_by T
  have c_ticket_row : Cl P w K mg base CX0 "ticket_row" 3 ["house", "ticket"] (spTicketRow K) := cl_ticket_row T
  refine cl_of (d := d_tell_tickets) T.g_tell_tickets T.u_tell_tickets sc_tell_tickets b_tell_tickets (fun vs H Q E h => ?_) (fun cdv A outer s H vs Q E hr h => ⟨_, PSs.nox (pss_cons (ps_if (pt_not (pt_val (pe_c c_is_user (hr.mono (by omega)) pass0 (pa_cons (pv 1) pa_nil)))) (pss_one (ps_ret (pe_lst (pa_cons (pe_gi T.i_WRONG) pa_nil)))) pss_nil)
    (pss_cons (ps_set (i := 2) sc_tell_tickets.nd rfl (Or.inl rfl) (pe_c c_held_by (hr.mono (by omega)) pass0 (pa_cons (pe_fld (pv 0) rfl) (pa_cons (pv 1) pa_nil))))
    (pss_cons (ps_set (i := 3) sc_tell_tickets.nd rfl (Or.inl rfl) (pe_lst (pa_cons (pe_callB cr_lenS (by rfl) T.f_len PySem.boot_len (pa_cons (pv 2) pa_nil)) pa_nil)))
    (pss_cons (ps_for PassesOwn.never rfl (pi_list (pv 2)) (pg_name (i := 4) sc_tell_tickets.nd rfl (Or.inl rfl)) (pss_one (ps_expr (pe_bm PySem.F.plainAttrs_list PySem.F.slot_list_extend PySem.F.type_list_extend mt_extend (pv 3) (pa_cons (pe_c c_ticket_row (hr.mono (by omega)) pass0 (pa_cons (pv 0) (pa_cons (pv 4) pa_nil))) pa_nil)))))
    (pss_one (ps_ret (pv 3))))))), ?_⟩)
  · obtain ⟨d, s, k, u, rfl, _⟩ := h
    rfl
  · obtain ⟨d, s, k, u, rfl, hs, g, hk, hQ⟩ := h
    walk_at "rd"
    refine ⟨u, rfl, ?_⟩
    walk_at "rd"
    cases c2 : Wm01.isUser u with
    | false =>
      rw [if_pos c2] at hQ
      exact if_true_of rfl ⟨by show 1 ≤ sizeLine; decide, fun p hp => hQ _ p (same_upd hp) hp upd_same⟩
    | true =>
      rw [c2, if_neg (by simp)] at hQ
      refine if_false_of rfl ?_
      have hh := hs.hh
      obtain ⟨ts, t1, t2⟩ := hs.tk
      have tl := g.tl
      k_call_by "rd" (hh, T.c_House, T.n_House_tickets, hF_tickets)
      refine ⟨d.t, ts, s.tickets, u, rfl, t1, tks_mono (less_sub fun b hb => by rw [List.mem_singleton.mp hb]; exact d.sub d.mt) t2, by omega, fun H1 p ys s1 hp hy hys => ?_⟩
      have hg8 : ∀ t ∈ s.tickets.filter (fun t => t.holder == u), t.issuer ≠ 0 ∧ t.caveats.length ≤ 8 := fun t ht => ⟨(g.tk t (List.mem_filter.mp ht).1).1, (g.tk t (List.mem_filter.mp ht).1).2.1⟩
      rw [flat_congr (g := tRow s) fun t ht => by rw [share_has (hg8 t ht).1]; rfl] at hQ
      generalize hfs : (s.tickets.filter fun t => t.holder == u) = fs at hQ hys hg8
      have fl : fs.length ≤ 60 := by rw [← hfs]; exact Nat.le_trans (List.length_filter_le _ _) (by omega)
      refine ⟨_, rfl, p, _, rfl, .inl (SqL.of hy), by show 1 ≤ sizeLine; decide, fun q hq => ?_⟩
      obtain ⟨Pv, hPv⟩ : ∃ Pv : Nat → L2.St → Hp → Prop, ∀ i σ H', Pv i σ H' ↔ ∃ v, σ = [some (.ref d.h), some (.int u), some (.ref p), some (.ref q), v] ∧ Same H1 H' ∧ H' q = some (.lst (nats (fs.length :: (fs.take i).flatMap (tRow s)))) := ⟨_, fun _ _ _ => Iff.rfl⟩
      have e0 : upd H1 q (.lst [V.int (ys.length : Nat)]) q = some (.lst (nats (fs.length :: (fs.take 0).flatMap (tRow s)))) := by rw [upd_same, pr_len hys]; rfl
      refine ⟨_, rfl, p, rfl, ⟨_, SqL.of (same_upd hq _ _ hy)⟩, for_list (K := K) (a := p) (xs := ys) Pv ((hPv _ _ _).mpr ⟨none, rfl, same_upd hq, e0⟩) (fun i σ H' _ z => by obtain ⟨_, _, s', _⟩ := (hPv _ _ _).mp z; exact SqL.of (s' _ _ hy)) ?_ ?_⟩
      · intro i x σ H' hi z
        obtain ⟨v, rfl, s', hq'⟩ := (hPv _ _ _).mp z
        obtain ⟨t, ht, hv⟩ := pr_get hys hi
        obtain ⟨a, c, zs, rfl, hat⟩ := hv.mono s'
        have h8 := (hg8 t (List.mem_of_getElem? ht)).2
        have lb : (nats (fs.length :: (fs.take i).flatMap (tRow s))).length ≤ 2000 := by
          rw [nats_len, List.length_cons]
          have := flat_len (f := tRow s) (c := 30) (fs.take i) (fun x hx => trow_len (hg8 x (List.mem_of_mem_take hx)).2)
          rw [List.length_take] at this
          omega
        have tl30 := trow_len (s := s) h8
        refine ⟨_, rfl, .inl ⟨rfl, _, SqL.of hq'⟩, ?_⟩
        refine ⟨_, rfl, _, rfl, d, s, k, a, c, zs, t, rfl, hs.same (s1.trans s'), g, hk, hat, h8, fun H2 b s2 hb hb2 => ?_⟩
        refine ⟨q, b, _, _, rfl, rfl, s2 _ _ hq', hb2, Nat.le_of_lt (sz1000 (by rw [nats_len (tRow s t)]; omega)), ?_⟩
        refine (hPv _ _ _).mpr ⟨_, rfl, same_upd2 (s'.trans s2) hq, ?_⟩
        rw [upd_same, flat_more ht, ← List.cons_append, nats_app]
      · intro σ H' z
        obtain ⟨v, rfl, s', hq'⟩ := (hPv _ _ _).mp z
        have e : fs.take ys.length = fs := by rw [pr_len hys, List.take_length]
        rw [e] at hq'
        refine ⟨_, rfl, hQ H' q (s1.trans s') (s1.free hq) ?_⟩
        rw [hq']
        show some (HO.lst (V.int _ :: nats _)) = some (HO.lst (V.int _ :: List.map _ (Wm08.ints _)))
        rw [ints_nats]
end
end Gh
set_option Elab.async false
set_option linter.all false
set_option maxRecDepth 100000
set_option maxHeartbeats 4000000
namespace Gh
open PySem PySem.Spec PyProof.Rows L2
local macro_rules | `(tactic| walk_at "rd") => `(tactic| simp only [tRet, tSeq, tAsg, gName, tDrop, tIfS, tTest, tB, tAnd, tOr, tNot, tAndV, tOrV, tNotV, tCmp, t2I, tAdd, tSub, tMul, tIsN, tNotN, tC, tVar, tCons, tNil, tCall, tOp, tUn, tCB, tNext, tRetN, tIf, tFld, wipe, tYes, HO.ins.injEq, and_assoc, L2.start, List.map_cons, List.map_nil, List.length_cons, List.length_nil, List.cons_append, List.nil_append, List.append_nil, List.set_cons_zero, List.set_cons_succ, List.replicate, Nat.reduceAdd, Nat.reduceSub, Nat.zero_add, Nat.sub_self, List.getElem?_cons_zero, List.getElem?_cons_succ, Option.some.injEq, V.int.injEq, V.bl.injEq, V.ref.injEq, V.str.injEq, List.cons.injEq, reduceCtorEq, and_true, true_and, and_false, false_and, exists_eq_left, exists_eq_left', exists_eq_right, exists_eq_right', exists_and_left, exists_const, exists_false, exists_eq, if_true, if_false, Bool.false_eq_true, Bool.true_eq_false, cxK, andV, orV, andT, orT, deq, dle, dlt, Bool.not_true, Bool.not_false, decide_true, decide_false, ite_true, ite_false])
local macro_rules | `(tactic| k_call_by "rd" ($a, $bs,*)) => do { let cs := bs.getElems; `(tactic| simp only [$a:term, $[$cs:term],*, tRet, tSeq, tAsg, gName, tDrop, tIfS, tTest, tB, tAnd, tOr, tNot, tAndV, tOrV, tNotV, tCmp, t2I, tAdd, tSub, tMul, tIsN, tNotN, tC, tVar, tCons, tNil, tCall, tOp, tUn, tCB, tNext, tRetN, tIf, tFld, wipe, tYes, HO.ins.injEq, and_assoc, L2.start, List.map_cons, List.map_nil, List.length_cons, List.length_nil, List.cons_append, List.nil_append, List.append_nil, List.set_cons_zero, List.set_cons_succ, List.replicate, Nat.reduceAdd, Nat.reduceSub, Nat.zero_add, Nat.sub_self, List.getElem?_cons_zero, List.getElem?_cons_succ, Option.some.injEq, V.int.injEq, V.bl.injEq, V.ref.injEq, V.str.injEq, List.cons.injEq, reduceCtorEq, and_true, true_and, and_false, false_and, exists_eq_left, exists_eq_left', exists_eq_right, exists_eq_right', exists_and_left, exists_const, exists_false, exists_eq, if_true, if_false, Bool.false_eq_true, Bool.true_eq_false, cxK, andV, orV, andT, orT, deq, dle, dlt, Bool.not_true, Bool.not_false, decide_true, decide_false, ite_true, ite_false]) }
section
variable {P : Program} {w : World} {K : PySem.W.Frag} {mg : Str → Option Value} {base : Heap}
def tcC : Wm08.Call → List Nat × Option (List Nat)
  | .do_ e => evC e
  | .may u r n q => ([10, u, r, n], some q)
  | .was m u r n q => ([11, m, u, r, n], some q)
  | .hang n => ([12, n], none)
  | .opened => ([13], none)
  | .grants r => ([14, r], none)
  | .tickets u => ([15, u], none)
  | .chain u r => ([16, u, r], none)
  | .allowers u r => ([17, u, r], none)
  | .length => ([18], none)
def cFits : Wm08.Call → Prop
  | .do_ e => evFits e
  | .may _ _ _ q => q.length ≤ 1000
  | .was _ _ _ _ q => q.length ≤ 1000
  | _ => True
def isDo : Wm08.Call → Bool
  | .do_ _ => true
  | _ => false
def spDoesSomething : Sp := fun vs H Q _ => ∃ (v : V) (c : Wm08.Call), vs = [v] ∧ CallAt H v (tcC c) ∧ Q (.bl (isDo c)) H
theorem tc_kind (c : Wm08.Call) : ∃ k ns, (tcC c).1 = k :: ns ∧ decide (k ≤ 9) = isDo c := by
  cases c with
  | do_ e => cases e <;> exact ⟨_, _, rfl, rfl⟩
  | _ => exact ⟨_, _, rfl, rfl⟩
theorem cl_does_something (T : TX K mg) : Cl P w K mg base CX0 "does_something" 1 ["call"] spDoesSomething := by
  refine cl_of (d := d_does_something) T.g_does_something T.u_does_something sc_does_something b_does_something (fun vs H Q E h => ?_) (fun cdv A outer s H vs Q E hr h => ⟨_, PSs.nox (pss_one (ps_ret (pe_cmp (pc_le (pe_ix ix_list (pv 0) pe_int (fun _ _ => rfl)) (pe_gi T.i_OPENING)) rfl))), ?_⟩)
  · obtain ⟨v, c, rfl, _⟩ := h
    rfl
  · obtain ⟨v, c, rfl, ⟨a, xs, rfl, ha, _⟩, hQ⟩ := h
    obtain ⟨k, ns, e1, e2⟩ := tc_kind c
    rw [e1] at ha
    refine ⟨_, rfl, a, _, _, _, rfl, rfl, SqL.of ha, atI_nat (j := 0) rfl, _, _, rfl, rfl, ?_⟩
    rw [← e2, ← dle] at hQ
    exact hQ
def spTellCall (K : PySem.W.Frag) : Sp := fun vs H Q _ => ∃ (d : Ad) (L : Addr) (ls : List V) (h : Wm08.House) (v : V) (c : Wm08.Call), vs = [.ref d.h, .ref L, v] ∧ HsAt K H d h.state ∧ LogAt K H L ls h.log ∧ HOk h ∧ CallAt H v (tcC c) ∧ cFits c ∧ isDo c = false ∧ Tells H (Wm08.step h c).2 Q
theorem cl_tell_call (T : TX K mg) : Cl P w K mg base CX0 "tell_call" 31 ["house", "log", "call"] (spTellCall K) := by
  have c_tell_may : Cl P w K mg base CX0 "tell_may" 26 ["house", "user", "door", "ticket_number", "values"] (spTellMay K) := cl_tell_may T
  have c_tell_was : Cl P w K mg base CX0 "tell_was" 29 ["log", "moment", "user", "door", "ticket_number", "values"] (spTellWas K) := cl_tell_was T
  have c_tell_hang : Cl P w K mg base CX0 "tell_hang" 30 ["log", "number"] (spTellHang K) := cl_tell_hang T
  have c_tell_opened : Cl P w K mg base CX0 "tell_opened" 2 ["log"] (spTellOpened K) := cl_tell_opened T
  have c_tell_grants : Cl P w K mg base CX0 "tell_grants" 2 ["house", "right"] (spTellGrants K) := cl_tell_grants T
  have c_tell_tickets : Cl P w K mg base CX0 "tell_tickets" 4 ["house", "user"] (spTellTickets K) := cl_tell_tickets T
  have c_tell_chain : Cl P w K mg base CX0 "tell_chain" 3 ["house", "user", "right"] (spTellChain K) := cl_tell_chain T
  have c_tell_allowers : Cl P w K mg base CX0 "tell_allowers" 3 ["house", "user", "door"] (spTellAllowers K) := cl_tell_allowers T
  refine cl_of (d := d_tell_call) T.g_tell_call T.u_tell_call sc_tell_call b_tell_call (fun vs H Q E h => ?_) (fun cdv A outer s H vs Q E hr h => ⟨_, PSs.nox (pss_cons (ps_set (i := 3) sc_tell_call.nd rfl (Or.inl rfl) (pe_ix ix_list (pv 2) pe_int (fun _ _ => rfl)))
    (pss_cons (ps_if (pt_cmp (pc_eqI (pv 3) (pe_gi T.i_MAY))) (pss_one (ps_ret (pe_c c_tell_may (hr.mono (by omega)) pass0 (pa_cons (pv 0) (pa_cons (pe_ix ix_list (pv 2) pe_int (fun _ _ => rfl)) (pa_cons (pe_ix ix_list (pv 2) pe_int (fun _ _ => rfl)) (pa_cons (pe_ix ix_list (pv 2) pe_int (fun _ _ => rfl)) (pa_cons (pe_ix ix_list (pv 2) pe_int (fun _ _ => rfl)) pa_nil)))))))) pss_nil)
    (pss_cons (ps_if (pt_cmp (pc_eqI (pv 3) (pe_gi T.i_WAS))) (pss_one (ps_ret (pe_c c_tell_was (hr.mono (by omega)) pass0 (pa_cons (pv 1) (pa_cons (pe_ix ix_list (pv 2) pe_int (fun _ _ => rfl)) (pa_cons (pe_ix ix_list (pv 2) pe_int (fun _ _ => rfl)) (pa_cons (pe_ix ix_list (pv 2) pe_int (fun _ _ => rfl)) (pa_cons (pe_ix ix_list (pv 2) pe_int (fun _ _ => rfl)) (pa_cons (pe_ix ix_list (pv 2) pe_int (fun _ _ => rfl)) pa_nil))))))))) pss_nil)
    (pss_cons (ps_if (pt_cmp (pc_eqI (pv 3) (pe_gi T.i_HANG))) (pss_one (ps_ret (pe_c c_tell_hang (hr.mono (by omega)) pass0 (pa_cons (pv 1) (pa_cons (pe_ix ix_list (pv 2) pe_int (fun _ _ => rfl)) pa_nil))))) pss_nil)
    (pss_cons (ps_if (pt_cmp (pc_eqI (pv 3) (pe_gi T.i_OPENED))) (pss_one (ps_ret (pe_c c_tell_opened (hr.mono (by omega)) pass0 (pa_cons (pv 1) pa_nil)))) pss_nil)
    (pss_cons (ps_if (pt_cmp (pc_eqI (pv 3) (pe_gi T.i_GRANTS))) (pss_one (ps_ret (pe_c c_tell_grants (hr.mono (by omega)) pass0 (pa_cons (pv 0) (pa_cons (pe_ix ix_list (pv 2) pe_int (fun _ _ => rfl)) pa_nil))))) pss_nil)
    (pss_cons (ps_if (pt_cmp (pc_eqI (pv 3) (pe_gi T.i_TICKETS))) (pss_one (ps_ret (pe_c c_tell_tickets (hr.mono (by omega)) pass0 (pa_cons (pv 0) (pa_cons (pe_ix ix_list (pv 2) pe_int (fun _ _ => rfl)) pa_nil))))) pss_nil)
    (pss_cons (ps_if (pt_cmp (pc_eqI (pv 3) (pe_gi T.i_CHAIN))) (pss_one (ps_ret (pe_c c_tell_chain (hr.mono (by omega)) pass0 (pa_cons (pv 0) (pa_cons (pe_ix ix_list (pv 2) pe_int (fun _ _ => rfl)) (pa_cons (pe_ix ix_list (pv 2) pe_int (fun _ _ => rfl)) pa_nil)))))) pss_nil)
    (pss_cons (ps_if (pt_cmp (pc_eqI (pv 3) (pe_gi T.i_ALLOWERS))) (pss_one (ps_ret (pe_c c_tell_allowers (hr.mono (by omega)) pass0 (pa_cons (pv 0) (pa_cons (pe_ix ix_list (pv 2) pe_int (fun _ _ => rfl)) (pa_cons (pe_ix ix_list (pv 2) pe_int (fun _ _ => rfl)) pa_nil)))))) pss_nil)
    (pss_one (ps_ret (pe_lst (pa_cons (pe_callB cr_lenS (by rfl) T.f_len PySem.boot_len (pa_cons (pv 1) pa_nil)) pa_nil))))))))))))), ?_⟩)
  · obtain ⟨d, L, ls, h, v, c, rfl, _⟩ := h
    rfl
  · obtain ⟨d, L, ls, h, v, c, rfl, hs, hL, hh, hc, hf, hd, hQ⟩ := h
    obtain ⟨a, xs, rfl, hc, hrow⟩ := hc
    have hC : SqL K H a _ := SqL.of hc
    have g := hh.good
    have k60 := hh.len
    cases c with
    | do_ e => cases hd
    | may u r n q =>
      obtain ⟨b, rfl, hb⟩ := hrow
      refine ⟨_, rfl, ixL hC rfl ?_⟩
      walk_at "rd"
      refine if_true_of (by decide) (ixL hC rfl (ixL hC rfl (ixL hC rfl (ixL hC rfl ?_))))
      exact ⟨d, _, _, u, r, n, b, q, rfl, hs, g, k60, SqL.of hb, hf, hQ⟩
    | was m u r n q =>
      obtain ⟨b, rfl, hb⟩ := hrow
      refine ⟨_, rfl, ixL hC rfl ?_⟩
      walk_at "rd"
      refine if_false_of (by decide) (if_true_of (by decide) (ixL hC rfl (ixL hC rfl (ixL hC rfl (ixL hC rfl (ixL hC rfl ?_))))))
      exact ⟨L, ls, h.log, m, u, r, n, b, q, rfl, hL, SqL.of hb, hf, hQ⟩
    | hang n =>
      have hx : xs = [] := hrow
      subst hx
      refine ⟨_, rfl, ixL hC rfl ?_⟩
      walk_at "rd"
      refine if_false_of (by decide) (if_false_of (by decide) (if_true_of (by decide) (ixL hC rfl ?_)))
      exact ⟨L, ls, h, n, rfl, hL, hh, hQ⟩
    | opened =>
      have hx : xs = [] := hrow
      subst hx
      refine ⟨_, rfl, ixL hC rfl ?_⟩
      walk_at "rd"
      refine if_false_of (by decide) (if_false_of (by decide) (if_false_of (by decide) (if_true_of (by decide) ?_)))
      exact ⟨L, ls, h, rfl, hL, hh, hQ⟩
    | grants r =>
      have hx : xs = [] := hrow
      subst hx
      refine ⟨_, rfl, ixL hC rfl ?_⟩
      walk_at "rd"
      refine if_false_of (by decide) (if_false_of (by decide) (if_false_of (by decide) (if_false_of (by decide) (if_true_of (by decide) (ixL hC rfl ?_)))))
      exact ⟨d, _, _, r, rfl, hs, g, k60, hQ⟩
    | tickets u =>
      have hx : xs = [] := hrow
      subst hx
      refine ⟨_, rfl, ixL hC rfl ?_⟩
      walk_at "rd"
      refine if_false_of (by decide) (if_false_of (by decide) (if_false_of (by decide) (if_false_of (by decide) (if_false_of (by decide) (if_true_of (by decide) (ixL hC rfl ?_))))))
      exact ⟨d, _, _, u, rfl, hs, g, k60, hQ⟩
    | chain u r =>
      have hx : xs = [] := hrow
      subst hx
      refine ⟨_, rfl, ixL hC rfl ?_⟩
      walk_at "rd"
      refine if_false_of (by decide) (if_false_of (by decide) (if_false_of (by decide) (if_false_of (by decide) (if_false_of (by decide) (if_false_of (by decide) (if_true_of (by decide) (ixL hC rfl (ixL hC rfl ?_))))))))
      exact ⟨d, _, _, u, r, rfl, hs, g, k60, hQ⟩
    | allowers u r =>
      have hx : xs = [] := hrow
      subst hx
      refine ⟨_, rfl, ixL hC rfl ?_⟩
      walk_at "rd"
      refine if_false_of (by decide) (if_false_of (by decide) (if_false_of (by decide) (if_false_of (by decide) (if_false_of (by decide) (if_false_of (by decide) (if_false_of (by decide) (if_true_of (by decide) (ixL hC rfl (ixL hC rfl ?_)))))))))
      exact ⟨d, _, _, u, r, rfl, hs, g, k60, hQ⟩
    | length =>
      have hx : xs = [] := hrow
      subst hx
      refine ⟨_, rfl, ixL hC rfl ?_⟩
      walk_at "rd"
      refine if_false_of (by decide) (if_false_of (by decide) (if_false_of (by decide) (if_false_of (by decide) (if_false_of (by decide) (if_false_of (by decide) (if_false_of (by decide) (if_false_of (by decide) ?_)))))))
      refine ⟨_, rfl, L, _, rfl, .inl hL.sq, by show 1 ≤ sizeLine; decide, fun p hp => hQ _ p (same_upd hp) hp ?_⟩
      rw [upd_same, pr_len hL.cs]
      rfl
/-! ### a call is read -/
def Reads (ns : List Nat) (i : Nat) (c : List Nat × Option (List Nat)) (j : Nat) : Prop := ∃ k n b, ns[i]? = some k ∧ shapes[k]? = some (n, b) ∧ i + 1 + n ≤ ns.length ∧ c.1 = k :: (ns.drop (i + 1)).take n ∧
  (b = false → c.2 = none ∧ j = i + 1 + n) ∧ (b = true → ∃ m, ns[i + 1 + n]? = some m ∧ i + 1 + n + 1 + m ≤ ns.length ∧ m ≤ 1000 ∧ c.2 = some ((ns.drop (i + 1 + n + 1)).take m) ∧ j = i + 1 + n + 1 + m)
def spReadCall (K : PySem.W.Frag) : Sp := fun vs H Q _ => ∃ (p l : Addr) (i j : Nat) (ns : List Nat) (c : List Nat × Option (List Nat)), vs = [.ref p] ∧ RdAt K H p l i ∧ SqL K H l (nats ns) ∧ Reads ns i c j ∧
  ∀ H' v, Kept [p] H H' → CallAt (newOf H H') v c → RdAt K H' p l j → Q v H'
theorem shapes_le : ∀ x ∈ shapes, x.1 ≤ 4 := by decide
theorem pr_get' {α β : Type} {F : α → β → Prop} : ∀ {l : List α} {m : List β} {i : Nat} {y : β}, Paired F l m → m[i]? = some y → ∃ x, l[i]? = some x ∧ F x y
  | _, _, _, _, .nil, h => by simp at h
  | _, _, 0, _, .cons r _, h => by simp at h; subst h; exact ⟨_, rfl, r⟩
  | _, _, i + 1, y, .cons _ t, h => by
    obtain ⟨x, h1, h2⟩ := pr_get' (i := i) (y := y) t (by simpa using h)
    exact ⟨x, by simpa using h1, h2⟩
theorem kept_free {M : List Addr} {H H1 : Hp} (kp : Kept M H H1) (hM : ∀ b ∈ M, H1 b ≠ none) {b : Addr} (h : H1 b = none) : H b = none := by
  cases e : H b with
  | none => rfl
  | some o =>
    by_cases m : b ∈ M
    · exact absurd h (hM b m)
    · rw [kp b o e m] at h; cases h
theorem cl_read_call (T : TX K mg) : Cl P w K mg base CX0 "read_call" 5 ["reader"] (spReadCall K) := by
  have c_Reader_take : Ml P w K mg base CX0 (He.ga K "Reader") "take" 2 ["self"] (spTake0 K) := ml_take0 T
  have c_Reader_take_many : Ml P w K mg base CX0 (He.ga K "Reader") "take_many" 3 ["self", "many"] (spTakeMany K) := ml_take_many T
  have c_Reader_take_row : Ml P w K mg base CX0 (He.ga K "Reader") "take_row" 4 ["self"] (spTakeRow K) := ml_take_row T
  refine cl_of (d := d_read_call) T.g_read_call T.u_read_call sc_read_call b_read_call (fun vs H Q E h => ?_) (fun cdv A outer s H vs Q E hr h => ⟨_, PSs.nox (pss_cons (ps_set (i := 1) sc_read_call.nd rfl (Or.inl rfl) (pe_m0 c_Reader_take (hr.mono (by omega)) pass0 (pv 0)))
    (pss_cons (ps_set (i := 2) sc_read_call.nd rfl (Or.inl rfl) (pe_ix ix_tup (pe_glob (v := .ref (He.ga K "SHAPES")) rfl T.g_SHAPES rfl) (pv 1) (fun _ _ => rfl)))
    (pss_cons (ps_set (i := 3) sc_read_call.nd rfl (Or.inl rfl) (pe_op op_cat (pe_lst (pa_cons (pv 1) pa_nil)) (pe_m c_Reader_take_many (hr.mono (by omega)) pass0 (pv 0) (pa_cons (pe_ix ix_tup (pv 2) pe_int (fun _ _ => rfl)) pa_nil))))
    (pss_cons (ps_if (pt_val (pe_ix ix_tup (pv 2) pe_int (fun _ _ => rfl))) (pss_one (ps_expr (pe_bm PySem.F.plainAttrs_list PySem.F.slot_list_append PySem.F.type_list_append mt_append (pv 3) (pa_cons (pe_m0 c_Reader_take_row (hr.mono (by omega)) pass0 (pv 0)) pa_nil)))) pss_nil)
    (pss_one (ps_ret (pv 3))))))), ?_⟩)
  · obtain ⟨p, l, i, j, ns, c, rfl, _⟩ := h
    rfl
  · obtain ⟨p, l, i, j, ns, c, rfl, hR, hS, ⟨k, n, b, hk, hsh, hlen, hc1, hc2, hc3⟩, hQ⟩ := h
    obtain ⟨dx0, hp0⟩ := id hR
    have hn4 : n ≤ 4 := shapes_le (n, b) (List.mem_of_getElem? hsh)
    obtain ⟨as, hT, hpr⟩ := shB_ok T.tab
    obtain ⟨sa, hsa, hsq⟩ := pr_get' hpr hsh
    refine ⟨_, rfl, p, dx0, _, rfl, hp0, rF_no _ _ (by decide +kernel) (by decide +kernel), p, l, i, ns, k, rfl, hR, hS, hk, fun H1 k1 hr1 => ?_⟩
    obtain ⟨dx1, hp1⟩ := id hr1
    have hS1 : SqL K H1 l (nats ns) := seq_kept hp0 k1 hS
    refine ⟨_, rfl, _, _, _, _, rfl, rfl, hT H1, atI_nat (j := k) (v := V.ref sa) ?_, ?_⟩
    · rw [List.getElem?_map, hsa]; rfl
    refine ⟨_, rfl, by show 1 ≤ sizeLine; decide, fun q hq => ?_⟩
    have nqp : q ≠ p := fun z => by rw [z, hp1] at hq; cases hq
    have s1 : Same H1 (upd H1 q (.lst [V.int (k : Nat)])) := same_upd hq
    refine ⟨_, rfl, p, dx1, _, rfl, s1 _ _ hp1, rF_no _ _ (by decide +kernel) (by decide +kernel), _, rfl, sa, _, _, _, rfl, rfl, hsq _, rfl, ?_⟩
    have hr1' : RdAt K (upd H1 q (.lst [V.int (k : Nat)])) p l (i + 1) := ⟨dx1, s1 _ _ hp1⟩
    refine ⟨p, l, i + 1, n, ns, rfl, hr1', s1.seq hS1, hlen, by omega, fun H2 d2 k2 hd2 hd2' hr2 => ?_⟩
    have hq2 : H2 q = some (.lst [V.int (k : Nat)]) := k2 _ _ upd_same (by simpa using nqp)
    obtain ⟨dx2, hp2⟩ := id hr2
    have kH2 : Kept [p] H H2 := (k1.trans (Kept.of s1)).trans k2
    have pt : ∀ b ∈ [p], H2 b ≠ none := fun b hb => by rw [List.mem_singleton.mp hb, hp2]; intro z; cases z
    refine ⟨q, d2, _, _, rfl, rfl, hq2, hd2', Nat.le_of_lt (sz1000 (by rw [nats_len, List.length_take]; show 1 + _ ≤ 100000; omega)), fun c0 hc0 => ?_⟩
    have s3 : Same H2 (upd H2 c0 (.lst ([V.int (k : Nat)] ++ nats ((ns.drop (i + 1)).take n)))) := same_upd hc0
    have hc0H : H c0 = none := kept_free kH2 pt hc0
    refine ⟨_, rfl, sa, _, _, _, rfl, rfl, hsq _, rfl, _, rfl, ?_⟩
    cases b with
    | false =>
      obtain ⟨e1, e2⟩ := hc2 rfl
      subst e2
      refine if_false_of rfl ⟨_, rfl, hQ _ _ (kH2.trans (Kept.of s3)) ⟨c0, [], rfl, newOf_at hc0H ?_, ?_⟩ ⟨dx2, s3 _ _ hp2⟩⟩
      · rw [upd_same, hc1]
        simp only [List.append_nil]
        rfl
      · rw [e1]; rfl
    | true =>
      obtain ⟨m, hm, hml, hm1000, e1, e2⟩ := hc3 rfl
      subst e2
      refine if_true_of rfl ⟨_, rfl, .inl ⟨rfl, _, SqL.of upd_same⟩, ?_⟩
      have hS3 : SqL K (upd H2 c0 (.lst ([V.int (k : Nat)] ++ nats ((ns.drop (i + 1)).take n)))) l (nats ns) := s3.seq (seq_kept (s1 _ _ hp1) k2 (s1.seq hS1))
      refine ⟨_, rfl, p, dx2, _, rfl, s3 _ _ hp2, rF_no _ _ (by decide +kernel) (by decide +kernel), p, l, i + 1 + n, m, ns, rfl, ⟨dx2, s3 _ _ hp2⟩, hS3, hm, hml, hm1000, fun H4 d4 k4 hd4 hd4' hr4 => ?_⟩
      have ncp : c0 ≠ p := fun z => by rw [z, hp2] at hc0; cases hc0
      have hc4 : H4 c0 = some (.lst ([V.int (k : Nat)] ++ nats ((ns.drop (i + 1)).take n))) := k4 _ _ upd_same (by simpa using ncp)
      obtain ⟨dx4, hp4⟩ := id hr4
      have ndp : d4 ≠ p := fun z => by rw [z, s3 _ _ hp2] at hd4; cases hd4
      have ndc : d4 ≠ c0 := fun z => by rw [z, upd_same] at hd4; cases hd4
      have hd4H : H d4 = none := by
        rw [upd_ne ndc] at hd4
        exact kept_free kH2 pt hd4
      refine ⟨c0, _, _, rfl, rfl, hc4, sz1000 (by rw [List.length_append, nats_len, List.length_take]; show 1 + _ ≤ 100000; omega), _, rfl, ?_⟩
      refine hQ _ _ (fun b o e hb => ?_) ⟨c0, [.ref d4], rfl, newOf_at hc0H ?_, ?_⟩ ⟨dx4, ?_⟩
      · rw [upd_ne (ne_of_none e hc0H)]
        exact k4 _ _ (s3 _ _ (kH2 _ _ e hb)) hb
      · rw [upd_same, hc1]
        rfl
      · rw [e1]
        exact ⟨d4, rfl, newOf_at hd4H (by rw [upd_ne ndc]; exact hd4')⟩
      · rw [upd_ne (Ne.symm ncp)]; exact hp4
end
end Gh
set_option Elab.async false
set_option linter.all false
set_option maxRecDepth 100000
set_option maxHeartbeats 4000000
namespace Gh
open PySem PySem.Spec PyProof.Rows L2
local macro_rules | `(tactic| walk_at "rd") => `(tactic| simp only [tRet, tSeq, tAsg, gName, tDrop, tIfS, tTest, tB, tAnd, tOr, tNot, tAndV, tOrV, tNotV, tCmp, t2I, tAdd, tSub, tMul, tIsN, tNotN, tC, tVar, tCons, tNil, tCall, tOp, tUn, tCB, tNext, tRetN, tIf, tFld, wipe, tYes, HO.ins.injEq, and_assoc, L2.start, List.map_cons, List.map_nil, List.length_cons, List.length_nil, List.cons_append, List.nil_append, List.append_nil, List.set_cons_zero, List.set_cons_succ, List.replicate, Nat.reduceAdd, Nat.reduceSub, Nat.zero_add, Nat.sub_self, List.getElem?_cons_zero, List.getElem?_cons_succ, Option.some.injEq, V.int.injEq, V.bl.injEq, V.ref.injEq, V.str.injEq, List.cons.injEq, reduceCtorEq, and_true, true_and, and_false, false_and, exists_eq_left, exists_eq_left', exists_eq_right, exists_eq_right', exists_and_left, exists_const, exists_false, exists_eq, if_true, if_false, Bool.false_eq_true, Bool.true_eq_false, cxK, andV, orV, andT, orT, deq, dle, dlt, Bool.not_true, Bool.not_false, decide_true, decide_false, ite_true, ite_false])
local macro_rules | `(tactic| k_call_by "rd" ($a, $bs,*)) => do { let cs := bs.getElems; `(tactic| simp only [$a:term, $[$cs:term],*, tRet, tSeq, tAsg, gName, tDrop, tIfS, tTest, tB, tAnd, tOr, tNot, tAndV, tOrV, tNotV, tCmp, t2I, tAdd, tSub, tMul, tIsN, tNotN, tC, tVar, tCons, tNil, tCall, tOp, tUn, tCB, tNext, tRetN, tIf, tFld, wipe, tYes, HO.ins.injEq, and_assoc, L2.start, List.map_cons, List.map_nil, List.length_cons, List.length_nil, List.cons_append, List.nil_append, List.append_nil, List.set_cons_zero, List.set_cons_succ, List.replicate, Nat.reduceAdd, Nat.reduceSub, Nat.zero_add, Nat.sub_self, List.getElem?_cons_zero, List.getElem?_cons_succ, Option.some.injEq, V.int.injEq, V.bl.injEq, V.ref.injEq, V.str.injEq, List.cons.injEq, reduceCtorEq, and_true, true_and, and_false, false_and, exists_eq_left, exists_eq_left', exists_eq_right, exists_eq_right', exists_and_left, exists_const, exists_false, exists_eq, if_true, if_false, Bool.false_eq_true, Bool.true_eq_false, cxK, andV, orV, andT, orT, deq, dle, dlt, Bool.not_true, Bool.not_false, decide_true, decide_false, ite_true, ite_false]) }
section
variable {P : Program} {w : World} {K : PySem.W.Frag} {mg : Str → Option Value} {base : Heap}
/-- the house, its log's list at L, both told by h -/
structure Whole (K : PySem.W.Frag) (H : Hp) (d : Ad) (L : Addr) (ls : List V) (h : Wm08.House) : Prop where
  hs : HsAt K H d h.state
  mem : L ∈ d.n
  sq : H L = some (.lst ls)
  cs : Paired (CallE (less H d.M)) ls h.log
  fits : ∀ x ∈ h.log, evFits x.2
  ok : HOk h
theorem Whole.log {H : Hp} {d : Ad} {L : Addr} {ls : List V} {h : Wm08.House} (w : Whole K H d L ls h) : LogAt K H L ls h.log := ⟨SqL.of w.sq, calls_mono less_same w.cs, w.ok.num, w.ok.len, w.fits⟩
theorem Whole.same {H H' : Hp} {d : Ad} {L : Addr} {ls : List V} {h : Wm08.House} (w : Whole K H d L ls h) (s : Same H H') : Whole K H' d L ls h := ⟨w.hs.same s, w.mem, s _ _ w.sq, calls_mono (Kept.of s).less w.cs, w.fits, w.ok⟩
def spAnswer (K : PySem.W.Frag) : Sp := fun vs H Q _ => ∃ (d : Ad) (L : Addr) (ls : List V) (h : Wm08.House) (v : V) (c : Wm08.Call), vs = [.ref d.h, .ref L, v] ∧ Whole K H d L ls h ∧ CallAt (less H d.M) v (tcC c) ∧ cFits c ∧
  ∀ H' d' ls' p, Kept (L :: d.M0) H H' → Whole K H' d' L ls' (Wm08.step h c).1 → d'.h = d.h → d'.n = d.n → (∀ b ∈ d'.M0, b ∈ d.M0 ∨ H b = none) → p ∉ d.n → H' p = some (.lst ((Wm08.step h c).2.map V.int)) → Q (.ref p) H'
theorem dge60 (n : Nat) : decide ((60 : Int) ≤ (n : Int)) = decide (60 ≤ n) := dle 60 n
theorem cl_answer (T : TX K mg) : Cl P w K mg base CX0 "answer" 32 ["house", "log", "call"] (spAnswer K) := by
  have c_does_something : Cl P w K mg base CX0 "does_something" 1 ["call"] spDoesSomething := cl_does_something T
  have c_tell_call : Cl P w K mg base CX0 "tell_call" 31 ["house", "log", "call"] (spTellCall K) := cl_tell_call T
  have c_do_call : Cl P w K mg base CX0 "do_call" 27 ["house", "number", "call"] (spDoCall K) := cl_do_call T
  refine cl_of (d := d_answer) T.g_answer T.u_answer sc_answer b_answer (fun vs H Q E h => ?_) (fun cdv A outer s H vs Q E hr h => ⟨_, PSs.nox (pss_cons (ps_if (pt_not (pt_val (pe_c c_does_something (hr.mono (by omega)) pass0 (pa_cons (pv 2) pa_nil)))) (pss_one (ps_ret (pe_c c_tell_call (hr.mono (by omega)) pass0 (pa_cons (pv 0) (pa_cons (pv 1) (pa_cons (pv 2) pa_nil)))))) pss_nil)
    (pss_cons (ps_if (pt_cmp (pc_ge (pe_callB cr_lenS (by rfl) T.f_len PySem.boot_len (pa_cons (pv 1) pa_nil)) (pe_gi T.i_MOST_DONE))) (pss_one (ps_ret (pe_lst (pa_cons (pe_gi T.i_FULL) pa_nil)))) pss_nil)
    (pss_cons (ps_set (i := 3) sc_answer.nd rfl (Or.inl rfl) (pe_c c_do_call (hr.mono (by omega)) pass0 (pa_cons (pv 0) (pa_cons (pe_add (pe_callB cr_lenS (by rfl) T.f_len PySem.boot_len (pa_cons (pv 1) pa_nil)) pe_int) (pa_cons (pv 2) pa_nil)))))
    (pss_cons (ps_if (pt_cmp (pc_gt (pv 3) pe_int)) (pss_one (ps_expr (pe_bm PySem.F.plainAttrs_list PySem.F.slot_list_append PySem.F.type_list_append mt_append (pv 1) (pa_cons (pv 2) pa_nil)))) pss_nil)
    (pss_one (ps_ret (pe_lst (pa_cons (pv 3) pa_nil)))))))), ?_⟩)
  · obtain ⟨d, L, ls, h, v, c, rfl, _⟩ := h
    rfl
  · obtain ⟨d, L, ls, h, v, c, rfl, W, hc, hf, hQ⟩ := h
    have stay : ∀ H' p, Same H H' → (Wm08.step h c).1 = h → H p = none → H' p = some (.lst ((Wm08.step h c).2.map V.int)) → Q (.ref p) H' := fun H' p s' e hp hy =>
      hQ H' d ls p (Kept.of s') (by rw [e]; exact W.same s') rfl rfl (fun b hb => .inl hb) (fun z => W.hs.fresh hp (List.mem_append_right _ z)) hy
    walk_at "rd"
    refine ⟨v, c, rfl, hc.mono less_same, ?_⟩
    walk_at "rd"
    cases hd : isDo c with
    | false =>
      refine if_true_of rfl ?_
      have e : (Wm08.step h c).1 = h := by cases c <;> first | rfl | cases hd
      exact ⟨d, L, ls, h, v, c, rfl, W.hs, W.log, W.ok, hc.mono less_same, hf, hd, fun H' p s' hp hy => stay H' p s' e hp hy⟩
    | true =>
      refine if_false_of rfl (lenS (SqL.of W.sq) ?_)
      rw [pr_len W.cs]
      k_call_by "rd" (dge60, dge60)
      cases c with
      | do_ e =>
        have st : Wm08.step h (.do_ e) = if 60 ≤ h.log.length then (h, [-5]) else (match Wm08.act h.state (h.log.length + 1) e with
          | .inl x => (h, [x])
          | .inr s => (⟨h.log ++ [(h.log.length + 1, e)], s⟩, Wm08.ints [h.log.length + 1])) := rfl
        by_cases c6 : 60 ≤ h.log.length
        · rw [if_pos c6] at st
          refine if_true_of (decide_eq_true c6) ⟨by show 1 ≤ sizeLine; decide, fun p hp => ?_⟩
          exact stay _ p (same_upd hp) (by rw [st]) hp (by rw [upd_same, st]; rfl)
        · rw [if_neg c6] at st
          refine if_false_of (decide_eq_false c6) ?_
          refine lenS (SqL.of W.sq) ?_
          rw [pr_len W.cs]
          have ei : ((h.log.length : Nat) : Int) + 1 = ((h.log.length + 1 : Nat) : Int) := by omega
          k_call_by "rd" (ei, ei)
          refine ⟨d, h.state, h.log.length, h.log.length + 1, v, e, rfl, W.hs, W.ok.good, Nat.lt_succ_self _, by omega, hc.mono less_same, hf, ⟨fun x ha H1 s1 => ?_, fun t ha H1 d' kp hs' eh en f' => ?_⟩⟩
          · have hneg := act_neg ha
            rw [ha] at st
            walk_at "rd"
            refine if_false_of (decide_eq_false (by omega)) ⟨_, rfl, by show 1 ≤ sizeLine; decide, fun p hp => ?_⟩
            exact stay _ p (s1.trans (same_upd hp)) (by rw [st]) (s1.free hp) (by rw [upd_same, st]; rfl)
          · rw [ha] at st
            walk_at "rd"
            refine if_true_of (decide_eq_true (by omega)) ?_
            have LM : L ∉ d.M0 := (W.hs.ap L W.mem).1
            have hL1 : H1 L = some (.lst ls) := kp _ _ W.sq LM
            have memL : L ∈ d'.n := by rw [en]; exact W.mem
            have h60 := W.ok.len
            refine ⟨_, rfl, .inl ⟨rfl, _, SqL.of hL1⟩, _, rfl, L, ls, _, rfl, rfl, hL1, sz1000 (by rw [pr_len W.cs]; omega), ?_⟩
            refine ⟨_, rfl, by show 1 ≤ sizeLine; decide, fun p hp => ?_⟩
            have hsL : HsAt K (upd H1 L (.lst (ls ++ [v]))) d' t := hs'.out (kept_upd memL) fun b hb => by
              by_cases z : b = L
              · rw [z]; exact ⟨_, upd_same, .inl ⟨_, rfl⟩⟩
              · rw [upd_ne z]; exact (hs'.ap b hb).2
            have s2 : Same (upd H1 L (.lst (ls ++ [v]))) (upd (upd H1 L (.lst (ls ++ [v]))) p (.lst [V.int ((h.log.length + 1 : Nat) : Int)])) := same_upd hp
            have kpL : Kept (L :: d.M0) H (upd (upd H1 L (.lst (ls ++ [v]))) p (.lst [V.int ((h.log.length + 1 : Nat) : Int)])) := fun b o eb hb => by
              have hb1 : b ≠ L := fun z => hb (by rw [z]; exact List.mem_cons_self)
              have hb2 : b ∉ d.M0 := fun z => hb (List.mem_cons_of_mem _ z)
              exact s2 _ _ (by rw [upd_ne hb1]; exact kp _ _ eb hb2)
            have sl : Same (less H d.M) (less (upd (upd H1 L (.lst (ls ++ [v]))) p (.lst [V.int ((h.log.length + 1 : Nat) : Int)])) d'.M) := less_step (fun b o eb hb => kpL b o eb fun m => by
              rcases List.mem_cons.mp m with z | z
              · exact hb (by rw [z]; exact List.mem_append_right _ W.mem)
              · exact hb (d.sub z)) fun b hb => by
                rcases List.mem_append.mp hb with z | z
                · rcases f' b z with y | y
                  · exact .inl (d.sub y)
                  · exact .inr y
                · exact .inl (List.mem_append_right _ (by rw [← en]; exact z))
            refine hQ _ d' (ls ++ [v]) p kpL ?_ eh en f' ?_ ?_
            · rw [st]
              refine ⟨hsL.same s2, memL, s2 _ _ upd_same, pr_app (calls_mono sl W.cs) (.cons (CallAt.mono sl hc) .nil), fun x hx => ?_, hok_act W.ok (by omega) ha⟩
              rcases List.mem_append.mp hx with z | z
              · exact W.fits x z
              · rw [List.mem_singleton.mp z]; exact hf
            · intro z
              rw [← en] at z
              exact hsL.fresh hp (List.mem_append_right _ z)
            · rw [st, upd_same]
              rfl
      | _ => cases hd
end
end Gh
set_option Elab.async false
set_option linter.all false
set_option maxRecDepth 100000
set_option maxHeartbeats 4000000
namespace Gh
open PySem PySem.Spec PyProof.Rows L2
local macro_rules | `(tactic| walk_at "rd") => `(tactic| simp only [tRet, tSeq, tAsg, gName, tDrop, tIfS, tTest, tB, tAnd, tOr, tNot, tAndV, tOrV, tNotV, tCmp, t2I, tAdd, tSub, tMul, tIsN, tNotN, tC, tVar, tCons, tNil, tCall, tOp, tUn, tCB, tNext, tRetN, tIf, tFld, wipe, tYes, HO.ins.injEq, and_assoc, L2.start, List.map_cons, List.map_nil, List.length_cons, List.length_nil, List.cons_append, List.nil_append, List.append_nil, List.set_cons_zero, List.set_cons_succ, List.replicate, Nat.reduceAdd, Nat.reduceSub, Nat.zero_add, Nat.sub_self, List.getElem?_cons_zero, List.getElem?_cons_succ, Option.some.injEq, V.int.injEq, V.bl.injEq, V.ref.injEq, V.str.injEq, List.cons.injEq, reduceCtorEq, and_true, true_and, and_false, false_and, exists_eq_left, exists_eq_left', exists_eq_right, exists_eq_right', exists_and_left, exists_const, exists_false, exists_eq, if_true, if_false, Bool.false_eq_true, Bool.true_eq_false, cxK, andV, orV, andT, orT, deq, dle, dlt, Bool.not_true, Bool.not_false, decide_true, decide_false, ite_true, ite_false])
local macro_rules | `(tactic| k_call_by "rd" ($a, $bs,*)) => do { let cs := bs.getElems; `(tactic| simp only [$a:term, $[$cs:term],*, tRet, tSeq, tAsg, gName, tDrop, tIfS, tTest, tB, tAnd, tOr, tNot, tAndV, tOrV, tNotV, tCmp, t2I, tAdd, tSub, tMul, tIsN, tNotN, tC, tVar, tCons, tNil, tCall, tOp, tUn, tCB, tNext, tRetN, tIf, tFld, wipe, tYes, HO.ins.injEq, and_assoc, L2.start, List.map_cons, List.map_nil, List.length_cons, List.length_nil, List.cons_append, List.nil_append, List.append_nil, List.set_cons_zero, List.set_cons_succ, List.replicate, Nat.reduceAdd, Nat.reduceSub, Nat.zero_add, Nat.sub_self, List.getElem?_cons_zero, List.getElem?_cons_succ, Option.some.injEq, V.int.injEq, V.bl.injEq, V.ref.injEq, V.str.injEq, List.cons.injEq, reduceCtorEq, and_true, true_and, and_false, false_and, exists_eq_left, exists_eq_left', exists_eq_right, exists_eq_right', exists_and_left, exists_const, exists_false, exists_eq, if_true, if_false, Bool.false_eq_true, Bool.true_eq_false, cxK, andV, orV, andT, orT, deq, dle, dlt, Bool.not_true, Bool.not_false, decide_true, decide_false, ite_true, ite_false]) }
theorem szBig {n : Nat} (h : n ≤ 10000000) : n < sizeLine := Nat.lt_of_le_of_lt h (by decide)
section
variable {P : Program} {w : World} {K : PySem.W.Frag} {mg : Str → Option Value} {base : Heap}
/-- from place i on the list tells calls; played from h they answer out -/
inductive Plays (ns : List Nat) : Nat → Wm08.House → List Int → Prop
  | done {i : Nat} {h : Wm08.House} : ns.length ≤ i → Plays ns i h []
  | more {i j : Nat} {h : Wm08.House} {c : Wm08.Call} {out : List Int} : i < ns.length → Reads ns i (tcC c) j → i < j → cFits c → Plays ns j (Wm08.step h c).1 out → Plays ns i h (((Wm08.step h c).2.length : Int) :: (Wm08.step h c).2 ++ out)
theorem Whole.out {H H' : Hp} {d : Ad} {L x : Addr} {ls : List V} {h : Wm08.House} {o : HO} (w : Whole K H d L ls h) (hx : x ∈ d.n) (hL : x ≠ L) (kp : Kept [x] H H') (e : H' x = some o) (ho : Okn o) : Whole K H' d L ls h := by
  have kn : Kept d.n H H' := fun b u eb hb => kp b u eb fun m => hb (by rw [List.mem_singleton.mp m]; exact hx)
  have el : Same (less H d.M) (less H' d.M) := fun b o z => by
    obtain ⟨h1, h2⟩ := of_less z
    exact less_at h1 (kn b o h2 fun m => h1 (List.mem_append_right _ m))
  refine ⟨w.hs.out kn fun b hb => ?_, w.mem, kp _ _ w.sq (by simpa using Ne.symm hL), calls_mono el w.cs, w.fits, w.ok⟩
  by_cases z : b = x
  · rw [z]; exact ⟨o, e, ho⟩
  · obtain ⟨_, u, h1, h2⟩ := w.hs.ap b hb
    exact ⟨u, kp _ _ h1 (by simpa using z), h2⟩
def spAnswers (K : PySem.W.Frag) : Sp := fun vs H Q _ => ∃ (l : Addr) (ns : List Nat) (out : List Int), vs = [.ref l] ∧ SqL K H l (nats ns) ∧ Plays ns 0 Wm08.init out ∧ out.length ≤ 10000000 ∧ ∀ H' p, H' p = some (.lst (out.map V.int)) → Q (.ref p) H'
theorem un_of {d : He.DefD} {N ps : List Str} {f : Addr} {k : Nat} {sp : Sp} {CX : CXT} (F : ∃ fd, FunD K d.name d.qual d.params d.body d.scope [] [] f fd) (S : FnScope N ps d.scope)
    (hb : ∀ (kV doc pm : Value) (an : Option Addr) (cdv ct : Value) (us : List Value), us.length = ps.length → bindArgs (PySem.W.fnOf d.name d.qual d.params d.body d.scope .none kV doc pm an cdv ct) ⟨us, []⟩ = pure (ps.zip us))
    (len : ∀ vs H Q E, sp vs H Q E → vs.length = ps.length)
    (hbody : ∀ (base : Heap) (cdv : Value) (A : Around) (outer : List Env) (s : Shared) (H : Hp) (vs : List V) (Q : VK) (E : XK), Room k (A.deeper (envOfC d.qual d.scope s.heap.objs.size f cdv)) → sp vs H Q E →
      ∃ t, PSs (cxOf CX P w K mg base N d.qual d.scope f cdv A outer s H E) d.body t ∧ t { nx := fun _ H' => Q .non H', rt := Q } (start N vs) H) :
    ∃ fd, (∀ (s : Shared) (us : List Value), us.length = ps.length → BindsTo s fd ⟨us, []⟩ (ps.zip us)) ∧ ∀ base, FnOk P w K mg base CX (k + 1) f fd ps sp := by
  obtain ⟨fd, F⟩ := F
  exact ⟨fd, F.bindsA hb, fun base => F.ok S len (hbody base)⟩
theorem un_answers (T : TX K mg) : ∃ fd, (∀ (s : Shared) (us : List Value), us.length = (["calls"] : List Str).length → BindsTo s fd ⟨us, []⟩ ((["calls"] : List Str).zip us)) ∧ ∀ base, FnOk P w K mg base CX0 33 (He.ga K "answers") fd ["calls"] (spAnswers K) := by
  refine un_of (d := d_answers) T.u_answers sc_answers b_answers (fun vs H Q E h => ?_) ?_
  · obtain ⟨l, ns, out, rfl, _⟩ := h
    rfl
  intro base cdv A outer s H vs Q E hr h
  have c_House : Il P w K mg base CX0 "House" (He.ga K "House") 1 ["self"] (spHouseInit K) := il_House T
  have c_Reader : Il P w K mg base CX0 "Reader" (He.ga K "Reader") 1 ["self", "numbers"] (spReaderInit K) := il_Reader T
  have c_Reader_at_end : Ml P w K mg base CX0 (He.ga K "Reader") "at_end" 1 ["self"] (spAtEnd K) := ml_at_end T
  have c_answer : Cl P w K mg base CX0 "answer" 32 ["house", "log", "call"] (spAnswer K) := cl_answer T
  have c_read_call : Cl P w K mg base CX0 "read_call" 5 ["reader"] (spReadCall K) := cl_read_call T
  refine ⟨_, PSs.nox (pss_cons (ps_set (i := 1) sc_answers.nd rfl (Or.inl rfl) (pe_i0 c_House (hr.mono (by omega)) pass0))
    (pss_cons (ps_set (i := 2) sc_answers.nd rfl (Or.inl rfl) (pe_lst pa_nil))
    (pss_cons (ps_set (i := 3) sc_answers.nd rfl (Or.inl rfl) (pe_i c_Reader (hr.mono (by omega)) pass0 (pa_cons (pv 0) pa_nil)))
    (pss_cons (ps_set (i := 4) sc_answers.nd rfl (Or.inl rfl) (pe_lst pa_nil))
    (pss_cons (ps_while PassesOwn.never (pt_not (pt_val (pe_m0 c_Reader_at_end (hr.mono (by omega)) pass0 (pv 3)))) (pss_cons (ps_set (i := 5) sc_answers.nd rfl (Or.inl rfl) (pe_c c_answer (hr.mono (by omega)) pass0 (pa_cons (pv 1) (pa_cons (pv 2) (pa_cons (pe_c c_read_call (hr.mono (by omega)) pass0 (pa_cons (pv 3) pa_nil)) pa_nil)))))
    (pss_cons (ps_expr (pe_bm PySem.F.plainAttrs_list PySem.F.slot_list_append PySem.F.type_list_append mt_append (pv 4) (pa_cons (pe_callB cr_lenS (by rfl) T.f_len PySem.boot_len (pa_cons (pv 5) pa_nil)) pa_nil)))
    (pss_one (ps_expr (pe_bm PySem.F.plainAttrs_list PySem.F.slot_list_extend PySem.F.type_list_extend mt_extend (pv 4) (pa_cons (pv 5) pa_nil)))))))
    (pss_one (ps_ret (pv 4)))))))), ?_⟩
  · obtain ⟨l, ns, out, rfl, hS, hP, hlen, hQ⟩ := h
    intro x dx nx nd ne
    refine ⟨x, dx, rfl, upd_same, fun H1 d0 e0 en0 hs0 k0 f0 => ⟨rfl, ?_⟩⟩
    subst e0
    have s1 : Same H H1 := made_same nx nd k0
    have ap0 : ∀ b ∈ d0.M0, H b = none := fun b hb => by
      rcases f0 b hb with z | z
      · rw [z]; exact nx
      · have nb : b ≠ d0.h := fun y => by rw [y, upd_same] at z; cases z
        rw [upd_ne nb] at z
        have nb2 : b ≠ dx := fun y => by rw [y, upd_same] at z; cases z
        rw [upd_ne nb2] at z
        exact z
    refine ⟨by decide, fun L hL => ?_⟩
    have s2 : Same H1 (upd H1 L (.lst [])) := same_upd hL
    have hs2 := hs0.addN s2 hL upd_same (.inl ⟨_, rfl⟩)
    refine ⟨_, rfl, fun rd rx nrd nrx nre => ?_⟩
    refine ⟨rd, rx, _, rfl, upd_same, fun H3 hrd k3 => ⟨rfl, ?_⟩⟩
    have s3 : Same (upd H1 L (.lst [])) H3 := made_same nrd nrx k3
    have hs3 := hs2.addN s3 nrd hrd (.inr ⟨_, _, _, _, rfl⟩)
    refine ⟨by decide, fun gv hgv => ?_⟩
    have s4 : Same H3 (upd H3 gv (.lst [])) := same_upd hgv
    have hs4 := hs3.addN s4 hgv upd_same (.inl ⟨_, rfl⟩)
    have nLrd : rd ≠ L := fun z => by rw [z, upd_same] at nrd; cases nrd
    have hL3 := s3 _ _ (upd_same (H := H1) (a := L) (o := .lst []))
    have ngL : gv ≠ L := fun z => by rw [z, hL3] at hgv; cases hgv
    have ngr : gv ≠ rd := fun z => by rw [z, hrd] at hgv; cases hgv
    have s04 : Same H (upd H3 gv (.lst [])) := s1.trans (s2.trans (s3.trans s4))
    have fL : H L = none := s1.free hL
    have frd : H rd = none := (s1.trans s2).free nrd
    have fgv : H gv = none := (s1.trans (s2.trans s3)).free hgv
    obtain ⟨W, hW⟩ : ∃ W : Nat → L2.St → Hp → Prop, ∀ m σ H', W m σ H' ↔ ∃ d ls h i gs rest v, m = ns.length - i ∧ σ = [some (.ref l), some (.ref d.h), some (.ref L), some (.ref rd), some (.ref gv), v] ∧ Same H H' ∧ Whole K H' d L ls h ∧ d.n = [gv, rd, L] ∧ (∀ b ∈ d.M0, H b = none) ∧ RdAt K H' rd l i ∧ H' gv = some (.lst (gs.map V.int)) ∧ Plays ns i h rest ∧ out = gs ++ rest := ⟨_, fun _ _ _ => Iff.rfl⟩
    refine ⟨W, ⟨_, (hW _ _ _).mpr ⟨{ d0 with n := [gv, rd, L] }, [], Wm08.init, 0, [], out, none, rfl, rfl, s04, ⟨by rw [en0] at hs4; exact hs4, by show L ∈ [gv, rd, L]; simp, s4 _ _ hL3, .nil, (fun x hx => nomatch hx), hok_init⟩, rfl, ap0, ⟨rx, s4 _ _ hrd⟩, upd_same, hP, rfl⟩⟩, ?_⟩
    intro m σ H' z
    obtain ⟨d, ls, h, i, gs, rest, v, rfl, rfl, s', Wh, en, ap, ⟨rx', hrd'⟩, hg', hPl, eo⟩ := (hW _ _ _).mp z
    have hSl : SqL K H' l (nats ns) := s'.seq hS
    refine ⟨_, rfl, rd, rx', _, rfl, hrd', rF_no _ _ (by decide +kernel) (by decide +kernel), rd, l, i, ns, rfl, ⟨rx', hrd'⟩, hSl, _, rfl, ?_⟩
    have mgv : gv ∈ d.n := by rw [en]; simp
    have mrd : rd ∈ d.n := by rw [en]; simp
    cases hPl with
    | done hi =>
      refine if_false_of (by rw [decide_eq_true hi]; rfl) ⟨_, rfl, hQ H' gv ?_⟩
      rw [hg', eo, List.append_nil]
    | @more _ j _ c rest' hi hrd1 hij hfit hPl' =>
      refine if_true_of (by rw [decide_eq_false (by omega)]; rfl) ?_
      obtain ⟨N, hN⟩ : ∃ N : L2.St → Hp → Prop, ∀ σ' H2, N σ' H2 ↔ W (ns.length - j) σ' H2 := ⟨_, fun _ _ => Iff.rfl⟩
      refine ⟨N, fun σ' H2 z => ⟨_, by omega, (hN _ _).mp z⟩, ?_⟩
      refine ⟨_, rfl, _, rfl, _, rfl, rd, l, i, j, ns, tcC c, rfl, ⟨rx', hrd'⟩, hSl, hrd1, fun H2 v2 k2 hc2 hr2 => ?_⟩
      obtain ⟨rx2, hrd2⟩ := id hr2
      have Wh2 := Wh.out mrd nLrd k2 hrd2 (.inr ⟨_, _, _, _, rfl⟩)
      have s2' : Same H H2 := fun b o e => k2 b o (s' b o e) (by simpa using ne_of_none e frd)
      have hg2 : H2 gv = some (.lst (gs.map V.int)) := k2 _ _ hg' (by simpa using ngr)
      have hcL : CallAt (less H2 d.M) v2 (tcC c) := hc2.mono fun b o e => by
        obtain ⟨h1, h2⟩ := of_newOf e
        exact less_at (Wh.hs.fresh h1) h2
      refine ⟨d, L, ls, h, v2, c, rfl, Wh2, hcL, hfit, fun H3 d' ls' p k3 Wh3 eh en3 f3 hpn hp => ?_⟩
      have gM : gv ∉ L :: d.M0 := fun m => by
        rcases List.mem_cons.mp m with z | z
        · exact ngL z
        · exact (Wh2.hs.ap gv mgv).1 z
      have rM : rd ∉ L :: d.M0 := fun m => by
        rcases List.mem_cons.mp m with z | z
        · exact nLrd z
        · exact (Wh2.hs.ap rd mrd).1 z
      have hg3 := k3 _ _ hg2 gM
      have hrd3 := k3 _ _ hrd2 rM
      have s3' : Same H H3 := fun b o e => k3 b o (s2' b o e) fun m => by
        rcases List.mem_cons.mp m with z | z
        · rw [z, fL] at e; cases e
        · rw [ap b z] at e; cases e
      have npg : p ≠ gv := fun z => hpn (by rw [z]; exact mgv)
      have lenO : gs.length + 1 + (Wm08.step h c).2.length ≤ 10000000 := by
        rw [eo, List.length_append, List.length_append, List.length_cons] at hlen
        omega
      have gvd : gv ∈ d'.n := by rw [en3]; exact mgv
      refine ⟨_, rfl, .inl ⟨rfl, _, SqL.of hg3⟩, _, rfl, p, _, rfl, .inl (SqL.of hp), gv, _, _, rfl, rfl, hg3, szBig (by rw [List.length_map]; omega), ?_⟩
      refine ⟨_, rfl, .inl ⟨rfl, _, SqL.of upd_same⟩, _, rfl, gv, p, _, _, rfl, rfl, upd_same, Eq.trans (upd_ne npg) hp, Nat.le_of_lt (szBig (by rw [List.length_append, List.length_map, List.length_map]; show gs.length + 1 + _ ≤ _; omega)), ?_⟩
      refine (hN _ _).mpr ((hW _ _ _).mpr ⟨d', ls', (Wm08.step h c).1, j, gs ++ ((Wm08.step h c).2.length : Int) :: (Wm08.step h c).2, rest', _, rfl, by rw [eh]; rfl, same_upd2 (same_upd2 s3' fgv) fgv, ?_, by rw [en3, en], fun b hb => ?_, ⟨rx2, ?_⟩, ?_, hPl', ?_⟩)
      · refine Wh3.out gvd ngL (fun b o e hb => ?_) upd_same (.inl ⟨_, rfl⟩)
        have hb : b ≠ gv := by simpa using hb
        rw [upd_ne hb, upd_ne hb]; exact e
      · rcases f3 b hb with z | z
        · exact ap b z
        · exact s2'.free z
      · rw [upd_ne (Ne.symm ngr), upd_ne (Ne.symm ngr)]; exact hrd3
      · rw [upd_same, List.map_append, List.map_cons, List.length_map]
        simp
      · rw [eo, List.append_assoc]
end
end Gh
set_option Elab.async false
set_option linter.all false
set_option maxRecDepth 100000
set_option maxHeartbeats 4000000
/-! What is handed in, parsed as the specification does, is what the program reads. -/
namespace Gh
def up (l : List Nat) : List Int := l.map fun (n : Nat) => (n : Int)
theorem up_len (l : List Nat) : (up l).length = l.length := by unfold up; rw [List.length_map]
theorem up_take (l : List Nat) (n : Nat) : (up l).take n = up (l.take n) := by unfold up; rw [List.map_take]
theorem up_drop (l : List Nat) (n : Nat) : (up l).drop n = up (l.drop n) := by unfold up; rw [List.map_drop]
theorem callOf_up {l : List Nat} (h : ∀ n ∈ l, n < 4294967296) : Wm08Neutral.callOf (up l) = Wm08Neutral.callIn l := by
  unfold Wm08Neutral.callOf
  have e1 : (up l).all Wm08Neutral.nat = true := by
    rw [List.all_eq_true]
    intro z hz
    obtain ⟨n, hn, e⟩ := List.mem_map.mp hz
    have := h n hn
    rw [← e]
    unfold Wm08Neutral.nat
    rw [Bool.and_eq_true, decide_eq_true_eq, decide_eq_true_eq]
    omega
  have e2 : (up l).map Int.toNat = l := by
    unfold up
    rw [List.map_map]
    conv => rhs; rw [← List.map_id l]
    apply List.map_congr_left
    intro n _
    show ((n : Nat) : Int).toNat = n
    omega
  rw [e1, if_neg (by simp), e2]
theorem drop_next {ns : List Nat} {i k : Nat} {rs : List Nat} (h : ns.drop i = k :: rs) : ns[i]? = some k ∧ ns.drop (i + 1) = rs ∧ ns.length = i + 1 + rs.length := by
  have hl := congrArg List.length h
  rw [List.length_drop, List.length_cons] at hl
  refine ⟨?_, ?_, by omega⟩
  · have := List.getElem?_drop (xs := ns) (i := i) (j := 0)
    rw [h] at this
    simpa using this.symm
  · have : (ns.drop i).drop 1 = rs := by rw [h]; rfl
    rw [List.drop_drop] at this
    exact this
/-- a call without a row -/
theorem call_plain {ns : List Nat} {i k n : Nat} {rs : List Nat} {c : List (List Int)} {t : List Int} (h : ns.drop i = k :: rs) (hs : PyWm08.shape (k : Int) = some (n, 0)) (hsh : shapes[k]? = some (n, false)) (hc : PyFlat.call PyWm08.shape (up (k :: rs)) = some (c, t)) :
    (rs.take n).length = n ∧ c = [up (k :: rs.take n)] ∧ t = up (ns.drop (i + 1 + n)) ∧ Reads ns i (k :: rs.take n, none) (i + 1 + n) := by
  obtain ⟨h1, h2, h3⟩ := drop_next h
  unfold up PyFlat.call at hc
  rw [List.map_cons] at hc
  dsimp only at hc
  rw [hs] at hc
  dsimp only at hc
  split at hc
  · cases hc
  · rename_i hlt
    rw [List.length_map] at hlt
    unfold PyFlat.rows at hc
    dsimp only at hc
    have hc' := Option.some.inj hc
    have e1 : _ = c := congrArg Prod.fst hc'
    have e2 : _ = t := congrArg Prod.snd hc'
    refine ⟨by rw [List.length_take]; omega, ?_, ?_, k, n, false, h1, hsh, by omega, by rw [h2], fun _ => ⟨rfl, rfl⟩, fun z => by cases z⟩
    · rw [← e1]
      show [_ :: List.take n (up rs)] = _
      rw [up_take]
      rfl
    · rw [← e2]
      show List.drop n (up rs) = _
      rw [up_drop, ← h2, List.drop_drop]
/-- a call with a row -/
theorem call_row {ns : List Nat} {i k n : Nat} {rs : List Nat} {c : List (List Int)} {t : List Int} (h : ns.drop i = k :: rs) (hs : PyWm08.shape (k : Int) = some (n, 1)) (hsh : shapes[k]? = some (n, true)) (hc : PyFlat.call PyWm08.shape (up (k :: rs)) = some (c, t)) :
    ∃ (row : List Nat) (j : Nat), (rs.take n).length = n ∧ c = [up (k :: rs.take n), up row] ∧ t = up (ns.drop j) ∧ i < j ∧ (∀ x ∈ row, x ∈ ns) ∧ (row.length ≤ 1000 → Reads ns i (k :: rs.take n, some row) j) := by
  obtain ⟨h1, h2, h3⟩ := drop_next h
  unfold up PyFlat.call at hc
  rw [List.map_cons] at hc
  dsimp only at hc
  rw [hs] at hc
  dsimp only at hc
  split at hc
  · cases hc
  · rename_i hlt
    rw [List.length_map] at hlt
    unfold PyFlat.rows PyFlat.rows at hc
    have ed : (List.map (fun (n : Nat) => (n : Int)) rs).drop n = up (rs.drop n) := up_drop rs n
    rw [ed] at hc
    cases e3 : rs.drop n with
    | nil =>
      rw [e3] at hc
      unfold up PyFlat.row at hc
      simp at hc
    | cons m rs' =>
      rw [e3] at hc
      have hl3 := congrArg List.length e3
      rw [List.length_drop, List.length_cons] at hl3
      have e4 : ns.drop (i + 1 + n) = m :: rs' := by rw [← e3, ← h2, List.drop_drop]
      obtain ⟨g1, g2, g3⟩ := drop_next e4
      have er : PyFlat.row (up (m :: rs')) = if m ≤ rs'.length then some (up (rs'.take m), up (rs'.drop m)) else none := by
        unfold up PyFlat.row
        rw [List.map_cons]
        dsimp only
        have z : ((m : Nat) : Int).toNat = m := by omega
        rw [z, List.length_map, List.map_take, List.map_drop]
        by_cases y : m ≤ rs'.length
        · rw [if_pos ⟨by omega, y⟩, if_pos y]
        · rw [if_neg (fun w => y w.2), if_neg y]
      rw [er] at hc
      by_cases y : m ≤ rs'.length
      · rw [if_pos y] at hc
        dsimp only at hc
        have hc' := Option.some.inj hc
        have e1 : _ = c := congrArg Prod.fst hc'
        have e2 : _ = t := congrArg Prod.snd hc'
        refine ⟨rs'.take m, i + 1 + n + 1 + m, by rw [List.length_take]; omega, ?_, ?_, by omega, fun x hx => ?_, fun h1000 => ⟨k, n, true, h1, hsh, by omega, by rw [h2], (fun z => by cases z), fun _ => ⟨m, g1, by omega, ?_, by rw [g2], rfl⟩⟩⟩
        · rw [← e1]
          show [_ :: List.take n (up rs), _] = _
          rw [up_take]
          rfl
        · rw [← e2, ← g2, List.drop_drop]
        · have : x ∈ ns.drop (i + 1 + n + 1) := by rw [g2]; exact List.mem_of_mem_take hx
          exact List.mem_of_mem_drop this
        · rw [List.length_take] at h1000
          omega
      · rw [if_neg y] at hc
        cases hc
theorem len1 {l : List Nat} (h : l.length = 1) : ∃ a, l = [a] := by
  match l, h with
  | [a], _ => exact ⟨a, rfl⟩
theorem len2 {l : List Nat} (h : l.length = 2) : ∃ a b, l = [a, b] := by
  match l, h with
  | [a, b], _ => exact ⟨a, b, rfl⟩
theorem len3 {l : List Nat} (h : l.length = 3) : ∃ a b c, l = [a, b, c] := by
  match l, h with
  | [a, b, c], _ => exact ⟨a, b, c, rfl⟩
theorem len4 {l : List Nat} (h : l.length = 4) : ∃ a b c d, l = [a, b, c, d] := by
  match l, h with
  | [a, b, c, d], _ => exact ⟨a, b, c, d, rfl⟩
theorem row_most {lo hi : Int} {most : Nat} {row : List Nat} {b : Bool} (h : (b && PyInside.lists [(lo, hi, 0, most)] [up row]) = true) : row.length ≤ most := by
  rw [Bool.and_eq_true] at h
  have h2 := h.2
  unfold PyInside.lists at h2
  simp only [Bool.and_eq_true, decide_eq_true_eq] at h2
  rw [up_len] at h2
  exact h2.1.1.2
theorem call_one {ns : List Nat} {i k : Nat} {rs : List Nat} {c : List (List Int)} {t : List Int} (hn : ∀ n ∈ ns, n < 4294967296) (h : ns.drop i = k :: rs) (hc : PyFlat.call PyWm08.shape (up (k :: rs)) = some (c, t)) (hb : PyInside.call PyWm08.bound c = true) :
    ∃ x j, Reads ns i (tcC x) j ∧ i < j ∧ t = up (ns.drop j) ∧ cFits x ∧ Wm08Neutral.callOf ((PyWm08.whole c).headD []) = some x := by
  have mem : ∀ x ∈ k :: rs, x < 4294967296 := fun x hx => hn x (List.mem_of_mem_drop (by rw [h]; exact hx))
  have memT : ∀ n, ∀ x ∈ k :: rs.take n, x < 4294967296 := fun n x hx => by
    rcases List.mem_cons.mp hx with e | e
    · rw [e]; exact mem k List.mem_cons_self
    · exact mem x (List.mem_cons_of_mem _ (List.mem_of_mem_take e))
  have plain : ∀ (n : Nat) (x : Wm08.Call), (rs.take n).length = n → c = [up (k :: rs.take n)] → t = up (ns.drop (i + 1 + n)) → Reads ns i (k :: rs.take n, none) (i + 1 + n) → tcC x = (k :: rs.take n, none) → cFits x → PyWm08.whole [up (k :: rs.take n)] = [up (k :: rs.take n)] → Wm08Neutral.callIn (k :: rs.take n) = some x → ∃ x j, Reads ns i (tcC x) j ∧ i < j ∧ t = up (ns.drop j) ∧ cFits x ∧ Wm08Neutral.callOf ((PyWm08.whole c).headD []) = some x := by
    intro n x _ ec et hr ex hf ew hi
    refine ⟨x, i + 1 + n, by rw [ex]; exact hr, by omega, et, hf, ?_⟩
    rw [ec, ew]
    show Wm08Neutral.callOf (up (k :: rs.take n)) = _
    rw [callOf_up (memT n), hi]
  have rowed : ∀ (n j : Nat) (row : List Nat) (x : Wm08.Call), c = [up (k :: rs.take n), up row] → t = up (ns.drop j) → i < j → (∀ x ∈ row, x ∈ ns) → Reads ns i (k :: rs.take n, some row) j → tcC x = (k :: rs.take n, some row) → cFits x → PyWm08.whole [up (k :: rs.take n), up row] = [up ((k :: rs.take n) ++ row)] → Wm08Neutral.callIn ((k :: rs.take n) ++ row) = some x → ∃ x j, Reads ns i (tcC x) j ∧ i < j ∧ t = up (ns.drop j) ∧ cFits x ∧ Wm08Neutral.callOf ((PyWm08.whole c).headD []) = some x := by
    intro n j row x ec et hij hrow hr ex hf ew hi
    refine ⟨x, j, by rw [ex]; exact hr, hij, et, hf, ?_⟩
    rw [ec, ew]
    show Wm08Neutral.callOf (up ((k :: rs.take n) ++ row)) = _
    rw [callOf_up, hi]
    intro y hy
    rcases List.mem_append.mp hy with e | e
    · exact memT n y e
    · exact hn y (hrow y e)
  match k, h, hc, mem, memT, plain, rowed with
  | 0, h, hc, mem, memT, plain, rowed =>
    obtain ⟨g1, g2, g3, g4⟩ := call_plain (n := 4) h rfl rfl hc
    obtain ⟨a, b, r, p, e⟩ := len4 g1
    exact plain 4 (.do_ (.grant a b r p)) g1 g2 g3 g4 (by rw [e]; rfl) trivial (by rw [e]; rfl) (by rw [e]; rfl)
  | 1, h, hc, mem, memT, plain, rowed =>
    obtain ⟨g1, g2, g3, g4⟩ := call_plain (n := 3) h rfl rfl hc
    obtain ⟨a, b, r, e⟩ := len3 g1
    exact plain 3 (.do_ (.revoke a b r)) g1 g2 g3 g4 (by rw [e]; rfl) trivial (by rw [e]; rfl) (by rw [e]; rfl)
  | 2, h, hc, mem, memT, plain, rowed =>
    obtain ⟨g1, g2, g3, g4⟩ := call_plain (n := 3) h rfl rfl hc
    obtain ⟨a, b, r, e⟩ := len3 g1
    exact plain 3 (.do_ (.over a b r)) g1 g2 g3 g4 (by rw [e]; rfl) trivial (by rw [e]; rfl) (by rw [e]; rfl)
  | 3, h, hc, mem, memT, plain, rowed =>
    obtain ⟨g1, g2, g3, g4⟩ := call_plain (n := 1) h rfl rfl hc
    obtain ⟨a, e⟩ := len1 g1
    exact plain 1 (.do_ (.leave a)) g1 g2 g3 g4 (by rw [e]; rfl) trivial (by rw [e]; rfl) (by rw [e]; rfl)
  | 4, h, hc, mem, memT, plain, rowed =>
    obtain ⟨row, j, g1, g2, g3, g4, g5, g6⟩ := call_row (n := 1) h rfl rfl hc
    obtain ⟨a, e⟩ := len1 g1
    have hl : row.length ≤ 220 := by rw [g2] at hb; exact row_most hb
    exact rowed 1 j row (.do_ (.policy a row)) g2 g3 g4 g5 (g6 (by omega)) (by rw [e]; rfl) ⟨hl, fun n hnr => Nat.lt_trans (hn n (g5 n hnr)) (by decide)⟩ (by rw [e]; rfl) (by rw [e]; rfl)
  | 5, h, hc, mem, memT, plain, rowed =>
    obtain ⟨g1, g2, g3, g4⟩ := call_plain (n := 2) h rfl rfl hc
    obtain ⟨a, b, e⟩ := len2 g1
    exact plain 2 (.do_ (.quorum a b)) g1 g2 g3 g4 (by rw [e]; rfl) trivial (by rw [e]; rfl) (by rw [e]; rfl)
  | 6, h, hc, mem, memT, plain, rowed =>
    obtain ⟨row, j, g1, g2, g3, g4, g5, g6⟩ := call_row (n := 3) h rfl rfl hc
    obtain ⟨a, b, r, e⟩ := len3 g1
    have hl : row.length ≤ 30 := by rw [g2] at hb; exact row_most hb
    exact rowed 3 j row (.do_ (.ticket a b r row)) g2 g3 g4 g5 (g6 (by omega)) (by rw [e]; rfl) hl (by rw [e]; rfl) (by rw [e]; rfl)
  | 7, h, hc, mem, memT, plain, rowed =>
    obtain ⟨row, j, g1, g2, g3, g4, g5, g6⟩ := call_row (n := 3) h rfl rfl hc
    obtain ⟨a, b, r, e⟩ := len3 g1
    have hl : row.length ≤ 30 := by rw [g2] at hb; exact row_most hb
    exact rowed 3 j row (.do_ (.narrow a b r row)) g2 g3 g4 g5 (g6 (by omega)) (by rw [e]; rfl) hl (by rw [e]; rfl) (by rw [e]; rfl)
  | 8, h, hc, mem, memT, plain, rowed =>
    obtain ⟨g1, g2, g3, g4⟩ := call_plain (n := 2) h rfl rfl hc
    obtain ⟨a, b, e⟩ := len2 g1
    exact plain 2 (.do_ (.approve a b)) g1 g2 g3 g4 (by rw [e]; rfl) trivial (by rw [e]; rfl) (by rw [e]; rfl)
  | 9, h, hc, mem, memT, plain, rowed =>
    obtain ⟨row, j, g1, g2, g3, g4, g5, g6⟩ := call_row (n := 3) h rfl rfl hc
    obtain ⟨a, b, r, e⟩ := len3 g1
    have hl : row.length ≤ 6 := by rw [g2] at hb; exact row_most hb
    exact rowed 3 j row (.do_ (.open_ a b r row)) g2 g3 g4 g5 (g6 (by omega)) (by rw [e]; rfl) (show row.length ≤ 1000 by omega) (by rw [e]; rfl) (by rw [e]; rfl)
  | 10, h, hc, mem, memT, plain, rowed =>
    obtain ⟨row, j, g1, g2, g3, g4, g5, g6⟩ := call_row (n := 3) h rfl rfl hc
    obtain ⟨a, b, r, e⟩ := len3 g1
    have hl : row.length ≤ 6 := by rw [g2] at hb; exact row_most hb
    exact rowed 3 j row (.may a b r row) g2 g3 g4 g5 (g6 (by omega)) (by rw [e]; rfl) (show row.length ≤ 1000 by omega) (by rw [e]; rfl) (by rw [e]; rfl)
  | 11, h, hc, mem, memT, plain, rowed =>
    obtain ⟨row, j, g1, g2, g3, g4, g5, g6⟩ := call_row (n := 4) h rfl rfl hc
    obtain ⟨m, a, b, r, e⟩ := len4 g1
    have hl : row.length ≤ 6 := by rw [g2] at hb; exact row_most hb
    exact rowed 4 j row (.was m a b r row) g2 g3 g4 g5 (g6 (by omega)) (by rw [e]; rfl) (show row.length ≤ 1000 by omega) (by rw [e]; rfl) (by rw [e]; rfl)
  | 12, h, hc, mem, memT, plain, rowed =>
    obtain ⟨g1, g2, g3, g4⟩ := call_plain (n := 1) h rfl rfl hc
    obtain ⟨a, e⟩ := len1 g1
    exact plain 1 (.hang a) g1 g2 g3 g4 (by rw [e]; rfl) trivial (by rw [e]; rfl) (by rw [e]; rfl)
  | 13, h, hc, mem, memT, plain, rowed =>
    obtain ⟨g1, g2, g3, g4⟩ := call_plain (n := 0) h rfl rfl hc
    exact plain 0 (.opened) g1 g2 g3 g4 rfl trivial rfl rfl
  | 14, h, hc, mem, memT, plain, rowed =>
    obtain ⟨g1, g2, g3, g4⟩ := call_plain (n := 1) h rfl rfl hc
    obtain ⟨a, e⟩ := len1 g1
    exact plain 1 (.grants a) g1 g2 g3 g4 (by rw [e]; rfl) trivial (by rw [e]; rfl) (by rw [e]; rfl)
  | 15, h, hc, mem, memT, plain, rowed =>
    obtain ⟨g1, g2, g3, g4⟩ := call_plain (n := 1) h rfl rfl hc
    obtain ⟨a, e⟩ := len1 g1
    exact plain 1 (.tickets a) g1 g2 g3 g4 (by rw [e]; rfl) trivial (by rw [e]; rfl) (by rw [e]; rfl)
  | 16, h, hc, mem, memT, plain, rowed =>
    obtain ⟨g1, g2, g3, g4⟩ := call_plain (n := 2) h rfl rfl hc
    obtain ⟨a, b, e⟩ := len2 g1
    exact plain 2 (.chain a b) g1 g2 g3 g4 (by rw [e]; rfl) trivial (by rw [e]; rfl) (by rw [e]; rfl)
  | 17, h, hc, mem, memT, plain, rowed =>
    obtain ⟨g1, g2, g3, g4⟩ := call_plain (n := 2) h rfl rfl hc
    obtain ⟨a, b, e⟩ := len2 g1
    exact plain 2 (.allowers a b) g1 g2 g3 g4 (by rw [e]; rfl) trivial (by rw [e]; rfl) (by rw [e]; rfl)
  | 18, h, hc, mem, memT, plain, rowed =>
    obtain ⟨g1, g2, g3, g4⟩ := call_plain (n := 0) h rfl rfl hc
    exact plain 0 (.length) g1 g2 g3 g4 rfl trivial rfl rfl
  | k + 19, h, hc, mem, memT, plain, rowed =>
    exfalso
    have hs : PyWm08.shape ((k + 19 : Nat) : Int) = none := by
      unfold PyWm08.shape
      repeat (rw [if_neg (by omega)])
    unfold up PyFlat.call at hc
    rw [List.map_cons] at hc
    dsimp only at hc
    rw [hs] at hc
    cases hc
theorem plays_of {ns : List Nat} (hn : ∀ n ∈ ns, n < 4294967296) : ∀ (f i : Nat) (raw : List (List (List Int))) (h : Wm08.House), PyFlat.calls PyWm08.shape f (up (ns.drop i)) = some raw → PyInside.calls PyWm08.bound raw = true →
    Plays ns i h (PyFlat.told (PyFlat.played (fun s c => Wm08Neutral.step s (c.headD [])) h (raw.map PyWm08.whole))) := by
  intro f
  induction f with
  | zero =>
    intro i raw h hc hb
    cases e : ns.drop i with
    | nil =>
      rw [e] at hc
      have : raw = [] := by
        unfold up PyFlat.calls at hc
        simpa using hc.symm
      subst this
      exact .done (List.drop_eq_nil_iff.mp e)
    | cons k rs =>
      rw [e] at hc
      unfold up PyFlat.calls at hc
      simp at hc
  | succ f ih =>
    intro i raw h hc hb
    cases e : ns.drop i with
    | nil =>
      rw [e] at hc
      have : raw = [] := by
        unfold up PyFlat.calls at hc
        simpa using hc.symm
      subst this
      exact .done (List.drop_eq_nil_iff.mp e)
    | cons k rs =>
      rw [e] at hc
      have hc : (match PyFlat.call PyWm08.shape (up (k :: rs)) with
        | none => none
        | some (c, t) => match PyFlat.calls PyWm08.shape f t with
          | none => none
          | some cs => some (c :: cs)) = some raw := hc
      cases e1 : PyFlat.call PyWm08.shape (up (k :: rs)) with
      | none => rw [e1] at hc; cases hc
      | some ct =>
        obtain ⟨c, t⟩ := ct
        rw [e1] at hc
        dsimp only at hc
        cases e2 : PyFlat.calls PyWm08.shape f t with
        | none => rw [e2] at hc; cases hc
        | some cs =>
          rw [e2] at hc
          have hr : c :: cs = raw := Option.some.inj hc
          subst hr
          have hb' : (PyInside.call PyWm08.bound c && PyInside.calls PyWm08.bound cs) = true := hb
          rw [Bool.and_eq_true] at hb'
          obtain ⟨x, j, g1, g2, g3, g4, g5⟩ := call_one hn e e1 hb'.1
          rw [g3] at e2
          have ih' := ih j cs (Wm08.step h x).1 e2 hb'.2
          have st : Wm08Neutral.step h ((PyWm08.whole c).headD []) = Wm08.step h x := by
            unfold Wm08Neutral.step
            rw [g5]
          obtain ⟨_, _, hl⟩ := drop_next e
          have := Plays.more (h := h) (by omega) g1 g2 g4 ih'
          show Plays ns i h (PyFlat.told ((Wm08Neutral.step h ((PyWm08.whole c).headD [])).2 :: PyFlat.played (fun s c => Wm08Neutral.step s (c.headD [])) (Wm08Neutral.step h ((PyWm08.whole c).headD [])).1 (cs.map PyWm08.whole)))
          rw [st]
          show Plays ns i h (List.flatMap _ (_ :: _))
          rw [List.flatMap_cons]
          exact this
theorem asked_plays {l : List Int} (hl : ∀ x ∈ l, 0 ≤ x ∧ x ≤ 4294967295) (ha : PyWm08.answers_asked l = true) : ∃ ns : List Nat, l = up ns ∧ Plays ns 0 Wm08.init (PyWm08.answers l) ∧ (PyWm08.answers l).length ≤ 10000000 := by
  refine ⟨l.map Int.toNat, ?_, ?_, ?_⟩
  · unfold up
    rw [List.map_map]
    conv => lhs; rw [← List.map_id l]
    apply List.map_congr_left
    intro x hx
    have := hl x hx
    show x = ((x.toNat : Nat) : Int)
    omega
  · have e : l = up (l.map Int.toNat) := by
      unfold up
      rw [List.map_map]
      conv => lhs; rw [← List.map_id l]
      apply List.map_congr_left
      intro x hx
      have := hl x hx
      show x = ((x.toNat : Nat) : Int)
      omega
    have hn : ∀ n ∈ l.map Int.toNat, n < 4294967296 := fun n hn => by
      obtain ⟨x, hx, e⟩ := List.mem_map.mp hn
      have := hl x hx
      omega
    unfold PyWm08.answers_asked at ha
    cases e1 : PyFlat.calls PyWm08.shape l.length l with
    | none => rw [e1] at ha; cases ha
    | some raw =>
      rw [e1] at ha
      simp only [Bool.and_eq_true] at ha
      have hb : PyInside.calls PyWm08.bound raw = true := ha.1.1.2
      have e2 : PyFlat.calls PyWm08.shape l.length (up ((l.map Int.toNat).drop 0)) = some raw := by
        rw [List.drop_zero, ← e]; exact e1
      have := plays_of hn l.length 0 raw Wm08.init e2 hb
      unfold PyWm08.answers PyWm08.calls
      rw [e1]
      exact this
  · unfold PyWm08.answers_asked at ha
    split at ha
    · cases ha
    · simp only [Bool.and_eq_true] at ha
      have := ha.2
      unfold PyFlat.short at this
      exact of_decide_eq_true this
end Gh
set_option Elab.async false
set_option linter.all false
set_option maxRecDepth 100000
set_option maxHeartbeats 4000000
namespace Gh
open PySem PySem.Spec PyProof.Rows L2
open PySem.W (WData Codec OpenSpec)
/-- the end of a Spec row, the written part told by the head -/
theorem walk_specE {r : OpenSpec} {k : Nat} {q : Program} {loose : List Str} {XP : (Str → Option Value) → Heap → Prop} {YP : World → Heap → Prop} {d : DefRec} {ps : List Str} {sp : PySem.W.Frag → Sp}
    (hwell : r.wellSaid = true) (hlen : r.args.length = ps.length) (hr : Room k callerA)
    (F : ∀ (w : World) (mg : Str → Option Value) (fa : Addr) (h : Heap), YP w h → h.Ns mainGlobals mg → mg d.name = some (.ref fa) →
      ∃ K : PySem.W.Frag, K.In h ∧ ∃ fd : FuncData, (∀ (s : Shared) (us : List Value), us.length = ps.length → BindsTo s fd ⟨us, []⟩ (ps.zip us)) ∧ ∀ base : Heap, FnOk r.prog w K mg base CX0 k fa fd ps (sp K))
    (hsp : ∀ (K : PySem.W.Frag) (H : Hp) (xs : List V) (a : Codec.denoteAll r.args), OnlyF H → Codec.withinAll r.args a = true → Codec.app r.args r.asked a = true → DwAll K H xs (Codec.encAll r.args a) →
      sp K xs H (fun v H' => Dw K H' v (r.ret.enc (Codec.app r.args r.f a))) fun _ _ _ => False) :
    PySem.W.WalkOS q loose XP YP r d [] (fun f vs => PySem.call f vs) := by
  intro w s₀ s₁ mg mb G Y fa o pm cd doc dV kV ho hd hcd hD hmg hg args vals as hpre hlay hrd hwl hlo
  obtain ⟨a, e1, e2⟩ := PySem.W.os_pre_some hpre
  obtain ⟨e3, hwi⟩ := Codec.encAll_of_decAll r.args args a e1
  subst e3
  obtain ⟨K, KX, fd, hb, hF⟩ := F w mg fa _ Y G.T.g hmg
  refine PySem.W.enter_call (codeAny_mono (spec_call (R := []) (cl := classAt s₀.heap) (d0 := r.ret.enc (Codec.app r.args r.f a)) KX G.T.g G.T.b G.T.builtins G.T.nolimit hg hwl (pl_encAll _ _) (layable_weight hlay) hr (fun base _ _ => hF base) hb (by rw [encAll_len]; exact hlen)
    (fun H xs hO hS => hsp K H xs a hO hwi e2 hS) fun H e s' z => z) fun r' s' hq => ?_)
  obtain ⟨u, as', rfl, h1, h2, h3, h4⟩ := hq
  exact ⟨.inl ⟨u, _, as', rfl, fun _ => rfl, h1, (OpenSpec.post_iff hwell hwi _ _).mpr rfl, fun z => Bool.noConfusion (show false = true from z)⟩, h2, h3, h4⟩
theorem nats_up (ns : List Nat) : (up ns).map V.int = nats ns := by
  unfold up nats
  rw [List.map_map]
  rfl
theorem within_ints {lo hi : Int} {a b : Nat} {l : List Int} (h : Codec.within (.list a b (.int lo hi)) l = true) : ∀ x ∈ l, lo ≤ x ∧ x ≤ hi := by
  intro x hx
  have h' : PySem.W.Codec.inList a b (PySem.W.Codec.inInt lo hi) l = true := h
  unfold PySem.W.Codec.inList at h'
  rw [Bool.and_eq_true] at h'
  have h2 := List.all_eq_true.mp h'.2 x hx
  unfold PySem.W.Codec.inInt at h2
  simpa using h2
theorem tells : ∀ (K : PySem.W.Frag) (H : Hp) (xs : List V) (a : Codec.denoteAll R.args), OnlyF H → Codec.withinAll R.args a = true → Codec.app R.args R.asked a = true → DwAll K H xs (Codec.encAll R.args a) →
      spAnswers K xs H (fun v H' => Dw K H' v (R.ret.enc (Codec.app R.args R.f a))) fun _ _ _ => False := by
  intro K H xs a hO hwi hask hx
  cases hx with
  | cons h1 h2 =>
    cases h2
    cases h1 with
    | lst hs ha =>
      have e := ints_dw a.1 _ ha
      subst e
      have hin : ∀ x ∈ a.1, (0 : Int) ≤ x ∧ x ≤ 4294967295 := within_ints (Bool.and_eq_true_iff.mp hwi).1
      obtain ⟨ns, e1, hp, hl⟩ := asked_plays hin hask
      refine ⟨_, ns, PyWm08.answers a.1, rfl, ?_, hp, hl, fun H' p hy => .lst (SqL.of hy) (dw_ints _)⟩
      rw [← nats_up, ← e1]
      exact hs
theorem walk {d : DefRec} (hn : d.name = "answers") : PySem.W.WalkOS (PySem.W.view R.prog [answersAt]) loose (PySem.W.XL (PySem.W.view R.prog [answersAt]) []) hk.says R d [] (fun f vs => PySem.call f vs) := by
  refine walk_specE (k := 33) (ps := ["calls"]) (sp := spAnswers) said rfl ⟨rfl, by decide, by decide⟩ (fun w mg fa' h Y G hmg => ?_) tells
  obtain ⟨K, KX, says, tab⟩ := Y
  have T : TX K mg := ⟨says, ⟨h, KX, G⟩, tab⟩
  rw [hn] at hmg
  have e := hmg.symm.trans T.g_answers
  obtain ⟨fd, h1, h2⟩ := un_answers (P := R.prog) (w := w) T
  refine ⟨K, KX, fd, h1, fun base => ?_⟩
  have e2 : fa' = He.ga K "answers" := by
    have e3 := Option.some.inj e
    exact Value.ref.inj e3
  rw [e2]
  exact h2 base
end Gh
open PySem PySem.W PySem.Calls PyProof.Rows
theorem PySem.Challenge.cw_granthouse_s01_answers_holds : PySem.Challenge.rw_granthouse_s01_answers.Holds := by
  refine HandSHeadRun.head_spec (r := Gh.R) (q := view Gh.R.prog [Gh.answersAt]) (H := Gh.hk) (ob := Gh.ob) (M := 8000) (loose := Gh.loose) (kwd := []) Gh.ob_eq Gh.opens Gh.fences Gh.run (by rfl) (by rfl) (by rfl) os_shapes Gh.said Gh.looks Gh.bare Gh.some_req (Gh.walk rfl)
